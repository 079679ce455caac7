import PyProof.Rows.All
import Wide.All
import OpenK.AllK
import Wide.FinOn
import KE.KStateDown
import KE.KNestM
import HandS.ForMost
import HandS.TupAny
import HandS.Strs
import HandS.Walk
import HandS.Deep
import HandS.Lambda
import HandS.AnyAll
import KE.GoesEnum
import HandS.SetFor
import HandS.IsInst
import HandS.Exc
import HandS.TryOnly
import HandS.ExcOwn
import HandS.WordsExc
import HandS.Conv
import PyProof.ListStr
import KE.KDflt
import HandS.ExcInit
import HandS.ExcIs
import HandS.ExcField
import HandS.ClsMeth
import HandS.Property
import HandS.Star
import HandS.Style
import HandS.TupMul
import HandS.FStr
import HandS.HeadNt
import HandS.HeadHook4
import HandS.RepeatKit
import KE.SortData
import HandS.GenList
import HandS.GenYield
import KE.KTryMore
import PyProof.Rows.CatchTuple
import HandS.ExcInitHot
import HandS.Words
import HandS.ExcCtx
import HandS.SuiteRaise
import HandS.RaiseFrom
import HandS.Comp
import HandS.More
import HandS.Replace
import HandS.Text
import HandS.Rev
import HandS.WideBits
import HandS.RevRange
import HandS.Flow
import HandS.Bytes
import HandS.Head3
import HandS.HeadWalk
import HandS.HeadEnd
import HandS.Head0
import HandS.Head1
import HandS.Head2
import PySem.Challenge.RW_flagsteps_k61_invalid_bytes
set_option Elab.async false
set_option linter.all false
set_option maxRecDepth 100000
set_option maxHeartbeats 2000000
namespace FS
open PySem PySem.Spec PyProof.Rows L2
/-- at a: a plain tuple of xs -/
def NT (H : Hp) (a : Addr) (xs : List V) : Prop := ∃ o : Obj, H a = some (.frz o (.tup xs)) ∧ o.cls = .type "tuple" ∧ o.dict = none
theorem NT.seq {K : PySem.W.Frag} {H : Hp} {a : Addr} {xs : List V} (h : NT H a xs) : SqT K H a xs := by
  obtain ⟨o, e, _⟩ := h
  exact .inl (.inr ⟨o, e⟩)
end FS
set_option maxHeartbeats 2000000
namespace FS
open PySem PySem.Spec PyProof.Rows L2 LamX GxR
/-- all but lists and tables -/
def KT (H H' : Hp) : Prop := ∀ b o, (∀ xs, o ≠ .lst xs) → (∀ ps, o ≠ .tbl ps) → H b = some o → H' b = some o
theorem KT.trans {H H1 H2 : Hp} (a : KT H H1) (b : KT H1 H2) : KT H H2 := fun c o h1 h2 e => b c o h1 h2 (a c o h1 h2 e)
/-- all but r and tables -/
def Ev (r : Addr) (H H' : Hp) : Prop := ∀ b o, b ≠ r → (∀ ps, o ≠ .tbl ps) → H b = some o → H' b = some o
theorem Ev.trans {r : Addr} {H H1 H2 : Hp} (a : Ev r H H1) (b : Ev r H1 H2) : Ev r H H2 := fun c o h1 h2 e => b c o h1 h2 (a c o h1 h2 e)
theorem ev_of {r : Addr} {H H' : Hp} (e : ExtN H H') : Ev r H H' := fun b o _ n h => e b o h n
/-- the tables: those of generator expressions, those of lambdas -/
def TBS (G : List Addr) (L : List (Addr × Str)) (H : Hp) : Prop := (∀ p ∈ G, TabG H p) ∧ ∀ p ∈ L, TabS H p.1 p.2
structure Apart (G : List Addr) (L : List (Addr × Str)) : Prop where
  gl : ∀ p ∈ L, p.1 ∉ G
  ll : ∀ p ∈ L, ∀ q ∈ L, p.1 = q.1 → p = q
section
variable {G : List Addr} {L : List (Addr × Str)} {H H' H1 H2 : Hp} {r : Addr}
theorem tabG_keep {P : Addr} (t : TabG H P) (k : ∀ o, H P = some o → H' P = some o) : TabG H' P := by
  obtain ⟨ps, e, ok⟩ := t
  exact ⟨ps, k _ e, ok⟩
theorem tabS_keep {P : Addr} {q : Str} (t : TabS H P q) (k : ∀ o, H P = some o → H' P = some o) (kc : ∀ c, H c = some (CodeO c q) → H' c = some (CodeO c q)) : TabS H' P q := by
  obtain ⟨ps, e, ok, cs⟩ := t
  refine ⟨ps, k _ e, ok, fun pos cv h => ?_⟩
  obtain ⟨c, e1, e2⟩ := cs pos cv h
  exact ⟨c, e1, kc c e2⟩
theorem code_lst {c : Addr} {q : Str} {xs : List V} : CodeO c q ≠ .lst xs := fun z => by
  have z' : HO.ext _ = HO.lst xs := z
  cases z'
/-- a call that changes nothing but tables -/
def Go (G : List Addr) (L : List (Addr × Str)) (H H' : Hp) : Prop := ExtN H H' ∧ (TBS G L H → TBS G L H')
theorem Go.trans (a : Go G L H H1) (b : Go G L H1 H2) : Go G L H H2 := ⟨a.1.trans b.1, fun t => b.2 (a.2 t)⟩
theorem Go.same (e : ∀ b o, H b = some o → H' b = some o) : Go G L H H' :=
  ⟨fun b o h _ => e b o h, fun t => ⟨fun p hp => tabG_keep (t.1 p hp) (e p), fun p hp => tabS_keep (t.2 p hp) (e _) fun c => e c _⟩⟩
theorem Go.new {p : Addr} {o : HO} (n : H p = none) : Go G L H (upd H p o) := Go.same fun b u e => by rw [upd_ne (ne_of_none e n)]; exact e
theorem Go.but {p : Addr × Str} (A : Apart G L) (hp : p ∈ L) (t : TBS G L H) (e : ∀ b o, b ≠ p.1 → H b = some o → H' b = some o) (ts : TabS H' p.1 p.2) : Go G L H H' := by
  obtain ⟨ps, hps, _⟩ := t.2 p hp
  have nP : ∀ b o, (∀ q, o ≠ .tbl q) → H b = some o → b ≠ p.1 := fun b o n h z => by
    rw [z, hps] at h
    exact n ps (Option.some.inj h).symm
  refine ⟨fun b o h n => e b o (nP b o n h) h, fun _ => ⟨fun q hq => tabG_keep (t.1 q hq) fun o => e q o fun z => A.gl p hp (z ▸ hq), fun q hq => ?_⟩⟩
  by_cases z : q.1 = p.1
  · rw [A.ll q hq p hp z]
    exact ts
  · exact tabS_keep (t.2 q hq) (fun o => e _ o z) fun c hc => e _ _ (nP c _ codeO_ne hc) hc
/-- a call that changes the list at r, too -/
def GoR (G : List Addr) (L : List (Addr × Str)) (r : Addr) (H H' : Hp) : Prop := Ev r H H' ∧ (TBS G L H → TBS G L H')
theorem GoR.trans (a : GoR G L r H H1) (b : GoR G L r H1 H2) : GoR G L r H H2 := ⟨a.1.trans b.1, fun t => b.2 (a.2 t)⟩
theorem Go.toR (a : Go G L H H') : GoR G L r H H' := ⟨ev_of a.1, a.2⟩
theorem GoR.upd {xs ys : List V} (hr : H r = some (.lst xs)) : GoR G L r H (upd H r (.lst ys)) := by
  have k : ∀ b o, b ≠ r → H b = some o → L2.upd H r (.lst ys) b = some o := fun b o n h => by rw [upd_ne n]; exact h
  have nr : ∀ b o, (∀ zs, o ≠ .lst zs) → H b = some o → b ≠ r := fun b o n h z => by
    rw [z, hr] at h
    exact n xs (Option.some.inj h).symm
  refine ⟨fun b o n _ h => k b o n h, fun t => ⟨fun p hp => ?_, fun p hp => ?_⟩⟩
  · obtain ⟨ps, e, _⟩ := t.1 p hp
    exact tabG_keep (t.1 p hp) fun o => k p o (nr p _ (fun zs q => by cases q) e)
  · obtain ⟨ps, e, _⟩ := t.2 p hp
    exact tabS_keep (t.2 p hp) (fun o => k _ o (nr _ _ (fun zs q => by cases q) e)) fun c hc => k _ _ (nr c _ (fun zs => code_lst) hc) hc
theorem Go.lst {a : Addr} {xs : List V} (g : Go G L H H') (h : H a = some (.lst xs)) : H' a = some (.lst xs) := g.1 a _ h fun ps z => by cases z
theorem GoR.lst {a : Addr} {xs : List V} (g : GoR G L r H H') (n : a ≠ r) (h : H a = some (.lst xs)) : H' a = some (.lst xs) := g.1 a _ n (fun ps z => by cases z) h
theorem GoR.free {b : Addr} {o : HO} (g : GoR G L r H H') (n : b ≠ r) (hn : ∀ ps, o ≠ .tbl ps) (h : H b = some o) : H' b = some o := g.1 b o n hn h
end
def Tp (H : Hp) (a : Addr) (xs : List V) : Prop := H a = some (.tup xs) ∨ ∃ o, H a = some (.frz o (.tup xs))
theorem Tp.seq {K : PySem.W.Frag} {H : Hp} {a : Addr} {xs : List V} (h : Tp H a xs) : SqT K H a xs := .inl h
theorem NT.tp {H : Hp} {a : Addr} {xs : List V} (h : NT H a xs) : Tp H a xs := by
  obtain ⟨o, e, _⟩ := h
  exact .inr ⟨o, e⟩
theorem NT.of {H : Hp} {p : Addr} {o : Obj} {xs : List V} (h1 : o.cls = .type "tuple") (h2 : o.dict = none) : NT (upd H p (.frz o (.tup xs))) p xs := ⟨o, upd_same, h1, h2⟩
mutual
inductive Im (H : Hp) : V → PyData → Prop
  | non : Im H .non .none
  | bl (b : Bool) : Im H (.bl b) (.bool b)
  | int (i : Int) : Im H (.int i) (.int i)
  | str (x : Str) : Im H (.str x) (.str x)
  | tup {a : Addr} {xs : List V} {ds : List PyData} : Tp H a xs → Ims H xs ds → Im H (.ref a) (.tuple ds)
inductive Ims (H : Hp) : List V → List PyData → Prop
  | nil : Ims H [] []
  | cons {v : V} {vs : List V} {d : PyData} {ds : List PyData} : Im H v d → Ims H vs ds → Ims H (v :: vs) (d :: ds)
end
theorem Ims.length {H : Hp} : ∀ {vs : List V} {ds : List PyData}, Ims H vs ds → vs.length = ds.length
  | _, _, .nil => rfl
  | _, _, .cons _ t => congrArg (· + 1) t.length
theorem Ims.take {H : Hp} : ∀ {vs : List V} {ds : List PyData} (n : Nat), Ims H vs ds → Ims H (vs.take n) (ds.take n)
  | _, _, 0, _ => .nil
  | _, _, _ + 1, .nil => .nil
  | _, _, n + 1, .cons h t => .cons h (Ims.take n t)
theorem Ims.drop {H : Hp} : ∀ {vs : List V} {ds : List PyData} (n : Nat), Ims H vs ds → Ims H (vs.drop n) (ds.drop n)
  | _, _, 0, r => r
  | _, _, _ + 1, .nil => .nil
  | _, _, n + 1, .cons _ t => Ims.drop n t
theorem Dps.length {K : PySem.W.Frag} {H : Hp} : ∀ {vs : List V} {ds : List PyData}, DpAll K H vs ds → vs.length = ds.length
  | _, _, .nil => rfl
  | _, _, .cons _ t => congrArg (· + 1) (Dps.length t)
theorem Dps.take {K : PySem.W.Frag} {H : Hp} : ∀ {vs : List V} {ds : List PyData} (n : Nat), DpAll K H vs ds → DpAll K H (vs.take n) (ds.take n)
  | _, _, 0, _ => .nil
  | _, _, _ + 1, .nil => .nil
  | _, _, n + 1, .cons h t => .cons h (Dps.take n t)
end FS
set_option maxHeartbeats 2000000
set_option maxHeartbeats 2000000
set_option maxHeartbeats 2000000
set_option maxHeartbeats 2000000
set_option maxHeartbeats 2000000
set_option maxHeartbeats 2000000
set_option maxHeartbeats 2000000
namespace FS
open PySem PySem.Spec PyProof.Rows L2 LamX
section
variable {X : Cx} {pins : List (Addr × Obj)} {σ : L2.St} {H : Hp} {s : Shared}
/-- the lambda's names: captured ones, globals, parameters that its maker has no name of -/
structure LamS1 (N : List Str) (sc0 sc : Scope) : Prop where
  kind : sc.kind = .function
  co : sc.isCoroutine = false
  gen : sc.isGenerator = false
  own : ∀ y ∈ sc.names, y.2 ≠ .cell ∧ (y.2 = .local → y.1 ∉ N)
  free : ∀ y ∈ sc.names, y.2 = .free → sc0.names.lookup y.1 = some .cell ∨ sc0.names.lookup y.1 = some .free
theorem LamS1.has {N : List Str} {sc : Scope} (L : LamS1 N X.env.scope sc) (ok : X.Ok) : ∀ y ∈ sc.names, y.2 = .free → ∃ c, X.env.cells.lookup y.1 = some c := fun y hy e => by
  rcases L.free y hy e with z | z
  · exact ok.has _ (.inl z)
  · exact ok.has _ (.inr z)
end
end FS
set_option maxHeartbeats 2000000
set_option maxHeartbeats 2000000
namespace FS
open PySem PySem.Spec PyProof.Rows L2
abbrev PG0 : Program := PySem.Challenge.pw_flagsteps_k61_invalid_bytes
def top (i : Nat) : Stmt := PG0.main.body.getD i (.Pass ⟨0, 0, 0, 0⟩)
abbrev iRules : Nat := 38
abbrev iReader : Nat := 53
end FS
set_option maxHeartbeats 2000000
set_option maxHeartbeats 1000000
set_option maxHeartbeats 1000000
set_option maxHeartbeats 2000000
set_option maxHeartbeats 2000000
set_option maxHeartbeats 1000000
set_option maxHeartbeats 2000000
set_option maxHeartbeats 2000000
set_option maxHeartbeats 2000000
set_option maxHeartbeats 2000000
set_option maxHeartbeats 2000000
set_option maxHeartbeats 2000000
set_option maxHeartbeats 2000000
set_option maxHeartbeats 400000
namespace FS
open PySem PySem.Spec PyProof.Rows L2
/-- one step of a reading -/
local macro_rules | `(tactic| walk_at "rd") => `(tactic| first
  | ((with_reducible refine r_var (v := ?v) ?h ?_); (case h => rfl))
  | (with_reducible refine r_c ?_)
  | (with_reducible refine r_op ?_)
  | (with_reducible refine r_cons ?_)
  | (with_reducible refine r_nil ?_)
  | (with_reducible refine r_I0 ?_)
  | (with_reducible refine r_test ?_)
  | (with_reducible refine r_bl ?_)
  | (with_reducible refine r_tB ?_)
  | (with_reducible refine r_chain ?_)
  | (with_reducible refine iteT ?_)
  | (with_reducible refine iteF ?_)
  | (with_reducible refine r_nf ?_)
  | (with_reducible refine r_nt ?_)
  | (with_reducible refine r_not ?_)
  | (with_reducible refine r_and ?_)
  | (with_reducible refine r_or ?_)
  | (with_reducible refine r_notV ?_)
  | (with_reducible refine r_andV ?_)
  | (with_reducible refine r_orV ?_)
  | (with_reducible refine r_ifE ?_)
  | (with_reducible refine r_seq ?_)
  | (with_reducible refine r_asg ?_)
  | (with_reducible refine r_gN ?_)
  | (with_reducible refine r_ifS ?_)
  | (with_reducible refine r_ret ?_)
  | (with_reducible refine r_drop ?_)
  | (with_reducible refine r_retN ?_)
  | (with_reducible refine r_next ?_)
  | (with_reducible refine r_cb ?_)
  | (with_reducible refine r_call ?_)
  | (with_reducible refine r_lst ?_)
  | (with_reducible refine r_tup ?_)
  | (with_reducible refine r_fld ?_)
  | (with_reducible refine r_gsub ?_)
  | (with_reducible refine r_make ?_)
  | (with_reducible refine r_sl ?_)
  | (with_reducible refine r_part ?_)
  | (with_reducible refine r_nopart ?_)
  | (with_reducible refine r_isInt ?_)
  | (with_reducible refine r_tm ?_)
  | (with_reducible refine r_bm ?_)
  | (with_reducible refine r_int1 ?_)
  | (with_reducible refine r_intB ?_)
  | (dsimp only))
section
variable {P : Program} {w : World} {K : PySem.W.Frag} {mg : Str → Option Value} {base : Heap}
/-- the script at a, whatever stands at r -/
def Scr (K : PySem.W.Frag) (H : Hp) (r a : Addr) (ns : List Int) : Prop := ∀ H', Ev r H H' → SqL K H' a (ns.map V.int)
/-- where the row of draws stands, where its script, which -/
structure Rid where
  r : Addr
  a : Addr
  ns : List Int
def Row (K : PySem.W.Frag) (H : Hp) (ρ : Rid) : Prop := ∃ (i s l : Int), Scr K H ρ.r ρ.a ρ.ns ∧ ρ.ns.length ≤ 63 ∧ H ρ.r = some (.lst [.ref ρ.a, .int i, .int s, .int l]) ∧ 0 ≤ i
end
def letters : Str := "abcdefghijklmnopqrstuvwxyz"
def nameOk : PyData → Bool
  | .str z => decide (1 ≤ (z.length : Int)) && decide ((z.length : Int) ≤ 8) && z.cps.toList.all fun c => decide (c ∈ letters.cps.toList)
  | _ => false
def inD (d : PyData) (ds : List PyData) : Bool := ds.any fun z => PyData.eqv z d
def wordsD : List PyData := [.str "needs", .str "excludes", .str "either"]
def clauseOk (nd : List PyData) : PyData → Bool
  | .tuple [x, y, z] => inD x wordsD && inD y nd && inD z nd
  | _ => false
section
variable {P : Program} {w : World} {K : PySem.W.Frag} {mg : Str → Option Value} {base : Heap} {G : List Addr} {L : List (Addr × Str)}
abbrev sErr (i : Nat) : Stmt := inClass (top i) 0
end
theorem inD_strs (z : Str) (ns : List Str) : inD (.str z) (ns.map PyData.str) = decide (z ∈ ns) := by
  induction ns with
  | nil => rfl
  | cons y ns ih =>
    show ((y == z) || inD (.str z) (ns.map PyData.str)) = _
    rw [ih]
    by_cases h : y = z
    · subst h
      simp
    · have h' : (y == z) = false := by simpa using h
      have h2 : ¬ z = y := fun q => h q.symm
      rw [h', Bool.false_or]
      simp [h2]
theorem inD_no {d : PyData} (h : ∀ z, d ≠ .str z) (ns : List Str) : inD d (ns.map PyData.str) = false := by
  induction ns with
  | nil => rfl
  | cons y ns ih =>
    show (PyData.eqv (.str y) d || inD d (ns.map PyData.str)) = false
    rw [ih]
    cases d with
    | str z => exact absurd rfl (h z)
    | _ => simp [PyData.eqv]
section
variable {P : Program} {w : World} {K : PySem.W.Frag} {mg : Str → Option Value} {base : Heap} {G : List Addr} {L : List (Addr × Str)}
def goodS (ns : List Str) : Prop := (∀ z ∈ ns, PyData.strOk z = true) ∧ ns.length ≤ 60
end
def scanN : List PyData → List PyData → Option Nat
  | _, [] => none
  | pre, d :: ds => if decide ((10 : Int) ≤ (pre.length : Nat)) || (!nameOk d || inD d pre) then some pre.length else scanN (pre ++ [d]) ds
def namesBad : PyData → Option Nat
  | .tuple [] => some 0
  | .tuple ds => scanN [] ds
  | _ => some 0
section
variable {G : List Addr} {L : List (Addr × Str)} {H H' : Hp} {r D : Addr} {xs ys : List V}
theorem GoR.new {o : HO} (g : GoR G L r H H') (n : H' D = none) : GoR G L r H (L2.upd H' D o) := g.trans (Go.new n).toR
end
section
variable {P : Program} {w : World} {K : PySem.W.Frag} {mg : Str → Option Value} {base : Heap} {G : List Addr} {L : List (Addr × Str)}
abbrev cR (K : PySem.W.Frag) : Addr := He.ga K "Rules"
abbrev sM (j : Nat) : Stmt := inClass (top iRules) j
def rfs (nv cv : V) : List (Str × V) := [("_names", nv), ("_clauses", cv)]
end
section
variable {P : Program} {w : World} {K : PySem.W.Frag} {mg : Str → Option Value} {base : Heap} {G : List Addr} {L : List (Addr × Str)}
def RulesAt (K : PySem.W.Frag) (H : Hp) (x : Addr) (ns : List Str) (cd : List PyData) : Prop := ∃ dx an ac xs, H x = some (.ins (cR K) dx (rfs (.ref an) (.ref ac))) ∧ NT H an (ns.map V.str) ∧ Tp H ac xs ∧ Ims H xs cd
structure OkR (ns : List Str) (cd : List PyData) : Prop where
  gs : goodS ns
  nb : namesBad (.tuple (ns.map PyData.str)) = none
  sm : ∀ z ∈ ns, z.length ≤ sizeLine
  cs : ∀ d ∈ cd, clauseOk (ns.map PyData.str) d = true
  cl : cd.length ≤ 40
theorem inD_str {d : PyData} {ns : List Str} (h : inD d (ns.map PyData.str) = true) : ∃ z, d = .str z ∧ z ∈ ns := by
  cases d with
  | str z =>
    rw [inD_strs] at h
    exact ⟨z, rfl, of_decide_eq_true h⟩
  | _ =>
    rw [inD_no (fun z q => by cases q)] at h
    cases h
theorem clause_shape {ns : List Str} {d : PyData} (h : clauseOk (ns.map PyData.str) d = true) : ∃ w a b, d = .tuple [.str w, .str a, .str b] ∧ (w = "needs" ∨ w = "excludes" ∨ w = "either") ∧ a ∈ ns ∧ b ∈ ns := by
  match d, h with
  | .tuple [x, y, z], h =>
    have h' : (inD x ((["needs", "excludes", "either"] : List Str).map PyData.str) && inD y (ns.map PyData.str) && inD z (ns.map PyData.str)) = true := h
    rw [Bool.and_eq_true, Bool.and_eq_true] at h'
    obtain ⟨⟨h1, h2⟩, h3⟩ := h'
    obtain ⟨w, rfl, hw⟩ := inD_str h1
    obtain ⟨a, rfl, ha⟩ := inD_str h2
    obtain ⟨b, rfl, hb⟩ := inD_str h3
    exact ⟨w, a, b, rfl, by simpa using hw, ha, hb⟩
theorem word_ok {w : Str} (h : w = "needs" ∨ w = "excludes" ∨ w = "either") : PyData.strOk w = true := by
  rcases h with rfl | rfl | rfl <;> decide +kernel
end
section
variable {P : Program} {w : World} {K : PySem.W.Frag} {mg : Str → Option Value} {base : Heap} {G : List Addr} {L : List (Addr × Str)}
/-- what stands there: a list | a tuple -/
def Sq2 (H : Hp) (b : Bool) (a : Addr) (xs : List V) : Prop := if b = true then H a = some (.lst xs) else Tp H a xs
def ClS (d : PyData) : Prop := ∃ w a b, d = .tuple [.str w, .str a, .str b] ∧ PyData.strOk w = true ∧ PyData.strOk a = true ∧ PyData.strOk b = true
theorem OkR.cls {ns : List Str} {cd : List PyData} (ok : OkR ns cd) : ∀ d ∈ cd, ClS d := fun d hd => by
  obtain ⟨w, a, b, rfl, hw, ha, hb⟩ := clause_shape (ok.cs d hd)
  exact ⟨w, a, b, rfl, word_ok hw, ok.gs.1 a ha, ok.gs.1 b hb⟩
end
section
variable {P : Program} {w : World} {K : PySem.W.Frag} {mg : Str → Option Value} {base : Heap} {G : List Addr} {L : List (Addr × Str)}
def isWord (w : Str) : Prop := w = "needs" ∨ w = "excludes" ∨ w = "either"
end
section
variable {P : Program} {w : World} {K : PySem.W.Frag} {mg : Str → Option Value} {base : Heap} {G : List Addr} {L : List (Addr × Str)}
theorem Row.lst {H : Hp} {r : Rid} (h : Row K H r) : ∃ xs, H r.r = some (.lst xs) := by
  obtain ⟨_, _, _, _, _, h, _⟩ := h
  exact ⟨_, h⟩
/-- a clause of the names -/
def ClD (ns : List Str) (d : PyData) : Prop := ∃ w a b, d = .tuple [.str w, .str a, .str b] ∧ isWord w ∧ a ∈ ns ∧ b ∈ ns
end
section
variable {P : Program} {w : World} {K : PySem.W.Frag} {mg : Str → Option Value} {base : Heap} {G : List Addr} {L : List (Addr × Str)}
/-- new, or a table -/
def Nw (H : Hp) (D : Addr) : Prop := ∀ o, (∀ ps, o ≠ .tbl ps) → H D ≠ some o
theorem Nw.of {H : Hp} {D : Addr} (n : H D = none) : Nw H D := fun o _ e => by rw [n] at e; cases e
theorem Nw.lst {H : Hp} {D b : Addr} {xs : List V} (n : Nw H D) (h : H b = some (.lst xs)) : D ≠ b := fun e => by
  subst e
  exact n _ (fun ps z => by cases z) h
end
theorem ClD.ok {ns : List Str} {d : PyData} (h : ClD ns d) : clauseOk (ns.map PyData.str) d = true := by
  obtain ⟨w, a, b, rfl, hw, ha, hb⟩ := h
  show (inD (.str w) ((["needs", "excludes", "either"] : List Str).map PyData.str) && inD (.str a) (ns.map PyData.str) && inD (.str b) (ns.map PyData.str)) = true
  rw [inD_strs, inD_strs, inD_strs, decide_eq_true ha, decide_eq_true hb]
  have e : w ∈ (["needs", "excludes", "either"] : List Str) := by
    rcases hw with rfl | rfl | rfl <;> decide
  rw [decide_eq_true e]
  rfl
section
variable {P : Program} {w : World} {K : PySem.W.Frag} {mg : Str → Option Value} {base : Heap} {G : List Addr} {L : List (Addr × Str)}
/-- tuples of names -/
def StsAt (H : Hp) (xs : List V) (ss : List (List Str)) : Prop := Ims H xs (ss.map fun s => .tuple (s.map PyData.str))
end
section
variable {P : Program} {w : World} {K : PySem.W.Frag} {mg : Str → Option Value} {base : Heap} {G : List Addr} {L : List (Addr × Str)}
theorem StsAt.len {H : Hp} {xs : List V} {ss : List (List Str)} (h : StsAt H xs ss) : xs.length = ss.length := by
  have z := h.length
  rw [List.length_map] at z
  exact z
end
/-- a step, generators' lists first -/
local macro_rules | `(tactic| walk_at "rl") => `(tactic| first | (with_reducible refine r_lgd ?_) | (with_reducible refine r_fr ?_) | walk_at "rd")
section
variable {P : Program} {w : World} {K : PySem.W.Frag} {mg : Str → Option Value} {base : Heap} {G : List Addr} {L : List (Addr × Str)}
def SqA (K : PySem.W.Frag) (H : Hp) (p : Addr) (xs : List V) : Prop := SqL K H p xs ∨ SqT K H p xs
end
/-- which letter stands last ahead of the z -/
def tagOf (z : Str) : Nat := ((z.cps.toList.reverse.dropWhile (· == 122)).headD 0) - 97
def nmB (z : Str) (k : Nat) : Bool := nameOk (.str z) && (PyData.strOk z && (decide (z.length ≤ 8) && (decide (tagOf z = k) && decide (z ≠ "zzzzzzzz" ∧ z ≠ "none"))))
section
variable {P : Program} {w : World} {K : PySem.W.Frag} {mg : Str → Option Value} {base : Heap} {G : List Addr} {L : List (Addr × Str)}
/-- names as they are drawn: the k-th one has the k-th letter -/
def NmsP (ns : List Str) : Prop := ∀ k z, ns[k]? = some z → nmB z k = true
end
theorem nmB_ok {z : Str} {k : Nat} (h : nmB z k = true) : nameOk (.str z) = true ∧ PyData.strOk z = true ∧ z.length ≤ 8 ∧ tagOf z = k := by
  unfold nmB at h
  simp only [Bool.and_eq_true, decide_eq_true_eq] at h
  exact ⟨h.1, h.2.1, h.2.2.1, h.2.2.2.1⟩
theorem nmB_n {z : Str} {k : Nat} (h : nmB z k = true) : z ≠ "none" := by
  unfold nmB at h
  simp only [Bool.and_eq_true, decide_eq_true_eq] at h
  exact h.2.2.2.2.2
theorem NmsP.nodup {ns : List Str} (h : NmsP ns) : ns.Nodup := by
  refine List.pairwise_iff_getElem.mpr fun i j hi hj hij e => ?_
  have e1 := (nmB_ok (h i ns[i] (List.getElem?_eq_getElem hi))).2.2.2
  have e2 := (nmB_ok (h j ns[j] (List.getElem?_eq_getElem hj))).2.2.2
  rw [e, e2] at e1
  omega
theorem NmsP.all {ns : List Str} (h : NmsP ns) {z : Str} (hz : z ∈ ns) : nameOk (.str z) = true ∧ PyData.strOk z = true ∧ z.length ≤ 8 := by
  obtain ⟨i, hi, e⟩ := List.mem_iff_getElem.mp hz
  have q := nmB_ok (h i z (by rw [List.getElem?_eq_getElem hi, e]))
  exact ⟨q.1, q.2.1, q.2.2.1⟩
theorem scanN_none : ∀ (pre ds : List Str), (pre ++ ds).Nodup → (∀ z ∈ ds, nameOk (.str z) = true) → (pre ++ ds).length ≤ 10 → scanN (pre.map PyData.str) (ds.map PyData.str) = none
  | pre, [], _, _, _ => rfl
  | pre, z :: ds, hn, ho, hl => by
    have e1 : inD (.str z) (pre.map PyData.str) = false := by
      rw [inD_strs]
      refine decide_eq_false fun hm => ?_
      have q := List.nodup_append.mp hn
      exact q.2.2 z hm z List.mem_cons_self rfl
    have hl2 : pre.length < 10 := by
      rw [List.length_append, List.length_cons] at hl
      omega
    show (if decide ((10 : Int) ≤ ((pre.map PyData.str).length : Nat)) || (!nameOk (.str z) || inD (.str z) (pre.map PyData.str)) then some (pre.map PyData.str).length else scanN (pre.map PyData.str ++ [.str z]) (ds.map PyData.str)) = none
    rw [e1, ho z List.mem_cons_self, List.length_map, decide_eq_false (by omega)]
    have ih := scanN_none (pre ++ [z]) ds (by rw [List.append_assoc]; exact hn) (fun y hy => ho y (List.mem_cons_of_mem _ hy)) (by rw [List.append_assoc]; exact hl)
    rw [List.map_append] at ih
    exact ih
theorem NmsP.names {ns : List Str} (h : NmsP ns) (h0 : 0 < ns.length) (h10 : ns.length ≤ 10) : namesBad (.tuple (ns.map PyData.str)) = none := by
  cases ns with
  | nil => cases h0
  | cons z ds => exact scanN_none [] (z :: ds) h.nodup (fun y hy => (h.all hy).1) h10
/-- names that rules may have -/
theorem NmsP.non {ns : List Str} (h : NmsP ns) : ("none" : Str) ∉ ns := fun hm => by
  obtain ⟨k, hk, e⟩ := List.mem_iff_getElem.mp hm
  exact nmB_n (h k _ (by rw [List.getElem?_eq_getElem hk])) e
/-- names that rules may have -/
structure GoodN (ns : List Str) : Prop where
  nd : ns.Nodup
  al : ∀ z ∈ ns, nameOk (.str z) = true ∧ PyData.strOk z = true ∧ z.length ≤ 8
theorem GoodN.names {ns : List Str} (h : GoodN ns) (h0 : 0 < ns.length) (h10 : ns.length ≤ 10) : namesBad (.tuple (ns.map PyData.str)) = none := by
  cases ns with
  | nil => cases h0
  | cons z ds => exact scanN_none [] (z :: ds) h.nd (fun y hy => (h.al y hy).1) h10
/-- rules, whose names may be any tuple -/
def RulesW (K : PySem.W.Frag) (H : Hp) (x : Addr) (ns : List Str) (cd : List PyData) : Prop := ∃ dx an ac xs, H x = some (.ins (cR K) dx (rfs (.ref an) (.ref ac))) ∧ Tp H an (ns.map V.str) ∧ Tp H ac xs ∧ Ims H xs cd
theorem RulesAt.w {K : PySem.W.Frag} {H : Hp} {x : Addr} {ns : List Str} {cd : List PyData} (h : RulesAt K H x ns cd) : RulesW K H x ns cd := by
  obtain ⟨dx, an, ac, xs, h1, h2, h3, h4⟩ := h
  exact ⟨dx, an, ac, xs, h1, h2.tp, h3, h4⟩
section
variable {K : PySem.W.Frag} {G : List Addr} {L : List (Addr × Str)} {H H' : Hp} {b : Bool} {a r : Addr} {xs : List V}
theorem Sq2.any (h : Sq2 H b a xs) : SqA K H a xs := by
  cases b
  · exact .inr (Tp.seq h)
  · exact .inl (.of h)
end
def kinds5 : List Str := ["InvalidRules", "IllegalStep", "NotationError", "UnknownSwitch", "DecodeError", "InvalidState", "IllegalState", "InvalidStates", "InvalidOperation", "InvalidClause", "UnknownClause", "NoWay", "NoGoal", "TooManyClauses", "DifferentNames", "TooManySwitches", "LastSwitch", "InvalidName", "InvalidCount"]
def fldOf (x : Str) : List Str := if x = "InvalidRules" then ["part", "index"] else if x = "IllegalStep" then ["index", "clause"] else if x = "NotationError" then ["row", "word"] else if x = "UnknownSwitch" then ["name"] else if x = "DecodeError" then ["offset"]
  else if x = "InvalidState" ∨ x = "IllegalState" ∨ x = "InvalidStates" ∨ x = "InvalidOperation" then ["index"] else []
section
variable {P : Program} {w : World} {K : PySem.W.Frag} {mg : Str → Option Value} {base : Heap} {G : List Addr} {L : List (Addr × Str)}
/-- rows of words: other lists than D -/
def RowsW (D : Addr) (H : Hp) (xs : List V) (wss : List (List Str)) : Prop := xs.length = wss.length ∧ ∀ (i : Nat) (x : V), xs[i]? = some x → ∃ (p : Addr) (ws : List Str), x = .ref p ∧ wss[i]? = some ws ∧ p ≠ D ∧ H p = some (.lst (ws.map V.str))
theorem RowsW.nil {D : Addr} {H : Hp} : RowsW D H [] [] := ⟨rfl, fun i x e => by cases e⟩
end
def vN (l : List Nat) : List V := l.map fun (n : Nat) => V.int (n : Nat)
section
variable {P : Program} {w : World} {K : PySem.W.Frag} {mg : Str → Option Value} {base : Heap} {G : List Addr} {L : List (Addr × Str)}
/-- lists of numbers, elsewhere than at D -/
def LsAt (D : Addr) (H : Hp) (vs : List V) (ls : List (List Nat)) : Prop := vs.length = ls.length ∧ ∀ (i : Nat) (v : V), vs[i]? = some v → ∃ (p : Addr) (l : List Nat), ls[i]? = some l ∧ v = .ref p ∧ p ≠ D ∧ H p = some (.lst (l.map fun i => V.int (i : Nat)))
theorem LsAt.upd {D : Addr} {H : Hp} {vs : List V} {ls : List (List Nat)} {o : HO} (h : LsAt D H vs ls) : LsAt D (L2.upd H D o) vs ls := ⟨h.1, fun i v e => by
  obtain ⟨p, l, e1, e2, e3, e4⟩ := h.2 i v e
  exact ⟨p, l, e1, e2, e3, by rw [upd_ne e3]; exact e4⟩⟩
end
section
variable {G : List Addr} {L : List (Addr × Str)} {H H' : Hp} {r : Addr}
theorem GoR.ins {C d d' : Addr} {fs fs' : List (Str × V)} (hr : H r = some (.ins C d fs)) : GoR G L r H (L2.upd H r (.ins C d' fs')) := by
  have k : ∀ b o, b ≠ r → H b = some o → L2.upd H r (.ins C d' fs') b = some o := fun b o n h => by rw [upd_ne n]; exact h
  refine ⟨fun b o n _ h => k b o n h, fun t => ⟨fun p hp => ?_, fun p hp => ?_⟩⟩
  · obtain ⟨ps, e, _⟩ := t.1 p hp
    exact tabG_keep (t.1 p hp) fun o eo => k p o (fun z => by rw [z, hr] at e; cases e) eo
  · obtain ⟨ps, e, _⟩ := t.2 p hp
    exact tabS_keep (t.2 p hp) (fun o eo => k _ o (fun z => by rw [z, hr] at e; cases e) eo) fun c hc => k c _ (fun z => by
      rw [z, hr] at hc
      have q' := Option.some.inj hc
      cases q') hc
end
abbrev cD (K : PySem.W.Frag) : Addr := He.ga K "Reader"
abbrev sD (j : Nat) : Stmt := inClass (top iReader) j
def rds (nl : Addr) (o : Nat) : List (Str × V) := [("numbers", .ref nl), ("offset", .int (o : Nat))]
/-- the reader at r: the numbers l, of which o are read -/
def RdAt (K : PySem.W.Frag) (H : Hp) (r nl : Addr) (l : List Nat) (o : Nat) : Prop := ∃ dx, H r = some (.ins (cD K) dx (rds nl o)) ∧ H nl = some (.lst (vN l))
def Has (l : List Nat) (o : Nat) (xs : List Nat) : Prop := ∃ rest, l.drop o = xs ++ rest
theorem Has.at {l : List Nat} {o i x : Nat} {xs : List Nat} (h : Has l o xs) (e : xs[i]? = some x) : l[o + i]? = some x := by
  obtain ⟨rest, e1⟩ := h
  rw [← List.getElem?_drop, e1, List.getElem?_append_left (List.getElem?_eq_some_iff.mp e).1]
  exact e
def wdB (K : PySem.W.Frag) : Bool := match K.lookup (He.ga K "WORDS") with
  | some ⟨.type c, none, _, _⟩ => decide (c = "tuple")
  | _ => false
abbrev Rdg (α : Type) := Except Nat (α × Nat)
def tkR (l : List Nat) (a b o : Nat) : Rdg Nat := match l[o]? with
  | some n => if a ≤ n ∧ n ≤ b then .ok (n, o + 1) else .error o
  | none => .error o
def oneR {α : Type} (l : List Nat) (xs : List α) (o : Nat) : Rdg α := match tkR l 0 (xs.length - 1) o with
  | .error e => .error e
  | .ok (n, p) => match xs[n]? with
    | some x => .ok (x, p)
    | none => .error o
/-- what stands between two places -/
def Seg (l : List Nat) (o p : Nat) (ws : List Nat) : Prop := l.drop o = ws ++ l.drop p ∧ p = o + ws.length ∧ p ≤ l.length
theorem Seg.trans {l : List Nat} {o p q : Nat} {us ws : List Nat} (h1 : Seg l o p us) (h2 : Seg l p q ws) : Seg l o q (us ++ ws) :=
  ⟨by rw [h1.1, h2.1, List.append_assoc], by rw [h2.2.1, h1.2.1, List.length_append, Nat.add_assoc], h2.2.2⟩
theorem Seg.nil {l : List Nat} {o : Nat} (h : o ≤ l.length) : Seg l o o [] := ⟨rfl, rfl, h⟩
theorem Seg.one {l : List Nat} {o n : Nat} (h : l[o]? = some n) : Seg l o (o + 1) [n] := by
  obtain ⟨h1, h2⟩ := List.getElem?_eq_some_iff.mp h
  refine ⟨?_, rfl, h1⟩
  rw [List.drop_eq_getElem_cons h1, h2]
  rfl
section
variable {P : Program} {w : World} {K : PySem.W.Frag} {mg : Str → Option Value} {base : Heap} {G : List Addr} {L : List (Addr × Str)}
/-- DecodeError at this place is wished for -/
def ErrAt (K : PySem.W.Frag) (G : List Addr) (L : List (Addr × Str)) (r : Addr) (H : Hp) (E : XK) (e : Nat) : Prop := ∀ dd H', GoR G L r H H' → H' dd = some (.xd [("offset", .int (e : Nat))]) → E (.ref (He.ga K "DecodeError")) (some dd) H'
/-- a reading's end: an error or a value -/
def EndR {α : Type} (K : PySem.W.Frag) (G : List Addr) (L : List (Addr × Str)) (r nl : Addr) (l : List Nat) (H : Hp) (rd : Rdg α) (E : XK) (Q : α → Hp → Prop) : Prop :=
  (∀ e, rd = .error e → ErrAt K G L r H E e) ∧ ∀ x p, rd = .ok (x, p) → ∀ H', GoR G L r H H' → RdAt K H' r nl l p → Q x H'
/-- the readings of values and of what they stand for -/
theorem oneR_map {α β : Type} {l : List Nat} {xs : List α} {f : α → β} {o : Nat} : oneR l (xs.map f) o = (match oneR l xs o with | .error e => .error e | .ok (x, p) => .ok (f x, p)) := by
  unfold oneR
  rw [List.length_map]
  cases e : tkR l 0 (xs.length - 1) o with
  | error e' => rfl
  | ok q =>
    obtain ⟨n, p⟩ := q
    simp only
    rw [List.getElem?_map]
    cases xs[n]? <;> rfl
theorem EndR.map {α β : Type} {r nl : Addr} {l : List Nat} {H : Hp} {xs : List α} {f : α → β} {o : Nat} {E : XK} {Q : β → Hp → Prop} (h : EndR K G L r nl l H (oneR l xs o) E fun x H' => Q (f x) H') : EndR K G L r nl l H (oneR l (xs.map f) o) E Q := by
  rw [oneR_map]
  refine ⟨fun e he => ?_, fun y p hy => ?_⟩
  · cases q : oneR l xs o with
    | error e' =>
      rw [q] at he
      obtain rfl := Except.error.inj he
      exact h.1 _ q
    | ok z => rw [q] at he; cases he
  · cases q : oneR l xs o with
    | error e' => rw [q] at hy; cases hy
    | ok z =>
      obtain ⟨x, p'⟩ := z
      rw [q] at hy
      obtain ⟨rfl, rfl⟩ := Prod.mk.inj (Except.ok.inj hy)
      exact h.2 _ _ q
end
/-- a step -/
local macro_rules | `(tactic| walk_at "rl") => `(tactic| first | (with_reducible refine r_tM1 ?_) | (with_reducible refine r_un ?_) | (with_reducible refine r_u1 ?_) | (with_reducible refine r_par ?_) | walk_at "rd")
section
variable {P : Program} {w : World} {K : PySem.W.Frag} {mg : Str → Option Value} {base : Heap} {G : List Addr} {L : List (Addr × Str)}
/-- Rules has the == of object -/
def rqB (K : PySem.W.Frag) : Bool := decide (PySem.W.mroIn K (cR K) (.type "object") = some true) && decide (PySem.W.findIn K (.ref (cR K)) "__eq__" = some (some (.builtin "object.__eq__")))
end
section
variable {K : PySem.W.Frag} {h : Heap}
def isB (a b : Option Bool) : Bool := decide (a = b)
/-- an exception class of its own __init__ -/
def oxB (K : PySem.W.Frag) (C : Addr) : Bool := match K.lookup C with
  | some ⟨.type t, _, .cls cd, sl⟩ => (match cd.mro, sl.toList with
    | .ref D :: bm, [_, _, _, _, some (.builtin n), _] => decide (t = "type") && (decide (D = C) && (decide (n = "ValueError.__new__") && (!cd.hasDel && (cd.hasDict && PySem.HandSPX.refsVE bm))))
    | _, _ => false)
  | _ => false
def oexB (K : PySem.W.Frag) (C : Addr) : Bool := oxB K C && (He.eqO (PySem.W.findIn K (.ref C) "__setattr__") (some (some (.builtin "object.__setattr__"))) && (isB (PySem.W.subIn K (.ref C) (.type "BaseException")) (some true) && (decide (PySem.W.typeIn K (.ref C) = some (.type "type")) && PySem.W.keepIn K (.ref C))))
/-- what isinstance(e, ..) looks at -/
def ecB (K : PySem.W.Frag) (C : Addr) : Bool := He.eqO (PySem.W.findIn K (.ref C) "__getattribute__") (some (some (.builtin "BaseException.__getattribute__"))) && (He.eqO (PySem.W.findIn K (.ref C) "__getattr__") (some none) && (isB (PySem.W.subIn K (.ref C) (.type "BaseException")) (some true) && (PySem.W.hasDictIn K C &&
  (He.eqO (PySem.W.findIn K (.ref C) "__class__") (some (some (.builtin "object.__class__"))) && (He.eqO (PySem.W.specialIn K (.builtin "object.__class__") "__get__") (some (some (.builtin "getset_descriptor.__get__"))) && (isB (PySem.W.takesIn K (.builtin "object.__class__")) (some true) && isB (PySem.W.mroIn K C (.type "object")) (some true)))))))
/-- a property's getter -/
def pgO (K : PySem.W.Frag) (m : Str) : Addr := match PySem.W.recIn K (He.ma K (cR K) m) "property" with
  | some (.ref g :: _) => g
  | _ => 0
def prB (K : PySem.W.Frag) (m : Str) : Bool := He.eqO (PySem.W.findIn K (.ref (cR K)) m) (some (some (.ref (He.ma K (cR K) m)))) && (He.eqO (PySem.W.specialIn K (.ref (He.ma K (cR K) m)) "__get__") (some (some (.builtin "property.__get__"))) && (isB (PySem.W.takesIn K (.ref (He.ma K (cR K) m))) (some true) &&
  (match PySem.W.recIn K (He.ma K (cR K) m) "property" with
    | some (.ref _ :: _) => true
    | _ => false)))
/-- a class that is read -/
def crB (K : PySem.W.Frag) (C : Addr) : Bool := PySem.W.readsIn K C (.type "type") && He.eqO (PySem.W.specialIn K (.ref C) "__getattribute__") (some (some (.builtin "type.__getattribute__")))
def fvB (K : PySem.W.Frag) : Bool := match PySem.W.findCls K (.ref (He.ga K "StepError")) (.type "type") "__init__" with
  | some (.val (.builtin n)) => decide (n = "ValueError.__init__")
  | _ => false
/-- the tables' defs -/
def tfL : List He.Defn := [("is_name", none), ("law", none)]
def tbL (K : PySem.W.Frag) : List Addr := tfL.map fun p => (He.cT K p).2
/-- the rest of the facts, as one Bool -/
def initB (K : PySem.W.Frag) (x : Str) : Bool := oexB K (He.ga K x) && (He.eqO (PySem.W.findIn K (.ref (He.ga K x)) "__init__") (some (some (.ref (He.ma K (He.ga K x) "__init__")))) && decide (PySem.W.typeIn K (.ref (He.ma K (He.ga K x) "__init__")) = some (.type "function")))
/-- an error class without __init__ -/
def erB (K : PySem.W.Frag) (x : Str) : Bool := PySem.W.excIn K (He.ga K x) He.veBase "ValueError.__new__" && (PySem.W.keepIn K (.ref (He.ga K x)) && (isB (PySem.W.subIn K (.ref (He.ga K x)) (.type "BaseException")) (some true) && decide (PySem.W.typeIn K (.ref (He.ga K x)) = some (.type "type"))))
def fldH : List (Str × Str) := [("InvalidRules", "part"), ("InvalidRules", "index"), ("UnknownSwitch", "name"), ("InvalidState", "index"), ("IllegalState", "index"), ("DecodeError", "offset")]
def exL (K : PySem.W.Frag) : List Bool := [
  initB K "InvalidRules",
  initB K "InvalidState",
  initB K "IllegalState",
  initB K "UnknownSwitch",
  initB K "DecodeError",
  crB K (He.ga K "StepError"),
  fvB K,
  kinds5.all (fun x => ecB K (He.ga K x)),
  kinds5.all (fun x => isB (PySem.W.exmOne K (.ref (He.ga K x)) (.ref (He.ga K "StepError"))) (some true)),
  kinds5.all (fun x => isB (PySem.W.kitOne K (.ref (He.ga K x)) (.type "ValueError")) (some true)),
  kinds5.all (fun x => kinds5.all fun y => isB (PySem.W.kitOne K (.ref (He.ga K x)) (.ref (He.ga K y))) (some (decide (x = y)))),
  kinds5.all (fun x => decide (fldOf x = []) || xfB K (He.ga K x)),
  kinds5.all (fun x => (fldOf x).all fun f => He.eqO (PySem.W.findIn K (.ref (He.ga K x)) f) (some none)),
  erB K "InvalidCount",
  wdB K,
  rqB K,
  fldH.all (fun p => He.eqO (PySem.W.findIn K (.ref (He.ga K p.1)) p.2) (some none)),
  prB K "names",
  prB K "clauses",
  He.tupB K "WORDS" [.str "needs", .str "excludes", .str "either"],
  decide ((tbL K).Nodup)]
def exB (K : PySem.W.Frag) : Bool := (exL K).all id
/-- a def of the top, of Rules, of an error -/
def dT (x : Str) (i : Nat) : He5.DefA := ⟨fun K => He.fAd K (x, none), x, x, defArgs (top i), defBody (top i), defScope (top i), [], []⟩
def dR (m q : Str) (j : Nat) : He5.DefA := ⟨fun K => He.ma K (cR K) m, m, q, defArgs (sM j), defBody (sM j), defScope (sM j), [], []⟩
def dG (m q : Str) (j : Nat) : He5.DefA := ⟨fun K => pgO K m, m, q, defArgs (sM j), defBody (sM j), defScope (sM j), [], []⟩
def dE (C q : Str) (i : Nat) : He5.DefA := ⟨fun K => He.ma K (He.ga K C) "__init__", "__init__", q, defArgs (sErr i), defBody (sErr i), defScope (sErr i), [], []⟩
def dD (m q : Str) (j : Nat) : He5.DefA := ⟨fun K => He.ma K (cD K) m, m, q, defArgs (sD j), defBody (sD j), defScope (sD j), [], []⟩
def fnL : List He5.DefA := [
  dT "is_name" 29,
  dT "is_clause" 30,
  dT "fulfils" 36,
  dT "broken_among" 37,
  dE "InvalidRules" "InvalidRules.__init__" 3,
  dE "InvalidState" "InvalidState.__init__" 7,
  dE "IllegalState" "IllegalState.__init__" 8,
  dE "UnknownSwitch" "UnknownSwitch.__init__" 6,
  dT "check_names" 31,
  dT "check_clauses" 32,
  dT "check_state" 33,
  dR "__init__" "Rules.__init__" 0,
  dR "broken_clauses" "Rules.broken_clauses" 6,
  dG "names" "Rules.names" 1,
  dG "clauses" "Rules.clauses" 2,
  dT "check_legal" 40,
  dT "_law_told" 66,
  dT "check_switch" 34,
  dT "_law_dice" 63,
  dT "_law_next" 64,
  dT "_law_pick" 65,
  dT "_law_names" 67,
  dT "_law_clause" 68,
  dT "_law_keeps" 69,
  dT "_law_all" 70,
  dT "_law_legal" 71,
  dT "_law_rules" 72,
  dE "DecodeError" "DecodeError.__init__" 21,
  dT "is_number" 28,
  dT "_is_byte" 45,
  dT "pack_bytes" 46,
  dT "unpack_bytes" 47,
  dT "_checksum" 48,
  dT "_numbers_of_names" 49,
  dT "_numbers_of_clauses" 50,
  dT "_numbers_of_state" 51,
  dT "encode_rollout" 52,
  dD "__init__" "Reader.__init__" 0,
  dD "take" "Reader.take" 1,
  dT "_law_closed" 74,
  dD "take_one_of" "Reader.take_one_of" 2,
  dT "_read_name" 54,
  dT "_read_names" 55,
  dT "_read_clause" 56,
  dT "_read_clauses" 57,
  dT "_read_state" 58,
  dT "_read_changes" 59,
  dT "_read_end" 60,
  dT "decode_rollout" 61,
  dT "_law_names_read" 75,
  dT "_law_read" 76,
  dT "_law_values" 73,
  dT "law" 77]
def defN : List Str := (["is_number", "is_name", "is_clause", "check_names", "check_clauses", "check_state", "check_switch", "fulfils", "broken_among", "check_legal", "_is_byte", "pack_bytes", "unpack_bytes", "_checksum", "_numbers_of_names", "_numbers_of_clauses", "_numbers_of_state", "encode_rollout", "_read_name", "_read_names", "_read_clause", "_read_clauses", "_read_state", "_read_changes", "_read_end"] : List Str) ++ (["decode_rollout", "_law_dice", "_law_next", "_law_pick", "_law_told", "_law_names", "_law_clause", "_law_keeps", "_law_all", "_law_legal", "_law_rules", "_law_values", "_law_closed", "_law_names_read", "_law_read"] : List Str)
def clsN : List Str := ["StepError", "InvalidRules", "InvalidClause", "UnknownClause", "UnknownSwitch", "InvalidState", "IllegalState", "IllegalStep", "NoWay", "NoGoal", "InvalidStates", "TooManyClauses", "DifferentNames", "InvalidOperation", "TooManySwitches", "LastSwitch", "InvalidName", "NotationError", "InvalidCount", "DecodeError", "Rules", "Reader"]
def gloN : List Str := clsN ++ defN ++ (["WORDS", "law"] : List Str)
def freeN : List Str := ["ValueError", "all", "bool", "bytes", "classmethod", "enumerate", "int", "isinstance", "len", "list", "max", "min", "property", "range", "reversed", "sorted", "str", "tuple"]
def faL : List He.Fa := [.int "MOST_LETTERS" 8, .int "MOST_NAMES" 10, .int "MOST_CLAUSES" 40, .str "LETTERS" letters, .cls "Rules", .noat "Rules" "_names", .noat "Rules" "_clauses", .mkr "Rules", .meth "Rules" "broken_clauses", .cls "Reader", .noat "Reader" "numbers", .noat "Reader" "offset", .mkr "Reader", .int "FIRST_BYTE" 70, .int "GREATEST_BYTE" 255, .int "MOST_CHANGES" 200, .meth "Reader" "take", .meth "Reader" "take_one_of"] ++ gloN.map He.Fa.glo ++ freeN.map He.Fa.free
structure SaysF (h : Heap) (K : PySem.W.Frag) : Prop where
  a : He5.SaysA faL fnL K
  more : exB K = true
  hd : ∀ p ∈ tfL, PySem.W.codeHdIn K (He.cT K p).1 (He.cT K p).2 = true
  out : ∀ p ∈ tfL, K.lookup (He.cT K p).2 = none
  empty : ∀ p ∈ tfL, h.get? (He.cT K p).2 = some { cls := .none, data := .fields #[] }
abbrev AlF : Type := He.AlD × Bool
def obsF (n : Nat) (g : Addr → Option Obj) : AlF := (He5.obsA faL fnL (He.frT g (He5.asA g n)), exB (He.frT g (He5.asA g n)) && He.tabsB g tfL (He.frT g (He5.asA g n)))
def valF : AlF := (He5.valA fnL, true)
theorem saysF_of {n : Nat} {h : Heap} (e : obsF n h.get? = valF) : SaysF h (He.frT h.get? (He5.asA h.get? n)) := by
  have e1 : He5.obsA faL fnL (He.frT h.get? (He5.asA h.get? n)) = He5.valA fnL := congrArg (fun z : AlF => z.1) e
  have e2 : (exB (He.frT h.get? (He5.asA h.get? n)) && He.tabsB h.get? tfL (He.frT h.get? (He5.asA h.get? n))) = true := congrArg (fun z : AlF => z.2) e
  obtain ⟨h1, h2⟩ := He.ba e2
  generalize hK : He.frT h.get? (He5.asA h.get? n) = K at e1 h1 h2
  have key : ∀ p ∈ tfL, PySem.W.codeHdIn K (He.cT K p).1 (He.cT K p).2 = true ∧ ∃ o, h.get? (He.cT K p).2 = some o ∧ He.emptyTab o = true := fun p hp => by
    obtain ⟨h3, h4⟩ := He.ba (List.all_eq_true.mp h2 p hp)
    refine ⟨h3, ?_⟩
    cases q : h.get? (He.cT K p).2 with
    | none =>
      rw [q] at h4
      cases h4
    | some o =>
      rw [q] at h4
      exact ⟨o, rfl, h4⟩
  refine ⟨e1, h1, fun p hp => (key p hp).1, fun p hp => ?_, fun p hp => ?_⟩
  · obtain ⟨_, o, q, z⟩ := key p hp
    have zz : ∀ a, h.get? a = some o → K.lookup a = none := fun a q => by
      rw [← hK]
      exact He.frT_none q z
    exact zz _ q
  · obtain ⟨_, o, q, z⟩ := key p hp
    rw [q, He.emptyTab_eq z]
def hkF : PySem.W.Hook where
  α := AlF
  obs := fun s => obsF 5 s.heap.get?
  val := fun _ => valF
  says := fun _ h => ∃ K : PySem.W.Frag, K.In h ∧ SaysF h K
  of := fun _ _ e => ⟨_, He.frT_in, saysF_of e⟩
  keeps := fun _ _ _ ⟨K, hK, c⟩ k => ⟨K, PySem.W.Frag.In.keeps hK k, ⟨c.a, c.more, c.hd, c.out, fun p hp => k _ _ (c.empty p hp)⟩⟩
def obT (s : PySem.W.SharedT) : AlF := obsF 5 (HandSHeadRun.getT s)
end
abbrev RW : PySem.W.OpenRow := PySem.W.OpenLaw.row PySem.Challenge.rw_flagsteps_k61_invalid_bytes
abbrev qv : Program := PySem.W.view RW.prog [77]
def looseN : List Str := (["StepError", "InvalidRules", "InvalidClause", "UnknownClause", "UnknownSwitch", "InvalidState", "IllegalState", "IllegalStep", "NoWay", "NoGoal", "InvalidStates", "TooManyClauses", "DifferentNames", "InvalidOperation", "TooManySwitches", "LastSwitch", "InvalidName", "NotationError", "InvalidCount", "DecodeError", "Rules", "Reader", "_wall", "is_number", "is_name"] : List Str) ++ (["is_clause", "check_names", "check_clauses", "check_state", "check_switch", "fulfils", "broken_among", "check_legal", "_is_byte", "pack_bytes", "unpack_bytes", "_checksum", "_numbers_of_names", "_numbers_of_clauses", "_numbers_of_state", "encode_rollout", "_read_name", "_read_names", "_read_clause", "_read_clauses", "_read_state", "_read_changes", "_read_end", "decode_rollout", "_law_dice"] : List Str) ++ (["_law_next", "_law_pick", "_law_told", "_law_names", "_law_clause", "_law_keeps", "_law_all", "_law_legal", "_law_rules", "_law_values", "_law_closed", "_law_names_read", "_law_read", "LETTERS", "WORDS", "MOST_LETTERS", "MOST_NAMES", "MOST_CLAUSES", "FIRST_BYTE", "GREATEST_BYTE", "MOST_CHANGES"] : List Str)
theorem runF (w : World) : HandSHeadRun.RunEq RW qv hkF obT 12000 looseN w := by
  intro os
  kernel_rfl
end FS
set_option maxHeartbeats 0
open PySem PySem.W PySem.Calls PyProof.Rows
set_option Elab.async false
set_option linter.all false
set_option maxRecDepth 100000
set_option maxHeartbeats 2000000
namespace FS
open PySem PySem.Spec PyProof.Rows L2
section
variable {X : Cx}
/-- tuple(list) -/
theorem call_tupleD : CallR X (.type "tuple") (fun xs H Q => ∃ p ys, xs = [.ref p] ∧ SqL X.K H p ys ∧ ∀ l o, H l = none → o.cls = .type "tuple" → o.dict = none → Q (.ref l) (upd H l (.frz o (.tup ys)))) := by
  intro pins s σ H xs us Q I r ⟨p, ys, ev, hq, q⟩
  subst ev
  obtain ⟨u, eu, rx⟩ := vals1 r
  subst eu
  cases rx
  obtain ⟨its, r', pl, hz⟩ := I.list hq
  have hlen := r'.length
  refine call_tuple_list pl.isList (fun h' kp => ?_) (by simp only [List.size_toArray] <;> omega)
  have I1 : Inv X pins σ H { s with heap := h' } := I.kept (t' := s.toks) kp
  have new : ObjOk X.prog X.w (upd H h'.objs.size (.frz ({ cls := .type "tuple", data := .seq its.toArray } : Obj) (.tup ys))) (h'.push { cls := .type "tuple", data := .seq its.toArray }) h'.objs.size (.frz ({ cls := .type "tuple", data := .seq its.toArray } : Obj) (.tup ys)) :=
    ⟨Heap.get?_push_size _ rfl, hz, its, r', IsTup.new _ _⟩
  have I2 := I1.laid (t' := s.toks) (fun b o e => Heap.get?_push_of_some _ e) (Nat.le_refl _) new
  exact ⟨.ref h'.objs.size, _, I2, rfl, q _ _ (I1.hok.fresh (Nat.le_refl _)) rfl rfl⟩
/-- t[lo:hi] of such a one -/
def rSlD : V → Option Int → Option Int → Hp → VK → Prop := fun x lo hi H Q => ∃ a xs, x = .ref a ∧ NT H a xs ∧
  (cutV xs lo hi = xs → Q (.ref a) H) ∧ (∀ p o, H p = none → o.cls = .type "tuple" → o.dict = none → Q (.ref p) (upd H p (.frz o (.tup (cutV xs lo hi)))))
theorem sl_tupD : SlR X rSlD := by
  intro pins s σ H x v vl vu lo hi sl Q I rx hs pl pu ⟨a, xs, ev, hx, q1, q2⟩
  subst ev
  cases rx
  obtain ⟨its, r, ht, hz⟩ := I.tuple (hx.seq (K := X.K))
  have hlen : its.toArray.size = xs.length := by rw [List.size_toArray]; exact r.length.symm
  refine ⟨"tuple", _, PyProof.Rows.slot_tuple_getitem.lookup, ht.typeIs, ?_⟩
  by_cases hw : HT.sIx xs.length 0 lo = 0 ∧ HT.sIx xs.length xs.length hi = xs.length
  · refine getItem_tuple_whole ht hs pl pu (by rw [hlen]; exact hw) ⟨.ref a, H, I, rfl, q1 ?_⟩
    unfold cutV
    rw [hw.1, hw.2]
    simp
  · refine HT.getItem_tuple_cut ht hs pl pu (by rw [hlen]; exact hw) ?_ (by rw [hlen]; exact hz)
    rw [hlen]
    refine ⟨.ref s.heap.objs.size, _, I.laid (t' := s.toks) (o := .frz ({ cls := .type "tuple", data := .seq (List.take (HT.sIx xs.length xs.length hi - HT.sIx xs.length 0 lo) (List.drop (HT.sIx xs.length 0 lo) its.toArray.toList)).toArray } : Obj) (.tup (cutV xs lo hi))) (fun b ob q => Heap.get?_push_of_some _ q) (Nat.le_refl _) ?_, rfl, q2 _ _ (I.hok.fresh (Nat.le_refl _)) rfl rfl⟩
    exact ⟨Heap.get?_push_size _ rfl, Nat.le_trans (cutV_length xs lo hi) hz, _, (r.drop (HT.sIx xs.length 0 lo)).take (HT.sIx xs.length xs.length hi - HT.sIx xs.length 0 lo), IsTup.new _ _⟩
/-- t.m(e, ..) -/
def tTM (r : V → List V → Hp → VK → Prop) (to : TE) (t : TA) : TE := fun σ H Q => to σ H fun x H1 => (∃ a xs, x = .ref a ∧ NT H1 a xs) ∧ t σ H1 fun xs H2 => r x xs H2 Q
variable {o e : Expr} {es : List Expr} {to : TE} {t : TA} {name : Str} {apos cpos : Pos} {id : String} {r : V → List V → Hp → VK → Prop}
theorem pe_tm (pa : PlainAttrs "tuple") (slot : Slot "tuple" name id) (hty : typeOf (.builtin id) = pure (.type "method_descriptor")) (hm : MtR X id r) (ho : PE X o to) (ha : PA X (e :: es) t)
    (hbase : attributeBase o name X.env (eval o X.env) = eval o X.env := by rfl)
    (hfew : ((backTo cpos (starEach (e :: es) X.env)).all (fun x => !x.1) && (backToKw cpos (keywordEach [] X.env)).all (fun x => x.1.isSome)
      && decide ((e :: es).length + ([] : List Keyword).length + (if ([] : List Keyword).isEmpty then 0 else 1) < 30)) = true := by rfl)
    (hline : (apos.endLine == cpos.line) = true := by rfl) (hs : starEach (e :: es) X.env = (false, eval e X.env) :: starEach es X.env := by rfl) (hpl : (backTo cpos (starEach es X.env)).any (·.1) = false := by rfl) :
    PE X (.Call (.Attribute o name apos) (e :: es) [] cpos) (tTM r to t) := by
  refine ⟨fun pins s σ H Q I h => ?_⟩
  refine wpAny_Call_method_late hbase hfew hline rfl (thn (ho.run pins s σ H _ I h) fun v s1 ⟨x, H1, I1, r1, ⟨a, xs, ea, ob, hob, hc, hd⟩, q1⟩ => ?_)
  subst ea
  cases r1
  obtain ⟨hget, _⟩ := (show ObjOk X.prog X.w H1 s1.heap a (.frz ob (.tup xs)) from I1.hok a _ hob)
  refine ⟨"tuple", id, pa, slot, hty, ⟨ob, hget, hc⟩, fun b eb => ?_, ?_⟩
  · cases eb
    exact ⟨ob, hget, hd⟩
  · have hA := ha.run cpos pins s1 σ H1 _ I1 q1
    rw [hs] at hA ⊢
    refine Calls.callWith_builtin (by show (false || (backTo cpos (starEach es X.env)).any (·.1)) = false; rw [hpl] <;> rfl) (Calls.evalArgs_plain ?_)
    exact thn hA fun us s2 ⟨vs, H2, I2, r2, q2⟩ => hm pins s2 σ H2 (.ref a) vs _ us Q I2 rfl r2 q2
end
end FS
set_option maxHeartbeats 2000000
namespace FS
open PySem PySem.Spec PyProof.Rows L2 LamX GxR
theorem KT.refl (H : Hp) : KT H H := fun _ _ _ _ e => e
theorem Ev.refl {r : Addr} (H : Hp) : Ev r H H := fun _ _ _ _ e => e
theorem kt_of {H H' : Hp} (e : ExtN H H') : KT H H' := fun b o _ n h => e b o h n
theorem Ev.kt {r : Addr} {H H' : Hp} {xs : List V} (e : Ev r H H') (hr : H r = some (.lst xs)) : KT H H' := fun b o n1 n2 h => e b o (fun z => by rw [z, hr] at h; exact n1 xs (Option.some.inj h).symm) n2 h
section
variable {G : List Addr} {L : List (Addr × Str)} {H H' H1 H2 : Hp} {r : Addr}
theorem Go.refl (H : Hp) : Go G L H H := ⟨ExtN.refl H, id⟩
theorem Go.tabbed {P : Addr} (A : Apart G L) (hP : P ∈ G) (t : TBS G L H) (e : Tabbed P H H') : Go G L H H' := by
  obtain ⟨ps, hps, _⟩ := t.1 P hP
  have k : ∀ b o, b ≠ P → H b = some o → H' b = some o := fun b o n h => (e.2 b n).trans h
  have nP : ∀ b o, (∀ q, o ≠ .tbl q) → H b = some o → b ≠ P := fun b o n h z => by
    rw [z, hps] at h
    exact n ps (Option.some.inj h).symm
  refine ⟨fun b o h n => k b o (nP b o n h) h, fun _ => ⟨fun p hp => ?_, fun p hp => tabS_keep (t.2 p hp) (fun o => k _ o fun z => A.gl p hp (z ▸ hP)) fun c hc => k _ _ (nP c _ codeO_ne hc) hc⟩⟩
  by_cases z : p = P
  · rw [z]
    exact e.1
  · exact tabG_keep (t.1 p hp) fun o => k p o z
theorem GoR.refl (H : Hp) : GoR G L r H H := ⟨Ev.refl H, id⟩
theorem Go.kt (a : Go G L H H') : KT H H' := kt_of a.1
theorem GoR.kt {xs : List V} (a : GoR G L r H H') (hr : H r = some (.lst xs)) : KT H H' := a.1.kt hr
end
theorem Tp.kt {H H' : Hp} {a : Addr} {xs : List V} (h : Tp H a xs) (k : KT H H') : Tp H' a xs := by
  rcases h with h | ⟨o, h⟩
  · exact .inl (k a _ (fun _ z => by cases z) (fun _ z => by cases z) h)
  · exact .inr ⟨o, k a _ (fun _ z => by cases z) (fun _ z => by cases z) h⟩
theorem NT.kt {H H' : Hp} {a : Addr} {xs : List V} (h : NT H a xs) (k : KT H H') : NT H' a xs := by
  obtain ⟨o, e, h1, h2⟩ := h
  exact ⟨o, k a _ (fun _ z => by cases z) (fun _ z => by cases z) e, h1, h2⟩
mutual
theorem Im.kt {H H' : Hp} (k : KT H H') : ∀ {v : V} {d : PyData}, Im H v d → Im H' v d
  | _, _, .non => .non
  | _, _, .bl b => .bl b
  | _, _, .int i => .int i
  | _, _, .str x => .str x
  | _, _, .tup h t => .tup (h.kt k) (Ims.kt k t)
theorem Ims.kt {H H' : Hp} (k : KT H H') : ∀ {vs : List V} {ds : List PyData}, Ims H vs ds → Ims H' vs ds
  | _, _, .nil => .nil
  | _, _, .cons h t => .cons (Im.kt k h) (Ims.kt k t)
end
mutual
theorem Im.dp {K : PySem.W.Frag} {H : Hp} : ∀ {v : V} {d : PyData}, Im H v d → Dp K H v d
  | _, _, .non => .non
  | _, _, .bl b => .bl b
  | _, _, .int i => .int i
  | _, _, .str x => .str x
  | _, _, .tup h t => .tup h.seq (Ims.dp t)
theorem Ims.dp {K : PySem.W.Frag} {H : Hp} : ∀ {vs : List V} {ds : List PyData}, Ims H vs ds → DpAll K H vs ds
  | _, _, .nil => .nil
  | _, _, .cons h t => .cons (Im.dp h) (Ims.dp t)
end
theorem Ims.get {H : Hp} : ∀ {vs : List V} {ds : List PyData} {i : Nat} {v : V}, Ims H vs ds → vs[i]? = some v → ∃ d, ds[i]? = some d ∧ Im H v d
  | _, _, _, _, .nil, e => by simp at e
  | _, _, 0, _, .cons h _, e => by simp at e; subst e; exact ⟨_, rfl, h⟩
  | _, _, i + 1, v, .cons _ t, e => by
    obtain ⟨d, h1, h2⟩ := Ims.get (i := i) (v := v) t (by simpa using e)
    exact ⟨d, by simpa using h1, h2⟩
theorem Ims.app {H : Hp} : ∀ {vs ws : List V} {ds es : List PyData}, Ims H vs ds → Ims H ws es → Ims H (vs ++ ws) (ds ++ es)
  | _, _, _, _, .nil, s => s
  | _, _, _, _, .cons h t, s => .cons h (t.app s)
theorem ims_strs {H : Hp} : ∀ xs : List Str, Ims H (xs.map V.str) (xs.map PyData.str)
  | [] => .nil
  | x :: xs => .cons (.str x) (ims_strs xs)
mutual
theorem Dp.go {K : PySem.W.Frag} {H H' : Hp} (e : ExtN H H') : ∀ {v : V} {d : PyData}, Dp K H v d → Dp K H' v d
  | _, _, .non => .non
  | _, _, .bl b => .bl b
  | _, _, .int i => .int i
  | _, _, .str x => .str x
  | _, _, .lst h t => .lst (by
      rcases h with (h | ⟨o, h⟩) | h
      · exact .inl (.inl (e _ _ h fun _ z => by cases z))
      · exact .inl (.inr ⟨o, e _ _ h fun _ z => by cases z⟩)
      · exact .inr h) (Dps.go e t)
  | _, _, .tup h t => .tup (by
      rcases h with (h | ⟨o, h⟩) | h
      · exact .inl (.inl (e _ _ h fun _ z => by cases z))
      · exact .inl (.inr ⟨o, e _ _ h fun _ z => by cases z⟩)
      · exact .inr h) (Dps.go e t)
theorem Dps.go {K : PySem.W.Frag} {H H' : Hp} (e : ExtN H H') : ∀ {vs : List V} {ds : List PyData}, DpAll K H vs ds → DpAll K H' vs ds
  | _, _, .nil => .nil
  | _, _, .cons h t => .cons (Dp.go e h) (Dps.go e t)
end
theorem Dps.get {K : PySem.W.Frag} {H : Hp} : ∀ {vs : List V} {ds : List PyData} {i : Nat} {v : V}, DpAll K H vs ds → vs[i]? = some v → ∃ d, ds[i]? = some d ∧ Dp K H v d
  | _, _, _, _, .nil, e => by simp at e
  | _, _, 0, _, .cons h _, e => by simp at e; subst e; exact ⟨_, rfl, h⟩
  | _, _, i + 1, v, .cons _ t, e => by
    obtain ⟨d, h1, h2⟩ := Dps.get (i := i) (v := v) t (by simpa using e)
    exact ⟨d, by simpa using h1, h2⟩
/-- small depth: what == and in ask of data -/
def lv : Nat → PyData → Bool
  | _, .none => true
  | _, .bool _ => true
  | _, .int _ => true
  | _, .str z => PyData.strOk z
  | n + 1, .tuple ds => ds.all (lv n)
  | n + 1, .list ds => ds.all (lv n)
  | _, _ => false
theorem lv_all {n : Nat} (ih : ∀ d, lv n d = true → d.canLay0 = true ∧ d.depth ≤ n) : ∀ ds : List PyData, ds.all (lv n) = true → PyData.canLayAll0 ds = true ∧ PyData.depthAll ds ≤ n
  | [], _ => ⟨rfl, Nat.zero_le _⟩
  | d :: ds, h => by
    rw [List.all_cons, Bool.and_eq_true] at h
    obtain ⟨a1, a2⟩ := ih d h.1
    obtain ⟨b1, b2⟩ := lv_all ih ds h.2
    refine ⟨by simp only [PyData.canLayAll0, a1, b1, Bool.and_self], ?_⟩
    simp only [PyData.depthAll]
    omega
theorem lv_ok : ∀ (n : Nat) (d : PyData), lv n d = true → d.canLay0 = true ∧ d.depth ≤ n
  | n, .none, _ => by cases n <;> exact ⟨by simp [PyData.canLay0], by simp [PyData.depth]⟩
  | n, .bool _, _ => by cases n <;> exact ⟨by simp [PyData.canLay0], by simp [PyData.depth]⟩
  | n, .int _, _ => by cases n <;> exact ⟨by simp [PyData.canLay0], by simp [PyData.depth]⟩
  | n, .str z, h => by cases n <;> exact ⟨by simp only [PyData.canLay0]; exact h, by simp [PyData.depth]⟩
  | n + 1, .tuple ds, h => by
    have h' : ds.all (lv n) = true := by simpa only [lv] using h
    obtain ⟨a, b⟩ := lv_all (lv_ok n) ds h'
    refine ⟨by simp only [PyData.canLay0]; exact a, ?_⟩
    simp only [PyData.depth]
    omega
  | n + 1, .list ds, h => by
    have h' : ds.all (lv n) = true := by simpa only [lv] using h
    obtain ⟨a, b⟩ := lv_all (lv_ok n) ds h'
    refine ⟨by simp only [PyData.canLay0]; exact a, ?_⟩
    simp only [PyData.depth]
    omega
  | 0, .tuple ds, h => by simp [lv] at h
  | 0, .list ds, h => by simp [lv] at h
  | 0, .dict ds, h => by simp [lv] at h
  | n + 1, .dict ds, h => by simp [lv] at h
theorem shaped_of {n : Nat} {d : PyData} (h : lv n d = true) (hn : n ≤ 64 := by decide) : SeqAt.shaped d = true := by
  obtain ⟨a, b⟩ := lv_ok n d h
  show (d.canLay0 && decide (d.depth ≤ 64)) = true
  rw [a, decide_eq_true (Nat.le_trans b hn)]
  rfl
end FS
set_option maxHeartbeats 2000000
namespace FS
open PySem PySem.Spec PyProof.Rows L2

theorem meets_enumT {v : Value} {o : Obj} {P : Heap → Prop} (B : Begins v o P) :
    Meets (Builtin.«enumerate.__new__» ⟨[.type "enumerate", v], []⟩) (fun _ R s => P s.heap ∧
      R (.ok (.ret (.ref (s.heap.push o).objs.size)))
        { s with heap := (s.heap.push o).push { cls := .type "enumerate", data := .fields #[.none, .bool false, .ref s.heap.objs.size, rawInt 0, .none, .none] } }) :=
  .of_wp fun prog w A R s hyp => by
    obtain ⟨hp, gs, dr, tk, os⟩ := s
    obtain ⟨hP, hyp⟩ := hyp
    have sub := sub_enumerate
    have step : ∀ {A' : Around} {E : Value → Shared → Prop} {Q : Value → Shared → Prop}, Q (.ref hp.objs.size) ⟨hp.push o, gs, dr, tk, os⟩ →
        wpAny (model prog w) A' (pyIter v) Q E ⟨hp, gs, dr, tk, os⟩ := fun z => B.iter prog w _ _ ⟨hp, gs, dr, tk, os⟩ _ hP z
    wp_walk using step
    refine wpAny_stack_any fun _ => wpAny_pure ?_
    split
    · rename_i cc _ _ _ _ _
      cases (cc == Value.type "enumerate") <;> (wp_walk using step; exact ⟨_, rfl, hyp⟩)
    · wp_walk using step; exact ⟨_, rfl, hyp⟩

section
variable {prog : Program} {w : World} {A : Around} {E : Value → Shared → Prop} {s : Shared}
theorem call_enumT {v : Value} {o : Obj} {P : Heap → Prop} {Q : Value → Shared → Prop} (B : Begins v o P) (hP : P s.heap)
    (hQ : ∀ h', IsEnum h' (s.heap.objs.size + 1) s.heap.objs.size 0 .none → h'.get? s.heap.objs.size = some o → (∀ b u, s.heap.get? b = some u → h'.get? b = some u) → Q (.ref (s.heap.objs.size + 1)) { s with heap := h' }) :
    wpAny (model prog w) A (call (.type "enumerate") [v]) Q E s := by
  refine callType_new F.called_enumerate (by decide) (F.typeCall_enumerate_1 _) (F.newCall_enumerate_1 _) (fun ob => F.args_object_init_2 ob _) F.entry_enumerate_new (meets_enumT B) ⟨hP, ?_⟩
  have sz : (s.heap.push o).objs.size = s.heap.objs.size + 1 := Heap.size_push ..
  show _ ∧ _
  rw [sz]
  have en : IsEnum ((s.heap.push o).push { cls := .type "enumerate", data := .fields #[.none, .bool false, .ref s.heap.objs.size, rawInt 0, .none, .none] }) (s.heap.objs.size + 1) s.heap.objs.size 0 .none := by
    have z := Heap.get?_push_size (s.heap.push o) (o := { cls := .type "enumerate", data := .fields #[.none, .bool false, .ref s.heap.objs.size, rawInt 0, .none, .none] }) rfl
    rw [sz] at z
    exact z
  exact ⟨⟨_, en, rfl⟩, hQ _ en (Heap.get?_push_of_some _ (Heap.get?_push_size _ B.free)) fun b u q => Heap.get?_push_of_some _ (Heap.get?_push_of_some _ q)⟩
end

/-- the tuple at a, each item in a new pair with its place -/
def IteT (K : PySem.W.Frag) (a : Addr) : It where
  go := fun i H => ∃ (xs : List V) (x : V), SqT K H a xs ∧ xs[i]? = some x
  yld := fun i H v H' => ∃ T x, v = .ref T ∧ H T = none ∧ H' = upd H T (.tup [.int (i : Nat), x]) ∧ ∀ xs, SqT K H a xs → xs[i]? = some x
  stop := fun i H => ∃ xs : List V, SqT K H a xs ∧ xs.length = i

theorem turn_enumT {P : Program} {w : World} {K : PySem.W.Frag} {elts : List Expr} {kk : Nat} {tp : Pos} (a e it : Addr) (ha : a ≠ it) (hae : e ≠ a) :
    Turn P w K (.Tuple elts kk tp) (IteT K a) [e, it] e (fun i h => (∃ old, IsEnum h e it ((i : Nat) : Int) old) ∧ h.IsTupleIter it a i ∧ e ≠ it) where
  mem := by simp
  obj := fun i h st b hb => by
    obtain ⟨⟨old, he⟩, ⟨o, ho, _, hd⟩, _⟩ := st
    have hb' : b = e ∨ b = it := by simpa using hb
    rcases hb' with z | z <;> subst z
    · exact ⟨_, he, fun v q => nomatch q⟩
    · exact ⟨o, ho, fun v q => by rw [hd] at q; cases q⟩
  keep := fun i h h' st k => by
    obtain ⟨⟨old, he⟩, hi, hne⟩ := st
    exact ⟨⟨old, k e (by simp) _ he⟩, hi.at fun o q => k it (by simp) o q, hne⟩
  item := by
    intro X hP hw hK hc i pins s σ H E I hf st hg
    subst hP hw hK
    obtain ⟨⟨old, he⟩, hit, hne⟩ := st
    obtain ⟨xs, x, hq, hx⟩ := hg
    obtain ⟨its, rv, p, hz⟩ := I.tuple hq
    obtain ⟨u, hu, ru⟩ := rv.get hx
    have hel : e < s.heap.objs.size := Heap.lt_size he
    have hil : it < s.heap.objs.size := by obtain ⟨_, q, _⟩ := hit; exact Heap.lt_size q
    have hlt : i < its.toArray.size := by
      have q := (List.getElem?_eq_some_iff.mp hu).1
      simpa using q
    have D := Draws.tuple (prog := X.prog) (w := X.w) (A := X.A.in1) (by exact I.ok.hd hc) it a ha its.toArray
    refine wpAny_pyNext_enum_itemD (n := its.toArray.size) D he ⟨hit, p⟩ hlt hne (by simpa using ⟨hne, hae⟩) fun x' h' tk hx' ho hst hT hsz hk => ?_
    have ex : x' = u := by
      have q : its.toArray[i]? = some u := by simpa using hu
      rw [hx'] at q
      exact Option.some.inj q
    subst ex
    refine ⟨_, rfl, wpAny_letOwnedTupleGo_enum (s := { s with heap := h', toks := tk + 1 }) ho fun h'' he' sb => ?_⟩
    have hT2 : h''.get? s.heap.objs.size = some { cls := .type "tuple", data := .seq #[.int i tk, x'] } := (sb.2 _ (Nat.ne_of_gt hel)).trans hT
    have new : ObjOk X.prog X.w (upd H s.heap.objs.size (.tup [.int (i : Nat), x])) h'' s.heap.objs.size (.tup [.int (i : Nat), x]) :=
      ⟨by show 2 ≤ sizeLine; decide, [.int i tk, x'], .cons ⟨_, rfl⟩ (.cons ru .nil), ⟨_, hT2, rfl, _, rfl⟩⟩
    have I1 : Inv X pins σ (upd H s.heap.objs.size (.tup [.int (i : Nat), x])) { s with heap := h'', toks := tk + 1 } :=
      I.turnedNew (ch := [e, it]) (fun b ob hb q => (sb.2 b (fun z => hb (by simp [z]))).trans (hk b ob (fun z => hb (by simp [z])) (fun z => hb (by simp [z])) q)) hf (Nat.le_refl _) new
    refine ⟨.ref s.heap.objs.size, _, I1, rfl, ⟨_, x, rfl, I.hok.fresh (Nat.le_refl _), rfl, fun ys hy => by rw [I.tuple_inj hy hq]; exact hx⟩, ⟨⟨x', ?_⟩, hst.1.at fun o q => (sb.2 it (Ne.symm hne)).trans q, hne⟩, fun b hb => ?_⟩
    · have e1 : ((i + 1 : Nat) : Int) = (i : Int) + 1 := by omega
      rw [e1]
      exact he'
    · have hb' : b = e ∨ b = it := by simpa using hb
      have hlt' : b < s.heap.objs.size := by rcases hb' with z | z <;> (rw [z]; assumption)
      rw [upd_ne (Nat.ne_of_lt hlt')]
      exact (hf b hb).1
  done := by
    intro X hP hw hK hc i pins s σ H E I hf st hg
    subst hP hw hK
    obtain ⟨⟨old, he⟩, hit, hne⟩ := st
    obtain ⟨xs, hq, hx⟩ := hg
    obtain ⟨its, rv, p, hz⟩ := I.tuple hq
    obtain ⟨f0, f1, f2, f3, f4, f5⟩ := hf it (by simp)
    have hn : its.toArray.size = i := by
      have q := rv.length
      simp
      omega
    have D := Draws.tuple (prog := X.prog) (w := X.w) (A := X.A.in1) (by exact I.ok.hd hc) it a ha its.toArray
    exact wpAny_pyNext_enum_endD (n := its.toArray.size) D he (by rw [hn]; exact ⟨hit, p⟩) fun h' eb => ⟨rfl, I.turned (t' := s.toks) (fun b o hb q => eb b o hb q) f0 f1 f3 f4 f5⟩
  self := fun A i s Q E st h => by
    obtain ⟨⟨_, he⟩, _⟩ := st
    exact wpAny_pyIter_enum he h
def iEnumT (K : PySem.W.Frag) (ta : TA) : TI := fun σ H R => ta σ H fun vs H1 => ∃ a xs, vs = [.ref a] ∧ SqT K H1 a xs ∧ R (IteT K a) H1
theorem pi_enumT {X : Cx} {e : Expr} {ta : TA} {p pos tpos : Pos} {elts : List Expr} {kk : Nat} (hg : Gl X "enumerate") (hm : X.mg "enumerate" = none) (ha : PA X [e] ta) (hs : starEach [e] X.env = [(false, eval e X.env)] := by rfl) :
    PI X (.Tuple elts kk tpos) (.Call (.Name "enumerate" p) [e] [] pos) (iEnumT X.K ta) := by
  refine ⟨fun pins s σ H R I h => ?_⟩
  refine Call_ (ld_blt I hg hm boot_enumerate (PyProof.Rows.callWith_type1 (thn (ha.run pos pins s σ H _ I h) fun us s1 ⟨vs, H1, I1, r1, a, xs, ev, hq, q⟩ => ?_) hs rfl))
  subst ev
  obtain ⟨u, rfl, ru⟩ := vals1 r1
  cases ru
  obtain ⟨its, rv, pt, hz⟩ := I1.tuple hq
  have hal : a < s1.heap.objs.size := pt.lt
  refine call_enumT (begins_tuple a its.toArray) pt fun h' he hit hk => wpAny_pyIter_enum he ?_
  have I2 : Inv X pins σ H1 { s1 with heap := h' } := I1.kept (t' := s1.toks) hk
  refine ⟨s1.heap.objs.size + 1, [s1.heap.objs.size + 1, s1.heap.objs.size], _, _, H1, rfl, I2, turn_enumT a (s1.heap.objs.size + 1) s1.heap.objs.size (Nat.ne_of_lt hal) (Nat.ne_of_gt (Nat.lt_succ_of_lt hal)), ⟨⟨.none, he⟩, ⟨_, hit, rfl, rfl⟩, Nat.succ_ne_self _⟩, fun b hb => ?_, q⟩
  have hb' : b = s1.heap.objs.size + 1 ∨ b = s1.heap.objs.size := by simpa using hb
  have hle : s1.heap.objs.size ≤ b := by
    rcases hb' with z | z <;> rw [z]
    · exact Nat.le_succ _
    · exact Nat.le_refl _
  exact I1.fpOk hle (I1.hok.fresh hle)
theorem walk_enumT {K : PySem.W.Frag} {a : Addr} {xs : List V} : Walk (IteT K a) xs.length (fun H => SqT K H a xs) (YPair (fun i => some (.int (i : Nat))) (fun i => xs[i]?)) := by
  refine ⟨fun i _ hi q => ⟨xs, xs[i], q, by simp [hi]⟩, fun _ q => ⟨xs, q, rfl⟩, fun i H v H' _ q y => ?_⟩
  obtain ⟨T, x, h1, h2, h3, h4⟩ := y
  exact ⟨T, .int (i : Nat), x, h1, h2, h3, rfl, h4 xs q⟩
end FS
set_option maxHeartbeats 2000000
namespace FS
open PySem PySem.Spec PyProof.Rows L2
section
variable {X : Cx}
def rInT (K : PySem.W.Frag) (f : Bool → Bool) : R2 := fun x y H Q => ∃ d ds, Dp K H x d ∧ Dp K H y (.tuple ds) ∧ SeqAt.shaped d = true ∧ SeqAt.shaped (.tuple ds) = true ∧ Q (.bl (f (ds.any fun z => PyData.eqv z d))) H
theorem op_inT (hu : X.A.units + 65 < cLine) : OpR X (compareOp .In) (rInT X.K id) := by
  intro pins s σ H x y v u Q I rx ry ⟨d, ds, hd, he, sd, se, q⟩
  obtain ⟨as, r1⟩ := Dp.reads I d x v hd rx
  obtain ⟨bs, r2⟩ := Dp.reads I (.tuple ds) y u he ry
  exact SeqAt.in_tuple_reads r2 r1 (SeqAt.canLay_of_shaped se) (SeqAt.canLay_of_shaped sd) (room_in_shaped sd hu) ⟨.bl _, H, I, rfl, q⟩
theorem op_notInT (hu : X.A.units + 65 < cLine) : OpR X (compareOp .NotIn) (rInT X.K not) := by
  intro pins s σ H x y v u Q I rx ry ⟨d, ds, hd, he, sd, se, q⟩
  obtain ⟨as, r1⟩ := Dp.reads I d x v hd rx
  obtain ⟨bs, r2⟩ := Dp.reads I (.tuple ds) y u he ry
  exact SeqAt.notIn_tuple_reads r2 r1 (SeqAt.canLay_of_shaped se) (SeqAt.canLay_of_shaped sd) (room_in_shaped sd hu) ⟨.bl _, H, I, rfl, q⟩
/-- l.count(b), a list of truth values -/
def rCntB (K : PySem.W.Frag) : V → List V → Hp → VK → Prop := fun x xs H Q => ∃ (p : Addr) (bs : List Bool) (k : Bool), x = .ref p ∧ xs = [.bl k] ∧ SqL K H p (bs.map V.bl) ∧ Q (.int (bs.count k : Nat)) H
theorem cnt_bools {k : Bool} : ∀ {bs : List Bool} {us : List Value}, Vals (bs.map V.bl) us → us.countP (eqU (.bl k)) = bs.count k
  | [], _, .nil => rfl
  | b :: bs, _, .cons r t => by
    have ih := cnt_bools (k := k) t
    have e : eqU (.bl k) _ = eqV (.bl b) (.bl k) := eqU_of r rfl
    rw [List.countP_cons, ih, List.count_cons, e]
    cases b <;> cases k <;> rfl
theorem mt_lcountB : MtR X "list.count" (rCntB X.K) := by
  intro pins s σ H x xs v us Q I rx rxs ⟨p, bs, k, e1, e2, hs, q⟩
  subst e1 e2
  cases rx
  obtain ⟨u, eu, ru⟩ := vals1 rxs
  subst eu
  obtain ⟨its, rv, ⟨⟨cls, dd, data, sl⟩, n, ho, hc, hdn, hd⟩, hlen⟩ := I.list hs
  simp only at hc hd
  subst hc hd
  have fl : (bs.map V.bl).all flatV = true := by
    rw [List.all_eq_true]
    intro z hz
    obtain ⟨b, _, e⟩ := List.mem_map.mp hz
    rw [← e]
    rfl
  refine call_meets PySem.F.slot_list_count ⟨_, ho, rfl⟩ PySem.F.entry_list_count (PySem.F.args_list_count_2 _ _)
    (SeqAt.list_countAt p its.toArray n dd sl u (eqU (.bl k))) ⟨ho, fun y hy => mem_eqAt ru rfl rv fl y (by simpa using hy), ?_⟩
  refine ⟨.int (bs.count k : Nat), H, I.tok _, ⟨s.toks, ?_⟩, q⟩
  show Value.int ((its.toArray.toList.countP (eqU (.bl k)) : Nat) : Int) s.toks = Value.int ((bs.count k : Nat) : Int) s.toks
  rw [show its.toArray.toList = its from rfl, cnt_bools rv]
end
end FS
set_option maxHeartbeats 2000000
namespace FS
open PySem PySem.Spec PyProof.Rows L2
section
variable {σ : L2.St} {H : Hp} {Q : VK} {D : Ends} {K : PySem.W.Frag}
theorem r_var {i : Nat} {v : V} (h : σ[i]? = some (some v)) (q : Q v H) : tVar i σ H Q := ⟨v, h, q⟩
theorem r_c {v : V} (q : Q v H) : tC v σ H Q := q
theorem r_op {r : R2} {ta tb : TE} (h : ta σ H fun x H1 => tb σ H1 fun y H2 => r x y H2 Q) : tOp r ta tb σ H Q := h
theorem r_nil {Q : List V → Hp → Prop} (q : Q [] H) : tNil σ H Q := q
theorem r_cons {ta : TE} {tr : TA} {Q : List V → Hp → Prop} (h : ta σ H fun x H1 => tr σ H1 fun xs H2 => Q (x :: xs) H2) : tCons ta tr σ H Q := h
theorem r_I0 {g : Int → Int → V} {i j : Int} (q : Q (g i j) H) : rI0 g (.int i) (.int j) H Q := ⟨i, j, rfl, rfl, q⟩
theorem r_I {C : Int → Int → Prop} {g : Int → Int → V} {i j : Int} (c : C i j) (q : Q (g i j) H) : rI C g (.int i) (.int j) H Q := ⟨i, j, rfl, rfl, c, q⟩
theorem r_eq {x y : V} (c : scal x y = true) (q : Q (.bl (decide (x = y))) H) : rEq x y H Q := ⟨c, q⟩
theorem r_ne {x y : V} (c : scal x y = true) (q : Q (.bl (!decide (x = y))) H) : rNe x y H Q := ⟨c, q⟩
theorem r_test {te : TE} {Q : Bool → Hp → Prop} (h : te σ H fun x H' => ∃ k, x = .bl k ∧ Q k H') : tTest te σ H Q := h
theorem r_tB {te : TE} {Q : Bool → Hp → Prop} (h : te σ H fun x H' => ∃ k, x = .bl k ∧ Q k H') : tB te σ H Q := h
theorem r_bl {b : Bool} {P : Bool → Prop} (q : P b) : ∃ k, V.bl b = .bl k ∧ P k := ⟨b, rfl, q⟩
theorem r_not {t : TT} {Q : Bool → Hp → Prop} (h : t σ H fun c H1 => Q (!c) H1) : tNot t σ H Q := h
theorem r_and {t u : TT} {Q : Bool → Hp → Prop} (h : t σ H fun c H1 => if c = true then u σ H1 Q else Q false H1) : tAnd t u σ H Q := h
theorem r_or {t u : TT} {Q : Bool → Hp → Prop} (h : t σ H fun c H1 => if c = true then Q true H1 else u σ H1 Q) : tOr t u σ H Q := h
theorem r_notV {te : TE} (h : te σ H fun x H1 => ∃ c, x = .bl c ∧ Q (.bl (!c)) H1) : tNotV te σ H Q := h
theorem r_andV {ta tb : TE} (h : ta σ H fun x H1 => ∃ c, x = .bl c ∧ if c = true then tb σ H1 Q else Q (.bl false) H1) : tAndV ta tb σ H Q := h
theorem r_orV {ta tb : TE} (h : ta σ H fun x H1 => ∃ c, x = .bl c ∧ if c = true then Q (.bl true) H1 else tb σ H1 Q) : tOrV ta tb σ H Q := h
theorem r_ifE {t : TT} {ta tb : TE} (h : t σ H fun c H1 => if c = true then ta σ H1 Q else tb σ H1 Q) : tIf t ta tb σ H Q := h
theorem r_seq {t u : TS} (h : t { D with nx := u D } σ H) : tSeq t u D σ H := h
theorem r_asg {te : TE} {g : TG} (h : te σ H fun x H1 => g x σ H1 D.nx) : tAsg te g D σ H := h
theorem r_gN {i : Nat} {v : V} {Q : L2.St → Hp → Prop} (h : Q (σ.set i (some v)) H) : gName i v σ H Q := h
theorem r_ifS {c : TT} {t u : TS} (h : c σ H fun b H1 => if b = true then t D σ H1 else u D σ H1) : tIfS c t u D σ H := h
theorem r_ret {te : TE} (h : te σ H D.rt) : tRet te D σ H := h
theorem r_drop {te : TE} (h : te σ H fun _ H1 => D.nx σ H1) : tDrop te D σ H := h
theorem r_next (h : D.nx σ H) : tNext D σ H := h
theorem r_retN (h : D.rt .non H) : tRetN D σ H := h
theorem r_cb {r : List V → Hp → VK → Prop} {t : TA} (h : t σ H fun vs H1 => r vs H1 Q) : tCB r t σ H Q := h
theorem r_call {sp : Sp} {dvs : List V} {E : XK} {t : TA} (h : t σ H fun vs H1 => sp (vs ++ dvs) H1 Q E) : tCall sp dvs E t σ H Q := h
theorem r_lst {t : TA} (h : t σ H fun xs H1 => xs.length ≤ sizeLine ∧ ∀ p, H1 p = none → Q (.ref p) (upd H1 p (.lst xs))) : tLst t σ H Q := h
theorem r_tup {t : TA} (h : t σ H fun xs H1 => xs.length ≤ sizeLine ∧ ∀ p, H1 p = none → Q (.ref p) (upd H1 p (.tup xs))) : tTup t σ H Q := h
theorem r_if {c : Bool} {A B : Prop} (ht : c = true → A) (hf : c = false → B) : if c = true then A else B := by
  cases c
  · exact hf rfl
  · exact ht rfl
def rFld (K : PySem.W.Frag) (f : Str) (x : V) (H1 : Hp) (Q : VK) : Prop := ∃ a C dx fs v, x = .ref a ∧ H1 a = some (.ins C dx fs) ∧ Cls K C ∧ NoAttr K C f ∧ fs.lookup f = some v ∧ Q v H1
theorem r_fld {ta : TE} {f : Str} (h : ta σ H fun x H1 => rFld K f x H1 Q) : tFld K ta f σ H Q := h
end
section
variable {P : Program} {w : World} {K : PySem.W.Frag} {mg : Str → Option Value} {base : Heap}
/-- a def that may be called by its name: no exception leaves it | one may -/
structure Fd (CX : CXT) (P : Program) (w : World) (K : PySem.W.Frag) (mg : Str → Option Value) (base : Heap) (x : Str) (k : Nat) (sp : Sp) : Prop where
  ex : ∃ (f : Addr) (fd : FuncData) (ps : List Str), mg x = some (.ref f) ∧ PySem.W.keepIn K (.ref f) = true ∧ FnOk P w K mg base CX k f fd ps sp ∧ Binds K fd ps []
theorem pe_fd {X : Cx} {CX : CXT} {x : Str} {k j : Nat} {sp : Sp} {E : XK} {p pos : Pos} {e : Expr} {es : List Expr} {t : TA} (c : Fd CX X.prog X.w X.K X.mg X.base x k sp) (hr : Room j X.A) (hx : Passes CX X E) (ha : PA X (e :: es) t) (hk : k ≤ j := by decide) (hg : Gl X x := by rfl)
    (hdb : (x == ("__debug__" : Str)) = false := by decide) (he : starEach (e :: es) X.env = (false, eval e X.env) :: starEach es X.env := by rfl) (hpl : (backTo pos (starEach es X.env)).any (·.1) = false := by rfl) :
    PE X (.Call (.Name x p) (e :: es) [] pos) (tCall sp [] E t) := by
  obtain ⟨f, fd, ps, h1, h2, F, b⟩ := c.ex
  exact pe_call F (hr.mono hk) hg h1 h2 b .nil hx ha hdb he hpl
end
section
variable {σ : L2.St} {H : Hp} {Q : VK} {D : Ends} {K : PySem.W.Frag}
theorem r_ixL {p : Addr} {xs : List V} {i : Int} {v : V} (h : SqL K H p xs) (e : atI xs i = some v) (q : Q v H) : rIxL K (.ref p) (.int i) H Q := ⟨p, xs, i, v, rfl, rfl, h, e, q⟩
theorem r_ixT {p : Addr} {xs : List V} {i : Int} {v : V} (h : SqT K H p xs) (e : atI xs i = some v) (q : Q v H) : rIxT K (.ref p) (.int i) H Q := ⟨p, xs, i, v, rfl, rfl, h, e, q⟩
theorem r_setL {p : Addr} {xs : List V} {k : Int} {j : Nat} {v : V} {Q : Hp → Prop} (h : H p = some (.lst xs)) (e : ixN xs.length k = some j) (q : Q (upd H p (.lst (xs.set j v)))) : rSetL (.ref p) (.int k) v H Q := ⟨p, xs, k, j, rfl, rfl, h, e, q⟩
theorem r_set2 {p : Addr} {xs ys : List V} {k : Int} {j : Nat} {v : V} {Q : Hp → Prop} (h : H p = some (.lst xs)) (e : ixN xs.length k = some j) (es : xs.set j v = ys) (q : ∀ H1, (∀ G L, GoR G L p H H1) → H1 p = some (.lst ys) → Q H1) : rSetL (.ref p) (.int k) v H Q := by
  subst es
  exact r_setL h e (q _ (fun _ _ => GoR.upd h) upd_same)
theorem r_chain {r r' : R2} {ta tb tc : TE} (h : ta σ H fun x H1 => tb σ H1 fun y H2 => r x y H2 fun z H3 => ∃ k, z = .bl k ∧ (if k = true then tc σ H3 fun u H4 => r' y u H4 Q else Q (.bl false) H3)) : tChain r r' ta tb tc σ H Q := h
theorem r_nf {A B : Prop} (h : A) : if (!false) = true then A else B := h
theorem r_nt {A B : Prop} (h : B) : if (!true) = true then A else B := h
theorem r_sl {r : V → Option Int → Option Int → Hp → VK → Prop} {te : TE} {tl th : TO} (h : te σ H fun x H1 => tl σ H1 fun l H2 => th σ H2 fun u H3 => r x l u H3 Q) : tSl r te tl th σ H Q := h
theorem r_part {te : TE} {Q : Option Int → Hp → Prop} (h : te σ H fun x H1 => ∃ i, x = .int i ∧ Q (some i) H1) : tPart te σ H Q := h
theorem r_nopart {Q : Option Int → Hp → Prop} (h : Q none H) : tNoPart σ H Q := h
theorem r_isInt {i : Int} {P : Int → Prop} (h : P i) : ∃ j, V.int i = .int j ∧ P j := ⟨i, rfl, h⟩
theorem r_tm {r : V → List V → Hp → VK → Prop} {to : TE} {t : TA} (h : to σ H fun x H1 => (∃ a xs, x = .ref a ∧ NT H1 a xs) ∧ t σ H1 fun xs H2 => r x xs H2 Q) : tTM r to t σ H Q := h
theorem r_bm {T : String} {r : V → List V → Hp → VK → Prop} {to : TE} {t : TA} (h : to σ H fun x H1 => tyV K T x H1 ∧ t σ H1 fun xs H2 => r x xs H2 Q) : tBM K T r to t σ H Q := h
theorem r_make {C : Addr} {sp : Sp} {dvs : List V} {t : TA} {E : XK} (h : t σ H fun vs H1 => ∀ x dx, H1 x = none → H1 dx = none → dx ≠ x → sp (.ref x :: (vs ++ dvs)) (upd (upd H1 dx (.own x)) x (.ins C dx [])) (fun v H2 => v = .non ∧ Q (.ref x) H2) E) : tMake C sp dvs E t σ H Q := h
theorem r_gsub {to ti : TE} {t : TSet} {v : V} {Q : L2.St → Hp → Prop} (h : to σ H fun o H1 => ti σ H1 fun i H2 => t o i v H2 fun H3 => Q σ H3) : gSub to ti t v σ H Q := h
def cInt : List V → Hp → VK → Prop := fun xs H Q => (∃ i, xs = [.int i] ∧ Q (.int i) H) ∨ ∃ k, xs = [.bl k] ∧ Q (.int (if k then 1 else 0)) H
theorem c_int {X : Cx} : CallR X (.type "int") cInt := call_int1
theorem r_int1 {i : Int} (q : Q (.int i) H) : cInt [.int i] H Q := .inl ⟨i, rfl, q⟩
theorem r_intB {b : Bool} (q : Q (.int (if b then 1 else 0)) H) : cInt [.bl b] H Q := .inr ⟨b, rfl, q⟩
def cLen (K : PySem.W.Frag) : List V → Hp → VK → Prop := fun xs H Q => ∃ p ys, xs = [.ref p] ∧ (SqL K H p ys ∨ SqT K H p ys) ∧ Q (.int ys.length) H
theorem c_len {X : Cx} : CallR X (.builtin "len") (cLen X.K) := call_len_seq
theorem r_lenL {p : Addr} {ys : List V} (h : SqL K H p ys) (q : Q (.int ys.length) H) : cLen K [.ref p] H Q := ⟨p, ys, rfl, .inl h, q⟩
theorem r_lenT {p : Addr} {ys : List V} (h : SqT K H p ys) (q : Q (.int ys.length) H) : cLen K [.ref p] H Q := ⟨p, ys, rfl, .inr h, q⟩
def cLenS : List V → Hp → VK → Prop := fun xs H Q => ∃ z, xs = [.str z] ∧ z.length ≤ sizeLine ∧ Q (.int z.length) H
def cTup (K : PySem.W.Frag) : List V → Hp → VK → Prop := fun xs H Q => ∃ p ys, xs = [.ref p] ∧ SqL K H p ys ∧ ∀ l o, H l = none → o.cls = .type "tuple" → o.dict = none → Q (.ref l) (upd H l (.frz o (.tup ys)))
theorem c_tup {X : Cx} : CallR X (.type "tuple") (cTup X.K) := call_tupleD
theorem r_tupL {p : Addr} {ys : List V} (h : SqL K H p ys) (q : ∀ l o, H l = none → o.cls = .type "tuple" → o.dict = none → Q (.ref l) (upd H l (.frz o (.tup ys)))) : cTup K [.ref p] H Q := ⟨p, ys, rfl, h, q⟩
end
/-- one step of a reading -/
local macro_rules | `(tactic| walk_at "rd") => `(tactic| first
  | ((with_reducible refine r_var (v := ?v) ?h ?_); (case h => rfl))
  | (with_reducible refine r_c ?_)
  | (with_reducible refine r_op ?_)
  | (with_reducible refine r_cons ?_)
  | (with_reducible refine r_nil ?_)
  | (with_reducible refine r_I0 ?_)
  | (with_reducible refine r_test ?_)
  | (with_reducible refine r_bl ?_)
  | (with_reducible refine r_tB ?_)
  | (with_reducible refine r_chain ?_)
  | (with_reducible refine iteT ?_)
  | (with_reducible refine iteF ?_)
  | (with_reducible refine r_nf ?_)
  | (with_reducible refine r_nt ?_)
  | (with_reducible refine r_not ?_)
  | (with_reducible refine r_and ?_)
  | (with_reducible refine r_or ?_)
  | (with_reducible refine r_notV ?_)
  | (with_reducible refine r_andV ?_)
  | (with_reducible refine r_orV ?_)
  | (with_reducible refine r_ifE ?_)
  | (with_reducible refine r_seq ?_)
  | (with_reducible refine r_asg ?_)
  | (with_reducible refine r_gN ?_)
  | (with_reducible refine r_ifS ?_)
  | (with_reducible refine r_ret ?_)
  | (with_reducible refine r_drop ?_)
  | (with_reducible refine r_retN ?_)
  | (with_reducible refine r_next ?_)
  | (with_reducible refine r_cb ?_)
  | (with_reducible refine r_call ?_)
  | (with_reducible refine r_lst ?_)
  | (with_reducible refine r_tup ?_)
  | (with_reducible refine r_fld ?_)
  | (with_reducible refine r_gsub ?_)
  | (with_reducible refine r_make ?_)
  | (with_reducible refine r_sl ?_)
  | (with_reducible refine r_part ?_)
  | (with_reducible refine r_nopart ?_)
  | (with_reducible refine r_isInt ?_)
  | (with_reducible refine r_tm ?_)
  | (with_reducible refine r_bm ?_)
  | (with_reducible refine r_int1 ?_)
  | (with_reducible refine r_intB ?_)
  | (dsimp only))
end FS
set_option maxHeartbeats 2000000
namespace FS
open PySem PySem.Spec PyProof.Rows L2
section
variable {prog : Program} {w : World} {A : Around} {E : Value → Shared → Prop} {s : Shared}
end
end FS
set_option maxHeartbeats 2000000
namespace FS
open PySem PySem.Spec PyProof.Rows L2 GxR
/-- the element: a test of the sign, the module's names known -/
def EltG (P : Program) (w : World) (mg : Str → Option Value) (sc : Scope) (x : Str) (elt : Expr) (pb : Nat → Bool) : Prop :=
  ∀ (ce : Env) (A : Around) (E : Value → Shared → Prop) (c : Nat) (t : Tok) (s : Shared) (m : Str → Option Value), ce.scope = sc → ce.globals = mainGlobals → s.heap.Ns mainGlobals mg → s.heap.Ns ce.locals m → m x = some (.str ⟨#[c]⟩ t) →
    wpAny (model P w) A (eval elt ce) (fun y s' => y = .bool (pb c) ∧ Keeps s s') E s
/-- x in NAME, NAME a text of the module -/
theorem eltG_in {P : Program} {w : World} {mg : Str → Option Value} {sc : Scope} {x n : Str} {z : Str} {tz : Tok} {p1 p2 p3 : Pos} (hk : sc.kind = .function) (hl : sc.names.lookup x = some .local) (hn : sc.names.lookup n = some .globalImplicit) (hm : mg n = some (.str z tz))
    (hd : (x == ("__debug__" : Str)) = false := by decide) (hd2 : (n == ("__debug__" : Str)) = false := by decide) :
    EltG P w mg sc x (.Compare (.Name x p1) [.In] [.Name n p2] p3) (fun c => decide (c ∈ z.cps.toList)) := by
  intro ce A E c t s m hs hg hM hL hx
  refine wpAny_Compare1 ?_ rfl
  refine wpAny_Name (wpAny_loadName_local (by rw [hs]; exact hk) (show ce.scope.names.lookup x = some .local by rw [hs]; exact hl) hL hx ?_) hd
  refine Calls.Name_function_global (by rw [hs]; exact hk) (show ce.scope.names.lookup n = some .globalImplicit by rw [hs]; exact hn) (Calls.loadGlobal_global (by rw [hg]; exact hM) hm ?_) hd2
  refine PyProof.Rows.in_str ?_
  refine ⟨?_, keeps_refl _⟩
  rw [StrLaws.found_one z c]
section
variable {X : Cx} {pins : List (Addr × Obj)} {σ : L2.St} {H : Hp} {s : Shared}
theorem gen_strG {c P : Addr} {elt iter : Expr} {x : Str} {px gpos : Pos} {sc : Scope} {pb : Nat → Bool} {te : TE} {k : Nat} {Q' : Value → Shared → Prop} {R : Str → Hp → Prop}
    (hr : Room k X.A) (TB : TabB X.base X.mg c P) (hcode : X.env.code = .ref c) (S : GenS X.env sc x) (hi : PE X iter te) (hel : EltG X.prog X.w X.mg sc x elt pb)
    (hs : ∀ v, genFold iter X.env v = pure v) (I : Inv X pins σ H s) (h : te σ H fun v H1 => ∃ a : Str, v = .str a ∧ TabG H1 P ∧ R a H1)
    (hQ : ∀ a H1 g s5, R a H1 → Ready X pins σ H1 P a pb g s5 → Q' (.ref g) s5) :
    wpAny (model X.prog X.w) X.A (eval (.GeneratorExp elt [⟨.Name x px, iter, [], 0⟩] sc gpos) X.env) Q' X.xe s := by
  refine wpAny_GeneratorExp_walksQ hr.hd S.co (closure_ok S.free) S.cell S.dot S.loc S.kind (by have z := hr.dp; omega) ?_ hs
  refine thn (hi.run pins s σ H _ I h) fun xv s1 ⟨v, H1, I1, r1, a, ev, ⟨ps, hP, ht⟩, q1⟩ => ?_
  subst ev
  obtain ⟨t, et⟩ := r1
  subst et
  refine wpAny_pyIter_str fun o St W hst => ?_
  have hPs : s1.heap.get? P = some { cls := .none, data := .fields ps } := I1.hok P _ hP
  have hPlt := Heap.lt_size hPs
  have hP2 : (s1.heap.push o).get? P = some { cls := .none, data := .fields ps } := Heap.get?_push_of_some _ hPs
  have cd : PySem.W.CodeHd (s1.heap.push o) c P := TB.code.keeps fun b u e => Heap.get?_push_of_some _ (I1.bk b u e)
  have lim2 := I1.nolimit.push o
  have glob : s1.heap.Ns mainGlobals X.mg := I1.mod.glob.keeps I1.bk
  have go : ∀ (code : Value) (h3 : Heap) (tk : Nat) (ps' : Array Value), Heap.ExtBut P (s1.heap.push o) h3 → (s1.heap.push o).objs.size ≤ h3.objs.size → h3.get? P = some { cls := .none, data := .fields ps' } → (∃ more, ps' = ps ++ more) → TriplesOk ps'.toList →
      wpAny (model X.prog X.w) X.A (builtinsFor X.env.globals X.env.builtins) (fun bi s₄ =>
        ∃ Ia fp wr n₀ Pf St₀ pz F, Value.ref s1.heap.objs.size = .ref Ia ∧ (∀ A' : Around, A'.handled = none → Walks X.prog X.w A' Ia fp wr n₀ Pf St₀) ∧ St₀ 0 s₄.heap ∧ (∀ b ∈ fp, b < s₄.heap.objs.size) ∧ s₄.heap.NoLimit ∧ cStatics ∉ wr ∧
          (∀ href : Heap, (∀ b o, s₄.heap.get? b = some o → href.get? b = some o) →
            QuietGen X.prog X.w (genEnv sc (cloFrom X.env.cells sc.names []) s₄.heap.objs.size code bi X.env) x [] elt (List.range s₄.heap.objs.size) wr Pf pz F href) ∧
          (∀ a h₅ tk gs, gs.bare = true → s₄.heap.objs.size < a → h₅.objs.size = a + 1 → (∀ b o, s₄.heap.get? b = some o → h₅.get? b = some o) →
            WalksS X.prog X.w X.A.in4 a (a :: s₄.heap.objs.size :: List.range s₄.heap.objs.size) (s₄.heap.objs.size :: wr) (GenOnlyQ s₄.gens.size) (passing pz n₀ 0).length
              (fun j y => ∃ i, (passing pz n₀ 0)[j]? = some i ∧ F i y) (GenAt X.prog X.w X.A.in4 a s₄.gens.size s₄.heap.objs.size (List.range s₄.heap.objs.size) wr pz n₀ F) →
            GenAt X.prog X.w X.A.in4 a s₄.gens.size s₄.heap.objs.size (List.range s₄.heap.objs.size) wr pz n₀ F 0 { s₄ with gens := s₄.gens.push gs, toks := tk, heap := h₅ } →
            Q' (.ref a) { s₄ with gens := s₄.gens.push gs, toks := tk, heap := h₅ })) X.xe { s1 with heap := h3, toks := tk } := by
    intro code h3 tk ps' hx hsz hP3 hmore ht3
    obtain ⟨bm, ob, e1, e2, e3, e4, e5, e6, e7, e8⟩ := TB.bm
    have hcP : cStatics ≠ P := fun e => by
      obtain ⟨_, ⟨o', es, ep, ho, hd, _⟩, _⟩ := I1.nolimit
      rw [e, hPs] at ho
      cases ho
      cases hd
    have hcl : cStatics < s1.heap.objs.size := by
      obtain ⟨_, hns, _⟩ := I1.nolimit
      exact hns.lt
    have sz2 : (s1.heap.push o).objs.size = s1.heap.objs.size + 1 := Heap.size_push ..
    have kp3 : ∀ b u, b ≠ P → s1.heap.get? b = some u → h3.get? b = some u := fun b u hb e => hx b u hb (Heap.get?_push_of_some _ e)
    have gl3 : h3.Ns mainGlobals X.mg := (glob.push o).extBut hx TB.gP
    have glt : mainGlobals < s1.heap.objs.size := glob.lt
    refine wpAny_builtinsFor (m := X.mg) (by rw [I1.ok.glob]; exact gl3) e1 e2 (kp3 _ _ e4 (I1.bk _ _ e5)) e6 e7 e8 ?_
    refine ⟨s1.heap.objs.size, [s1.heap.objs.size], [s1.heap.objs.size], a.cps.size, SignAt a, St, (fun _ => true), (fun i y => ∃ cc, a.cps[i]? = some cc ∧ y = .bool (pb cc)), rfl, W, ?_, ?_, lim2.extBut hx hcP, ?_, ?_, ?_⟩
    · refine (W X.A hr.hd).frame _ _ _ hst fun b hb u e => hx b u (fun z => ?_) e
      have hb' : b = s1.heap.objs.size := by simpa using hb
      exact Nat.ne_of_lt hPlt (z.symm.trans hb')
    · intro b hb
      have hb' : b = s1.heap.objs.size := by simpa using hb
      rw [hb']
      show s1.heap.objs.size < h3.objs.size
      omega
    · intro z
      have z' : cStatics = s1.heap.objs.size := by simpa using z
      exact Nat.ne_of_lt hcl z'
    · intro href hhref
      refine ⟨fun A' E' i v s₂ m₂ hA hPv hn hm hk => ?_, fun A' E' i v s₂ m₂ hA hPv hp hn hm hk => ?_⟩
      · simp only [List.forIn_nil]
        exact wpAny_pure ⟨rfl, keeps_refl _⟩
      · obtain ⟨cc, u, hcc, ev⟩ := hPv
        subst ev
        have gl2 : s₂.heap.Ns mainGlobals X.mg := by
          obtain ⟨oG, es, ep, hoG, r⟩ := gl3
          refine ⟨oG, es, ep, hk mainGlobals (List.mem_range.mpr (Nat.lt_of_lt_of_le glt (by show s1.heap.objs.size ≤ h3.objs.size; rw [sz2] at hsz; omega))) (fun z => ?_) oG (hhref _ _ hoG), r⟩
          have z' : mainGlobals = s1.heap.objs.size := by simpa using z
          exact Nat.ne_of_lt glt z'
        exact wpAny_mono (hel _ A' E' cc u s₂ m₂ rfl I1.ok.glob gl2 hn hm) (fun y s3 r => ⟨⟨cc, hcc, r.1⟩, r.2⟩) fun _ _ e => e
    · intro g h5 tk5 gs hgb hag hsz5 hk5 W5 hat
      simp only [GxR.passing_true, List.length_range] at W5
      refine hQ a H1 g _ q1 ⟨_, _, _, _, _, W5.in4_1, hat, ?_, fun s' hm => ?_⟩
      · intro j y sj Qj Ej hy hQj
        obtain ⟨i, hij, cc, hcc, ey⟩ := hy
        subst ey
        obtain ⟨hj, ej⟩ := List.getElem?_eq_some_iff.mp hij
        rw [List.getElem_range] at ej
        subst ej
        have e9 : a.cps.toList[j]? = some cc := by rw [Array.getElem?_toList]; exact hcc
        have hQ2 : Qj (trF pb a.cps.toList j) sj := hQj
        rw [trF_some e9] at hQ2
        exact wpAny_truthy_bool hQ2
      · obtain ⟨more, em⟩ := hmore
        have nwr : ∀ b u, s1.heap.get? b = some u → b ∉ h3.objs.size :: [s1.heap.objs.size] := fun b u e hb => by
          have hl := Heap.lt_size e
          have hb' : b = h3.objs.size ∨ b = s1.heap.objs.size := by simpa using hb
          rcases hb' with z | z
          · rw [z] at hl
            have h9 : (h3.objs.size : Nat) < s1.heap.objs.size := hl
            omega
          · rw [z] at hl
            exact Nat.lt_irrefl _ hl
        have J := inv_tab (more := more) (h' := s'.heap) (g' := s'.gens) (d' := s'.drawn) (t' := s'.toks) I1 hP (fun b u hb e => hm.heap b u (nwr b u e) (hk5 b u (kp3 b u hb e)))
          (by rw [← em]; exact hm.heap P _ (nwr P _ hPs) (hk5 P _ hP3)) (AllBare.movedS (I1.bare.push hgb) hm)
        rw [sh_eta s1 s' hm.os] at J
        exact ⟨upd H1 P (.tbl (ps ++ more)), ⟨⟨ps ++ more, upd_same, by rw [← em]; exact ht3⟩, fun b hb => upd_ne hb⟩, J⟩
  refine ⟨lim2, ?_⟩
  cases hf : codeAmong gpos ps.toList with
  | none =>
    refine wpAny_genexprCodeX hcode (cd.code hP2 ht) (cd.tab hP2) hf fun c' h' tk hx hge hlt hco' _ htab' _ => ?_
    obtain ⟨o1, vs, f1, tf, fl, tg, inF, tx, tt, op, _, _, _, _, _, _, _, _, _, htr, _⟩ := hco'
    exact go _ h' tk _ hx (Nat.le_trans hge (Nat.le_of_lt hlt)) htab'.2 ⟨_, rfl⟩ htr
  | some cv =>
    refine wpAny_genexprCode_hit hcode (cd.code hP2 ht) hf ?_
    exact go cv (s1.heap.push o) s1.toks ps (Heap.ExtBut.refl _ _) (Nat.le_refl _) hP2 ⟨#[], by simp⟩ ht

/-- all(test for x in e) -/
theorem pe_allG {c P : Addr} {elt iter : Expr} {x : Str} {px p pos gpos : Pos} {sc : Scope} {pb : Nat → Bool} {te : TE} {k : Nat}
    (hr : Room k X.A) (hg : Gl X "all") (hm : X.mg "all" = none) (hb : bootBuiltins "all" = some (.builtin "all")) (TB : TabB X.base X.mg c P) (hcode : X.env.code = .ref c) (S : GenS X.env sc x) (hi : PE X iter te) (hel : EltG X.prog X.w X.mg sc x elt pb)
    (hs : ∀ v, genFold iter X.env v = pure v)
    (he : starEach [.GeneratorExp elt [⟨.Name x px, iter, [], 0⟩] sc gpos] X.env = (false, eval (.GeneratorExp elt [⟨.Name x px, iter, [], 0⟩] sc gpos) X.env) :: starEach [] X.env := by rfl) :
    PE X (.Call (.Name "all" p) [.GeneratorExp elt [⟨.Name x px, iter, [], 0⟩] sc gpos] [] pos) (tAllS P pb te) := by
  refine ⟨fun pins s σ H Q I h => ?_⟩
  refine wpAny_Call_Name_kw (ld_blt I hg hm hb ?_)
  refine PyProof.Rows.callWith_builtin1 ?_ he (by rfl)
  rw [he]
  show wpAny _ _ (spliced ((false, eval (.GeneratorExp elt [⟨.Name x px, iter, [], 0⟩] sc gpos) X.env) :: backTo pos (starEach [] X.env))) _ _ s
  refine Calls.spliced_cons (gen_strG (R := fun a H1 => ∀ H2, Tabbed P H1 H2 → Q (.bl (a.cps.toList.all pb)) H2) hr TB hcode S hi hel hs I h fun a H1 g s5 hR hG => ?_)
  obtain ⟨fp, wr, G, F, St, W, hst, htr, hI⟩ := hG
  refine Calls.spliced_nil (call_all_walkS (W.self 0 _ _ _ hst ⟨g, fp, wr, G, _, F, St, _, rfl, W, hst, htr, fun s' hmv => ?_⟩))
  obtain ⟨H2, hT, J⟩ := hI s' hmv
  refine ⟨.bl _, H2, J, rfl, ?_⟩
  rw [all_signs a pb]
  exact hR H2 hT
end
end FS
set_option maxHeartbeats 2000000
namespace FS
open PySem PySem.Spec PyProof.Rows L2 LamX
/-- all that was tracked is kept, but what stands at P -/
def But (P : Addr) (H H' : Hp) : Prop := ∀ b o, b ≠ P → H b = some o → H' b = some o
section
variable {X : Cx} {pins : List (Addr × Obj)} {σ : L2.St} {H : Hp} {s : Shared}
theorem lam_makeS {c P : Addr} {params : Arguments} {body : Expr} {sc : Scope} {pos : Pos} {E : Value → Shared → Prop} {Q : Value → Shared → Prop} (I : Inv X pins σ H s) (TB : TabB X.base X.mg c P) (hcode : X.env.code = .ref c)
    (hT : TabS H P (X.env.qual ++ "<lambda>")) (hdef : defaultsOf params X.env = ([], [])) (hfree : ∀ y ∈ sc.names, y.2 = .free → ∃ c, X.env.cells.lookup y.1 = some c)
    (h : ∀ (f c' : Addr) (pm ctv : Value) (H1 : Hp) (s' : Shared), Inv X pins σ H1 s' → But P H H1 → TabS H1 P (X.env.qual ++ "<lambda>") →
      s'.heap.get? f = some (PySem.W.kla_obj "<lambda>" (X.env.qual ++ "<lambda>") params body sc (cloFrom X.env.cells sc.names []) pm c' ctv) → H1 f = none → f ∉ frs X.stack → H1 c' = some (CodeO c' (X.env.qual ++ "<lambda>")) → Q (.ref f) s') :
    wpAny (model X.prog X.w) X.A (eval (.Lambda params body sc pos) X.env) Q E s := by
  obtain ⟨ps, hP, ht, ha⟩ := hT
  refine PySem.W.kla_eval hdef ?_
  have bP := TB.bm.keeps I.bk
  have hP' : s.heap.get? P = some { cls := .none, data := .fields ps } := I.hok P _ hP
  have nofr : ∀ f, s.heap.objs.size ≤ f → f ∉ frs X.stack := fun f hf z => by
    rcases List.mem_cons.mp (I.stkSub _ z) with e | e
    · have l := I.lt
      rw [← e] at l
      exact Nat.lt_irrefl _ (Nat.lt_of_lt_of_le l hf)
    · exact I.nofs hf e
  cases hc : codeAmong pos ps.toList with
  | none =>
    refine PySem.W.kla_makeFunction (mg := X.mg) (c := c) (P := P) (ps := ps) (closure_ok hfree) I.ok.glob (I.mod.glob.keeps I.bk) hcode (TB.code.keeps I.bk) hP' ht hc TB.gP bP fun c' ctv h' tk hx hge hlt hrec htb => ?_
    obtain ⟨c2, oc, vs, t, e2, hoc, hd, hv⟩ := hrec
    cases e2
    have hsz := Nat.le_trans hge (Nat.le_of_lt hlt)
    have nC : H c' = none := I.hok.fresh hge
    have I1 := inv_table (t' := tk) (more := #[rawInt pos.line, rawInt pos.col, .ref c']) (h' := h'.push (PySem.W.kla_obj "<lambda>" (X.env.qual ++ "<lambda>") params body sc (cloFrom X.env.cells sc.names []) ((X.mg "__name__").getD .none) c' ctv)) I hP
      (fun b o hb e => Heap.get?_push_of_some _ (hx b o hb e)) (Heap.get?_push_of_some _ htb) hge ⟨oc, vs, t, Heap.get?_push_of_some _ hoc, hd, hv⟩
    have kb : But P H (upd (upd H P (.tbl (ps ++ #[rawInt pos.line, rawInt pos.col, .ref c']))) c' (CodeO c' (X.env.qual ++ "<lambda>"))) := fun b o n e => by
      rw [upd_ne (ne_of_none e nC), upd_ne n]
      exact e
    have eL : (ps ++ #[rawInt pos.line, rawInt pos.col, .ref c']).toList = ps.toList ++ [rawInt pos.line, rawInt pos.col, .ref c'] := by simp
    have nPc : P ≠ c' := ne_of_none hP nC
    refine h h'.objs.size c' ((X.mg "__name__").getD .none) ctv _ _ I1 kb ⟨_, by rw [upd_ne nPc, upd_same], by rw [eL]; exact PySem.TriplesOk_snoc _ _ _ _ ht, fun p' cv hcv => ?_⟩ (Heap.get?_push_size _ rfl) ?_ (nofr _ hsz) upd_same
    · rw [eL] at hcv
      rcases among_app _ ht hcv with z | z
      · obtain ⟨c0, e1, e2⟩ := ha p' cv z
        refine ⟨c0, e1, kb _ _ (fun q => ?_) e2⟩
        rw [q, hP] at e2
        exact codeO_ne _ (Option.some.inj e2).symm
      · exact ⟨c', z, upd_same⟩
    · have n1 : h'.objs.size ≠ c' := Nat.ne_of_gt hlt
      have n2 : h'.objs.size ≠ P := Nat.ne_of_gt (Nat.lt_of_lt_of_le (Heap.lt_size hP') hsz)
      rw [upd_ne n1, upd_ne n2]
      exact I.hok.fresh hsz
  | some cv =>
    obtain ⟨c', e, hco⟩ := ha pos cv hc
    subst e
    refine PySem.W.kla_makeFunctionHit (mg := X.mg) (c := c) (P := P) (ps := ps) (closure_ok hfree) I.ok.glob (I.mod.glob.keeps I.bk) hcode (TB.code.keeps I.bk) hP' ht hc bP fun ctv h' tk hx hsz => ?_
    have I1 : Inv X pins σ H { s with heap := h'.push (PySem.W.kla_obj "<lambda>" (X.env.qual ++ "<lambda>") params body sc (cloFrom X.env.cells sc.names []) ((X.mg "__name__").getD .none) c' ctv), toks := tk } := I.kept fun b o e => Heap.get?_push_of_some _ (hx b o e)
    exact h h'.objs.size c' ((X.mg "__name__").getD .none) ctv H _ I1 (fun _ _ _ e => e) ⟨ps, hP, ht, ha⟩ (Heap.get?_push_size _ rfl) (I.hok.fresh hsz) (nofr _ hsz) hco
end
def tLamS (P : Addr) (q : Str) (TT : (XK → Hp → VK → Prop) → Hp → VK → Prop) (t : XK → TE) : TE := fun σ H Q => TabS H P q ∧ ∀ H1, But P H H1 → TabS H1 P q → TT (fun E H' Q' => t E σ H' Q') H1 Q
section
variable {X : Cx}
theorem pe_lamS {TT : (XK → Hp → VK → Prop) → Hp → VK → Prop} {x a : Str} {g c P : Addr} {k : Nat} {pg : Arguments} {bg : List Stmt} {sg : Scope} {dV kV doc pm cdv ct oc : Value} {an od : Option Addr} {osl : Array (Option Value)} {Ng : List Str}
    {params : Arguments} {body : Expr} {sc : Scope} {t : XK → TE} {p lpos pos : Pos} (hg : Gl X x) (hm : X.mg x = some (.ref g)) (hk : PySem.W.keepIn X.K (.ref g) = true)
    (lk : X.K.lookup g = some ⟨oc, od, .func (PySem.W.fnOf x x pg bg sg dV kV doc pm an cdv ct), osl⟩) (hcg : PySem.W.codeIn X.K cdv x = true) (hb : L2.Binds X.K (PySem.W.fnOf x x pg bg sg dV kV doc pm an cdv ct) [a] []) (Sg : FnScope Ng [a] sg) (hNg : Ng[0]? = some a) (hva : Vis sg a)
    (hG : GivesTo X Ng x sg g cdv bg a (X.env.qual ++ "<lambda>") TT)
    (TB : TabB X.base X.mg c P) (hcode : X.env.code = .ref c) (hr : Room (k + 2) X.A) (L : LamS X.env.scope sc) (hdef : defaultsOf params X.env = ([], []))
    (hbind : ∀ (q : Str) (cl : List (Str × Addr)) (pm cv ctv : Value), bindArgs (PySem.W.kla_fn "<lambda>" q params body sc cl pm cv ctv) ⟨[], []⟩ = pure [])
    (hbody : ∀ (A : Around) (outer : List Env) (s : Shared) (H : Hp) (E : XK) (f c' : Addr), Room k (A.deeper (lamEnv X sc s.heap.objs.size f c')) → PE (lamCx X A outer s H E sc f c') body (t E))
    (hdb : (x == ("__debug__" : Str)) = false := by decide) (hd : (a == ("__debug__" : Str)) = false := by decide) (hcd : (a == ("__classdict__" : Str)) = false := by decide) :
    PE X (.Call (.Name x p) [.Lambda params body sc lpos] [] pos) (tLamS P (X.env.qual ++ "<lambda>") TT t) := by
  refine ⟨fun pins s σ H Q I ⟨hT, h⟩ => ?_⟩
  refine wpAny_Call_Name_kw (ld_glob I hg hm (PySem.W.callWith_K (h₀ := X.base) I.ok.mod.kin hk ?_ (by rfl) (by rfl)) hdb)
  show wpAny _ _ (spliced ((false, eval (.Lambda params body sc lpos) X.env) :: backTo pos (starEach [] X.env))) _ _ s
  refine Calls.spliced_cons (lam_makeS I TB hcode hT hdef (L.has I.ok) fun f c' pm' ctv H1 s' I1 eN T1 hf hfn hfr hco => Calls.spliced_nil ⟨I1.kIn, ?_⟩)
  have rc : codeAny (model X.prog X.w) X.A (.call (.ref g) ⟨[.ref f], []⟩) (CR C8.CX0 X.stack X.prog X.w H1 s' Q C8.E0) s' := by
    refine run_ofS (N := Ng) (ps := [a]) (us := [.ref f]) (vs := [.ref f]) lk hcg Sg hr I1.env0 (hb s' [.ref f] I1.kIn rfl) (.cons rfl .nil) rfl fun hr' => ?_
    obtain ⟨t', ht', hq'⟩ := hG f c' s' H1 Q (fun E H' Q' => t E σ H' Q') (fun W pn xe E p1 p2 tk hW => pe_act (i := 0) I1 L hf hfn hfr (hbind _ _ _ _ _) tk hW hr' (fun A outer s H hr2 => hbody A outer s H E f c' hr2) hNg hva hd hcd) hco (h H1 eN T1)
    exact ⟨t', ht'.nox, hq'⟩
  refine wpAny_call (codeAny_mono rc fun r s2 hq => ?_)
  cases r with
  | error e => exact (show False from hq).elim
  | ok fl => cases fl with
    | ret u => exact I1.after hq
    | next => exact False.elim hq
    | brk => exact False.elim hq
    | cont => exact False.elim hq
end
end FS
set_option maxHeartbeats 2000000
namespace FS
open PySem PySem.Spec PyProof.Rows L2 LamX
/-- the function object o stands at f -/
def LamO (o : Obj) (f : Addr) : HO := .ext fun h => h.get? f = some o
abbrev lamObj (X : Cx) (ps : Arguments) (b : Expr) (sc : Scope) (dV doc pm ct : Value) (c' : Addr) : Obj :=
  PySem.W.kdv_obj "<lambda>" (X.env.qual ++ "<lambda>") ps (.expr b) sc (cloFrom X.env.cells sc.names []) dV doc pm c' ct
section
variable {X : Cx} {pins : List (Addr × Obj)} {σ : L2.St} {H : Hp} {s : Shared}
theorem lam_tail {c P : Addr} {ps : Arguments} {b : Expr} {sc : Scope} {dV : Value} {pos : Pos} {fl : Nat} {E Q : Value → Shared → Prop} (I : Inv X pins σ H s) (TB : TabB X.base X.mg c P) (hcode : X.env.code = .ref c) (hT : TabS H P (X.env.qual ++ "<lambda>"))
    (hfree : ∀ y ∈ sc.names, y.2 = .free → ∃ c, X.env.cells.lookup y.1 = some c)
    (h : ∀ (f c' : Addr) (doc pm ct : Value) (H1 : Hp) (s1 : Shared), Inv X pins σ H1 s1 → But P H H1 → TabS H1 P (X.env.qual ++ "<lambda>") → H1 c' = some (CodeO c' (X.env.qual ++ "<lambda>")) → H1 f = some (LamO (lamObj X ps b sc dV doc pm ct c') f) → H f = none → Q (.ref f) s1) :
    wpAny (model X.prog X.w) X.A (makeTail "<lambda>" (X.env.qual ++ "<lambda>") ps (.expr b) sc X.env dV .none none pos fl) Q E s := by
  obtain ⟨tb, hP, ht, ha⟩ := hT
  have bP := TB.bm.keeps I.bk
  have hPs := I.hok P _ hP
  cases hc : codeAmong pos tb.toList with
  | none =>
    refine PySem.W.kdv_makeTail (mg := X.mg) (ps := tb) (closure_ok hfree) I.ok.glob (I.mod.glob.keeps I.bk) hcode (TB.code.keeps I.bk) hPs ht hc TB.gP bP fun c' ct doc h' tk hx hge hlt hrec htb => ?_
    obtain ⟨c2, oc, vs, t, e2, hoc, hd, hv⟩ := hrec
    cases e2
    have nC := I.hok.fresh hge
    have nPc := ne_of_none hP nC
    have J := inv_table (t' := tk) (more := #[rawInt pos.line, rawInt pos.col, .ref c']) I hP (fun d o n e => hx d o n e) htb hge ⟨oc, vs, t, hoc, hd, hv⟩
    generalize hH1 : upd (upd H P (.tbl (tb ++ #[rawInt pos.line, rawInt pos.col, .ref c']))) c' (CodeO c' (X.env.qual ++ "<lambda>")) = H1 at J
    have kb : But P H H1 := fun d o n e => by
      rw [← hH1, upd_ne (ne_of_none e nC), upd_ne n]
      exact e
    have hsz : s.heap.objs.size ≤ h'.objs.size := Nat.le_trans hge (Nat.le_of_lt hlt)
    have K := Inv.laid (o := LamO (lamObj X ps b sc dV doc ((X.mg "__name__").getD .none) ct c') h'.objs.size) (t' := tk) J (h' := h'.push (lamObj X ps b sc dV doc ((X.mg "__name__").getD .none) ct c')) (fun d u e => Heap.get?_push_of_some _ e) (Nat.le_refl _)
      ⟨Heap.get?_push_size _ rfl, ⟨_, Heap.get?_push_size _ rfl⟩, fun h1 h2 e st => st _ e⟩
    have hfn : H1 h'.objs.size = none := J.hok.fresh (Nat.le_refl _)
    have ec' : H1 c' = some (CodeO c' (X.env.qual ++ "<lambda>")) := by rw [← hH1, upd_same]
    have eP : H1 P = some (.tbl (tb ++ #[rawInt pos.line, rawInt pos.col, .ref c'])) := by rw [← hH1, upd_ne nPc, upd_same]
    have up : ∀ d o, H1 d = some o → upd H1 h'.objs.size (LamO (lamObj X ps b sc dV doc ((X.mg "__name__").getD .none) ct c') h'.objs.size) d = some o := fun d o e => by
      rw [upd_ne (ne_of_none e hfn)]
      exact e
    have eL : (tb ++ #[rawInt pos.line, rawInt pos.col, .ref c']).toList = tb.toList ++ [rawInt pos.line, rawInt pos.col, .ref c'] := by simp
    refine h h'.objs.size c' doc _ ct _ _ K (fun d o n e => up d o (kb d o n e)) ⟨_, up _ _ eP, ?_, fun p' cv z => ?_⟩ (up _ _ ec') upd_same (I.hok.fresh hsz)
    · rw [eL]
      exact PySem.TriplesOk_snoc _ _ _ _ ht
    · rw [eL] at z
      rcases among_app _ ht z with z | z
      · obtain ⟨d, e1, e2⟩ := ha p' cv z
        refine ⟨d, e1, up _ _ (kb _ _ (fun q => ?_) e2)⟩
        rw [q, hP] at e2
        exact codeO_ne _ (Option.some.inj e2).symm
      · exact ⟨c', z, up _ _ ec'⟩
  | some cv =>
    obtain ⟨c', e, hco⟩ := ha pos cv hc
    subst e
    refine PySem.W.kdv_makeTailHit (mg := X.mg) (ps := tb) (closure_ok hfree) I.ok.glob (I.mod.glob.keeps I.bk) hcode (TB.code.keeps I.bk) hPs ht hc bP fun ct doc h' tk hx hsz => ?_
    have K := Inv.laid (a := h'.objs.size) (o := LamO (lamObj X ps b sc dV doc ((X.mg "__name__").getD .none) ct c') h'.objs.size) (t' := tk) I (h' := h'.push (lamObj X ps b sc dV doc ((X.mg "__name__").getD .none) ct c')) (fun d u e => Heap.get?_push_of_some _ (hx d u e)) hsz
      ⟨Heap.get?_push_size _ rfl, ⟨_, Heap.get?_push_size _ rfl⟩, fun h1 h2 e st => st _ e⟩
    have hfn : H h'.objs.size = none := I.hok.fresh hsz
    have up : ∀ d o, H d = some o → upd H h'.objs.size (LamO (lamObj X ps b sc dV doc ((X.mg "__name__").getD .none) ct c') h'.objs.size) d = some o := fun d o e => by
      rw [upd_ne (ne_of_none e hfn)]
      exact e
    refine h h'.objs.size c' doc _ ct _ _ K (fun d o _ e => up d o e) ⟨tb, up _ _ hP, ht, fun p' cv z => ?_⟩ (up _ _ hco) upd_same hfn
    obtain ⟨d, e1, e2⟩ := ha p' cv z
    exact ⟨d, e1, up _ _ e2⟩
/-- the lambda's object stands at f: without parameters | with one that is the number i if nothing is given -/
def LamAt (X : Cx) (ps : Arguments) (b : Expr) (sc : Scope) (df : Option Int) (H : Hp) (f c' : Addr) : Prop := H c' = some (CodeO c' (X.env.qual ++ "<lambda>")) ∧ ∃ doc pm ct, match df with
  | none => H f = some (LamO (lamObj X ps b sc .none doc pm ct c') f)
  | some i => ∃ T, H T = some (.tup [.int i]) ∧ H f = some (LamO (lamObj X ps b sc (.ref T) doc pm ct c') f)
theorem LamAt.kept {ps : Arguments} {b : Expr} {sc : Scope} {df : Option Int} {H H' : Hp} {f c' : Addr} (h : LamAt X ps b sc df H f c') (k : ∀ d o, (∀ tb, o ≠ HO.tbl tb) → (∀ xs, o ≠ HO.lst xs) → H d = some o → H' d = some o) : LamAt X ps b sc df H' f c' := by
  obtain ⟨h1, doc, pm, ct, h2⟩ := h
  refine ⟨k _ _ (fun tb z => by cases z) (fun xs z => by cases z) h1, doc, pm, ct, ?_⟩
  cases df with
  | none => exact k _ _ (fun tb z => by cases z) (fun xs z => by cases z) h2
  | some i =>
    obtain ⟨T, h3, h4⟩ := h2
    exact ⟨T, k _ _ (fun tb z => by cases z) (fun xs z => by cases z) h3, k _ _ (fun tb z => by cases z) (fun xs z => by cases z) h4⟩
def tLamV (X : Cx) (ps : Arguments) (b : Expr) (sc : Scope) (df : Option Int) (P : Addr) : TE := fun σ H Q => TabS H P (X.env.qual ++ "<lambda>") ∧
  ∀ f c' H1, But P H H1 → TabS H1 P (X.env.qual ++ "<lambda>") → LamAt X ps b sc df H1 f c' → H f = none → Q (.ref f) H1
theorem pe_lamV1 {c P : Addr} {ps : Arguments} {b e : Expr} {sc : Scope} {pos : Pos} {i : Int} (TB : TabB X.base X.mg c P) (hcode : X.env.code = .ref c) (hfree : ∀ y ∈ sc.names, y.2 = .free → ∃ c, X.env.cells.lookup y.1 = some c)
    (hd : ps.defaults = [e]) (hk : ps.kw_defaults = []) (he : PE X e (tC (.int i))) : PE X (.Lambda ps b sc pos) (tLamV X ps b sc (some i) P) := by
  refine ⟨fun pins s σ H Q I ⟨hT, h⟩ => PySem.W.kdv_lam (by rw [hd]; rfl) hk ?_⟩
  rw [hd]
  refine PySem.W.kdv_all1 (thn (he.run pins s σ H (fun v H1 => v = .int i ∧ H1 = H) I ⟨rfl, rfl⟩) fun u s1 ⟨v, H1, I1, r1, ev, eH⟩ => PySem.W.kdv_all0 ?_)
  subst ev eH
  rw [makeFunction_eq]
  simp only [List.zip_nil_right, List.filterMap_nil, List.isEmpty_nil, if_true, pure_bind, List.isEmpty_cons, Bool.false_eq_true, if_false]
  refine wpAny_bind (wpAny_newTextTuple ?_)
  have J := Inv.laid (a := s1.heap.objs.size) (o := .tup [.int i]) (t' := s1.toks) I1 (h' := s1.heap.push { cls := .type "tuple", data := .seq [u].toArray }) (fun d w e => Heap.get?_push_of_some _ e) (Nat.le_refl _) ⟨by show 1 ≤ sizeLine; decide, [u], .cons r1 .nil, IsTup.new s1.heap _⟩
  have hn := I1.hok.fresh (Nat.le_refl _)
  have kT : ∀ d o, H1 d = some o → upd H1 s1.heap.objs.size (.tup [.int i]) d = some o := fun d o e => by
    rw [upd_ne (ne_of_none e hn)]
    exact e
  refine lam_tail J TB hcode (hT.ext kT) hfree fun f c' doc pm ct H2 s2 I2 kb T2 hc hf hn2 => ⟨.ref f, H2, I2, rfl, h f c' H2 (fun d o n e => kb d o n (kT d o e)) T2 ⟨hc, doc, pm, ct, s1.heap.objs.size, kb _ _ (fun z => ?_) upd_same, hf⟩ ?_⟩
  · obtain ⟨tb, hP, _⟩ := hT
    rw [← z, hn] at hP
    cases hP
  · cases hz : H1 f with
    | none => rfl
    | some o =>
      rw [kT _ _ hz] at hn2
      cases hn2
def lamS1B (N : List Str) (sc0 sc : Scope) : Bool :=
  decide (sc.kind = .function) && (!sc.isCoroutine && (!sc.isGenerator && sc.names.all fun y => !decide (y.2 = .cell) && ((!decide (y.2 = .local) || !decide (y.1 ∈ N)) && (!decide (y.2 = .free) || (decide (sc0.names.lookup y.1 = some .cell) || decide (sc0.names.lookup y.1 = some .free))))))
theorem lamS1_by {N : List Str} {sc0 sc : Scope} (h : lamS1B N sc0 sc = true) : LamS1 N sc0 sc := by
  unfold lamS1B at h
  simp only [Bool.and_eq_true, Bool.or_eq_true, Bool.not_eq_true', decide_eq_true_eq, decide_eq_false_iff_not, List.all_eq_true] at h
  obtain ⟨a1, a2, a3, a4⟩ := h
  refine ⟨a1, a2, a3, fun y hy => ⟨(a4 y hy).1, fun e => ?_⟩, fun y hy e => ?_⟩
  · rcases (a4 y hy).2.1 with z | z
    · exact absurd e z
    · exact z
  · rcases (a4 y hy).2.2 with z | z
    · exact absurd e z
    · exact z
variable {HZ : Hp} {s1 : Shared}
theorem lam_startD {A : Around} {outer : List Env} {E : XK} {sc : Scope} {f c' : Addr} {h1 : Heap} {tk : Nat} {mm : Str → Option Value} (I : Inv X pins σ H s) (L : LamS1 X.N X.env.scope sc) (e0 : Env0 X.prog X.w X.K X.mg X.base A outer s1 HZ) (hd : A.handled = none)
    (un : Un (frs X.stack) [] H HZ s.heap s1.heap) (hns : h1.Ns s1.heap.objs.size mm) (kp : ∀ d o, s1.heap.get? d = some o → h1.get? d = some o) : Inv (lamCx X A outer s1 HZ E sc f c') [] σ HZ { s1 with heap := h1, toks := tk } := by
  have hfree := L.has I.ok
  have cm : ∀ {y d}, (cloFrom X.env.cells sc.names []).lookup y = some d → X.env.cells.lookup y = some d := fun {y d} e => by
    rcases cloFrom_mem (PySem.mem_of_lookup e) with hm | ⟨g1, g2⟩
    · cases hm
    · obtain ⟨d1, hd1⟩ := hfree _ g1 rfl
      have hd2 : X.env.cells.lookup y = some d1 := hd1
      rw [show d = d1 by rw [g2, hd2] <;> rfl]
      exact hd2
  have look : ∀ {y}, sc.names.lookup y = some .free → ∃ d, (cloFrom X.env.cells sc.names []).lookup y = some d := fun {y} hl => mem_lookup (cloFrom_has (cells := X.env.cells) (acc := []) (show (y, NameKind.free) ∈ sc.names from PySem.mem_of_lookup hl))
  have cellK : ∀ {d : Addr} {v : Option Value}, H d = none → s.heap.IsCell d v → h1.IsCell d v := fun {d v} n z => by
    obtain ⟨o, ho, hv⟩ := z
    obtain ⟨sl, q⟩ := un.any ho n (by simp)
    exact ⟨_, kp _ _ q, hv⟩
  have noA : ∀ d : Addr, d ∉ (lamCx X A outer s1 HZ E sc f c').ex := fun d z => by cases (show d ∈ ([] : List Addr) from z)
  have ok : (lamCx X A outer s1 HZ E sc f c').Ok := {
    mod := e0.mod, kind := L.kind, glob := rfl, blt := rfl, above := Nat.le_refl _
    inj := fun y z d e1 e2 => I.ok.inj y z d (cm e1) (cm e2)
    has := fun y hy => by
      rcases (show sc.names.lookup y = some .cell ∨ sc.names.lookup y = some .free from hy) with hy | hy
      · exact absurd rfl (L.own _ (PySem.mem_of_lookup hy)).1
      · exact look hy
    cab := fun y d z _ => by cases (show false = true from z)
    hd := fun _ => hd, frames := Around.frames_deeper e0.frames, stk := .inr ⟨rfl, rfl⟩
    exf := fun d z => absurd z (noA d), bs := e0.bs, bsz := e0.bsz, noex := fun d _ _ => noA d, exfs := fun d z => absurd z (noA d), funs := e0.funs, frf := e0.frf }
  refine { ok := ok, os := rfl, bare := e0.bare, base := Un.kept kp, loc := ⟨_, hns, fun i y v e1 e2 e3 => ?_⟩, cell := fun y d e => ?_, free := e0.hok.fresh (Nat.le_refl _), freeC := fun y d e => ?_, pin := fun q hq => absurd (show q ∈ ([] : List (Addr × Obj)) ++ [] from hq) (by simp), hok := e0.hok.kept kp, len := I.len }
  · rcases (show Vis sc y from e3) with k | k | k
    · exact absurd (List.mem_of_getElem? (show X.N[i]? = some y from e1)) ((L.own _ (PySem.mem_of_lookup k)).2 rfl)
    · exact absurd rfl (L.own _ (PySem.mem_of_lookup k)).1
    · obtain ⟨m0, hn0, hl0⟩ := I.loc
      have fr := L.free _ (PySem.mem_of_lookup k) rfl
      have hvis : Vis X.env.scope y := fr.elim (fun z => .inr (.inl z)) fun z => .inr (.inr z)
      obtain ⟨u, r, q⟩ := hl0 i y v e1 e2 hvis
      obtain ⟨d2, g2⟩ := look k
      refine ⟨u, r, .inr ⟨.inr k, d2, g2, ?_⟩⟩
      have d1 := cm g2
      rcases q with ⟨k', _⟩ | ⟨_, d3, e', z⟩
      · have k2 : X.env.scope.names.lookup y = some .local := k'
        rcases fr with z | z
        · cases (show some NameKind.local = some .cell from k2.symm.trans z)
        · cases (show some NameKind.local = some .free from k2.symm.trans z)
      · rw [d1] at e'
        cases e'
        exact cellK (I.freeC y _ d1) z
  · obtain ⟨u, z⟩ := I.cell y d (cm e)
    exact ⟨u, cellK (I.freeC y d (cm e)) z⟩
  · obtain ⟨v, o, ho, hv⟩ := I.cell y d (cm e)
    exact un.free d o ho (I.freeC y d (cm e)) (by simp)
/-- what the lambda's parameters become when nothing is given -/
def LamBind (ps : Arguments) (b : Expr) (sc : Scope) : Option Int → Prop
  | none => ∀ (q : Str) (cl : List (Str × Addr)) (doc pm cv ct : Value), bindArgs (PySem.W.kdv_fn "<lambda>" q ps (.expr b) sc cl .none doc pm cv ct) ⟨[], []⟩ = pure []
  | some _ => ∃ x0, sc.names.lookup x0 = some .local ∧ ∀ (q : Str) (cl : List (Str × Addr)) (T : Addr) (doc pm cv ct u : Value), ∃ r, bindArgs (PySem.W.kdv_fn "<lambda>" q ps (.expr b) sc cl (.ref T) doc pm cv ct) ⟨[], []⟩ = (seqItems? (.ref T) >>= r) ∧ r (some #[u]) = pure [(x0, u)]
theorem pe_actV {CXg : CXT} {Eg : XK} {Ng : List Str} {qg : Str} {sg : Scope} {g f c' : Addr} {cdg : Value} {ps : Arguments} {b : Expr} {sc : Scope} {df : Option Int} {k i : Nat} {a : Str} {pn : List (Addr × Obj)} {xe : Value → Shared → Prop} {W : WX} {E : XK} {tb : TE} {p1 p2 : Pos}
    (I : Inv X pins σ H s) (L : LamS1 X.N X.env.scope sc) (hbind : LamBind ps b sc df) (tk : Takes ((cxOf CXg X.prog X.w X.K X.mg X.base Ng qg sg g cdg X.A X.stack s H Eg).tr pn xe) W) (hW : ∀ cls d σ' H', E cls d H' → W cls d σ' H') (hr : Room (k + 1) (X.A.deeper (envOfC qg sg s.heap.objs.size g cdg)))
    (hbody : ∀ (A : Around) (outer : List Env) (s : Shared) (H : Hp), Room k (A.deeper (lamEnv X sc s.heap.objs.size f c')) → PE (lamCx X A outer s H E sc f c') b tb) (hN : Ng[i]? = some a) (hv : Vis sg a) (hd : (a == ("__debug__" : Str)) = false := by decide) (hcd : (a == ("__classdict__" : Str)) = false := by decide) :
    PE ((cxOf CXg X.prog X.w X.K X.mg X.base Ng qg sg g cdg X.A X.stack s H Eg).tr pn xe) (.Call (.Name a p1) [] [] p2) (fun σ0 H0 R => σ0[i]? = some (some (.ref f)) ∧ LamAt X ps b sc df H0 f c' ∧ tb σ H0 R) := by
  refine ⟨fun pz sZ σ0 H0 R IZ ⟨hs, hat, ht⟩ => ?_⟩
  refine wpAny_Call_Name_kw (thn ((pe_var (pos := p1) (i := i) hN hv hd hcd).run pz sZ σ0 H0 (fun v H1 => v = .ref f ∧ H1 = H0) IZ ⟨.ref f, hs, rfl, rfl⟩) fun u s1 ⟨v, H1, I1, r1, ev, eH⟩ => ?_)
  subst ev
  subst eH
  obtain rfl : u = Value.ref f := r1
  obtain ⟨hc, doc, pm, ct, hdf⟩ := hat
  obtain ⟨⟨oc, vs, t, hoc, hdc, hvc⟩, _, _⟩ := I1.hok c' _ hc
  have un : Un (frs X.stack) [] H H1 s.heap s1.heap := I1.base
  have go : ∀ (dV : Value), s1.heap.get? f = some (lamObj X ps b sc dV doc pm ct c') → (∀ (M : Model) (A : Around) (E' : Value → Shared → Prop) (Q' : List (Str × Value) → Shared → Prop), (∀ bs, (∀ y ∈ bs, sc.names.lookup y.1 = some .local) → Q' bs s1) → wpAny M A (bindArgs (PySem.W.kdv_fn "<lambda>" (X.env.qual ++ "<lambda>") ps (.expr b) sc (cloFrom X.env.cells sc.names []) dV doc pm (.ref c') ct) ⟨[], []⟩) Q' E' s1) →
      codeAny (model X.prog X.w) (X.A.deeper (envOfC qg sg s.heap.objs.size g cdg)) (.call (.ref f) ⟨[], []⟩) (CR (L2.CX X.prog X.w) (envOfC qg sg s.heap.objs.size g cdg :: X.stack) X.prog X.w H1 s1 R E) s1 := fun dV hf hb => by
    refine PySem.W.kla_callFunE hr.depth hf rfl L.co L.gen rfl ⟨c', oc, vs, t, rfl, hoc, hdc, hvc⟩ (hb _ _ _ _ fun bs hbs => ?_)
    refine wpAny_newFunctionEnv (fun y hy => (L.own y hy).1) hbs (fun h1 hns hsb => ⟨I1.nolimit.fresh _ hsb, ?_⟩) L.kind
    have kp : ∀ d o, s1.heap.get? d = some o → h1.get? d = some o := fun d o e => hsb.extBut d o (Nat.ne_of_lt (Heap.lt_size e)) (Heap.get?_push_of_some _ e)
    have J := lam_startD (tk := s1.toks + bs.length) (E := E) (f := f) (c' := c') I L I1.env0 hr.hd un hns kp
    refine PySem.W.kla_codeExpr (wpAny_mono ((hbody _ _ s1 H1 (hr.deeper _)).run [] _ _ H1 R J ht) (fun v s' ⟨v', H', J', rv, q⟩ => ?_) fun e s' hq => hq)
    exact ⟨v', H', J'.os, J'.bare, J'.base, J'.hok, rv, q⟩
  have rc : PySem.W.FnAt f s1.heap ∧ codeAny (model X.prog X.w) (X.A.deeper (envOfC qg sg s.heap.objs.size g cdg)) (.call (.ref f) ⟨[], []⟩) (CR (L2.CX X.prog X.w) (envOfC qg sg s.heap.objs.size g cdg :: X.stack) X.prog X.w H1 s1 R E) s1 := by
    cases df with
    | none =>
      obtain ⟨hf, _, _⟩ := I1.hok f _ hdf
      refine ⟨⟨_, _, _, _, hf⟩, go _ hf fun M A E' Q' q => ?_⟩
      rw [hbind]
      exact wpAny_pure (q [] fun y hy => by cases hy)
    | some n =>
      obtain ⟨T, hT, hdf⟩ := hdf
      obtain ⟨hf, _, _⟩ := I1.hok f _ hdf
      obtain ⟨_, its, hv', hIT⟩ := I1.hok T _ hT
      refine ⟨⟨_, _, _, _, hf⟩, go _ hf fun M A E' Q' q => ?_⟩
      obtain ⟨x0, hx0, hb⟩ := hbind
      cases hv' with
      | @cons _ w0 _ _ r0 rs =>
      cases rs
      obtain ⟨r, b1, b2⟩ := hb (X.env.qual ++ "<lambda>") (cloFrom X.env.cells sc.names []) T doc pm (.ref c') ct w0
      obtain ⟨o, ho, _, nn, hdat⟩ := hIT
      refine (BindsTo.of_defaults (T := T) (items := #[w0]) (n := nn) rfl ho hdat b1 b2) M A E' Q' (q _ fun y hy => ?_)
      rw [List.mem_singleton.mp hy]
      exact hx0
  refine PySem.W.callWith_F0 rc.1 (wpAny_call (codeAny_mono rc.2 fun r s' hq => ?_))
  have hx : Passes (L2.CX X.prog X.w) ((cxOf CXg X.prog X.w X.K X.mg X.base Ng qg sg g cdg X.A X.stack s H Eg).tr pn xe) E := passes_call tk hW
  cases r with
  | error e => exact hx pz σ0 H1 s1 e s' I1 hq
  | ok fl => cases fl with
    | ret u => exact I1.after hq
    | next => exact False.elim hq
    | brk => exact False.elim hq
    | cont => exact False.elim hq
end
/-- one lambda of X, read -/
structure LamK (X : Cx) (k : Nat) where
  ps : Arguments
  b : Expr
  sc : Scope
  df : Option Int
  t : XK → TE
  L : LamS1 X.N X.env.scope sc
  bind : LamBind ps b sc df
  body : ∀ (A : Around) (outer : List Env) (s : Shared) (H : Hp) (E : XK) (f c' : Addr), Room k (A.deeper (lamEnv X sc s.heap.objs.size f c')) → PE (lamCx X A outer s H E sc f c') b (t E)
def tGive (X : Cx) (k : Nat) (te : TE) (TT : (XK → Hp → VK → Prop) → Hp → VK → Prop) : TE := fun σ H Q => te σ H fun v H1 => ∃ (l : LamK X k) (f c' : Addr), v = .ref f ∧ LamAt X l.ps l.b l.sc l.df H1 f c' ∧ TT (fun E H' Q' => l.t E σ H' Q') H1 Q
/-- a def that calls what it gets: the context's parts that GivesP speaks of -/
def GivesQ (X : Cx) (Ng : List Str) (x : Str) (sg : Scope) (g : Addr) (cdg : Value) (bg : List Stmt) (a : Str) (TT : (XK → Hp → VK → Prop) → Hp → VK → Prop) : Prop :=
  ∀ (f : Addr) (pre : Hp → Prop) (s : Shared) (H : Hp) (Q : VK) (tl : XK → Hp → VK → Prop),
    (∀ (W : WX) (pn : List (Addr × Obj)) (xe : Value → Shared → Prop) (E : XK) (p1 p2 : Pos), Takes ((cxOf C8.CX0 X.prog X.w X.K X.mg X.base Ng x sg g cdg X.A X.stack s H C8.E0).tr pn xe) W → (∀ cls d σ' H', E cls d H' → W cls d σ' H') →
      PE ((cxOf C8.CX0 X.prog X.w X.K X.mg X.base Ng x sg g cdg X.A X.stack s H C8.E0).tr pn xe) (.Call (.Name a p1) [] [] p2) (fun σ0 H0 R => σ0[0]? = some (some (.ref f)) ∧ pre H0 ∧ tl E H0 R)) →
    pre H → TT tl H Q → ∃ t, PSs (cxOf C8.CX0 X.prog X.w X.K X.mg X.base Ng x sg g cdg X.A X.stack s H C8.E0).nox bg t ∧ t { nx := fun _ H' => Q .non H', rt := Q } (L2.start Ng [.ref f]) H
theorem pe_give {X : Cx} {TT : (XK → Hp → VK → Prop) → Hp → VK → Prop} {x a : Str} {g : Addr} {k : Nat} {pg : Arguments} {bg : List Stmt} {sg : Scope} {dV kV doc pm cdv ct oc : Value} {an od : Option Addr} {osl : Array (Option Value)} {Ng : List Str} {e : Expr} {te : TE} {p pos : Pos}
    (hg : Gl X x) (hm : X.mg x = some (.ref g)) (hk : PySem.W.keepIn X.K (.ref g) = true) (lk : X.K.lookup g = some ⟨oc, od, .func (PySem.W.fnOf x x pg bg sg dV kV doc pm an cdv ct), osl⟩) (hcg : PySem.W.codeIn X.K cdv x = true) (hb : L2.Binds X.K (PySem.W.fnOf x x pg bg sg dV kV doc pm an cdv ct) [a] []) (Sg : FnScope Ng [a] sg) (hNg : Ng[0]? = some a) (hva : Vis sg a)
    (hG : GivesQ X Ng x sg g cdv bg a TT) (hr : Room (k + 2) X.A) (he : PE X e te) (hst : starEach [e] X.env = (false, eval e X.env) :: starEach [] X.env := by rfl) (hpl : (backTo pos (starEach [] X.env)).any (·.1) = false := by rfl)
    (hdb : (x == ("__debug__" : Str)) = false := by decide) (hd : (a == ("__debug__" : Str)) = false := by decide) (hcd : (a == ("__classdict__" : Str)) = false := by decide) : PE X (.Call (.Name x p) [e] [] pos) (tGive X k te TT) := by
  refine ⟨fun pins s σ H Q I h => ?_⟩
  refine wpAny_Call_Name_kw (ld_glob I hg hm (PySem.W.callWith_K (h₀ := X.base) I.ok.mod.kin hk ?_ hst hpl) hdb)
  rw [hst]
  show wpAny _ _ (spliced ((false, eval e X.env) :: backTo pos (starEach [] X.env))) _ _ s
  refine Calls.spliced_cons (thn (he.run pins s σ H _ I h) fun u s1 ⟨v, H1, I1, r1, l, f, c', ev, hat, hq⟩ => Calls.spliced_nil ⟨I1.kIn, ?_⟩)
  subst ev
  obtain rfl : u = Value.ref f := r1
  have rc : codeAny (model X.prog X.w) X.A (.call (.ref g) ⟨[.ref f], []⟩) (CR C8.CX0 X.stack X.prog X.w H1 s1 Q C8.E0) s1 := by
    refine run_ofS (N := Ng) (ps := [a]) (us := [.ref f]) (vs := [.ref f]) lk hcg Sg hr I1.env0 (hb s1 [.ref f] I1.kIn rfl) (.cons rfl .nil) rfl fun hr' => ?_
    obtain ⟨t', ht', hq'⟩ := hG f (fun H0 => LamAt X l.ps l.b l.sc l.df H0 f c') s1 H1 Q (fun E H' Q' => l.t E σ H' Q') (fun W pn xe E p1 p2 tk hW => pe_actV (i := 0) I1 l.L l.bind tk hW hr' (fun A outer s H hr2 => l.body A outer s H E f c' hr2) hNg hva hd hcd) hat hq
    exact ⟨t', ht'.nox, hq'⟩
  refine wpAny_call (codeAny_mono rc fun r s2 hq => ?_)
  cases r with
  | error e => exact (show False from hq).elim
  | ok fl => cases fl with
    | ret u => exact I1.after hq
    | next => exact False.elim hq
    | brk => exact False.elim hq
    | cont => exact False.elim hq
end FS
set_option maxHeartbeats 2000000
namespace FS
open PySem PySem.Spec PyProof.Rows L2
section
variable {X : Cx} {e : Expr} {es : List Expr} {ta : TA} {p1 p2 pos : Pos} {S : Addr} {x : Str}
theorem pe_baseinit {pl : Sem Bool} (hg : Gl X x) (hm : X.mg x = some (.ref S)) (rd : ClX.CRead X.K S (.type "type")) (fv : PySem.W.findCls X.K (.ref S) (.type "type") "__init__" = some (.val (.builtin "ValueError.__init__"))) (ha : PA X (e :: es) ta)
    (hc : eval (.Call (.Attribute (.Name x p1) "__init__" p2) (e :: es) [] pos) X.env = (do
      let ov ← eval (.Name x p1) X.env
      standAt p2.atName
      let (f, first) ← holding [ov] (getMethod ov "__init__" pl)
      callWith pos f first (backTo pos (starEach (e :: es) X.env)) (backToKw pos (keywordEach [] X.env))) := by rfl)
    (hdb : (x == ("__debug__" : Str)) = false := by decide)
    (he : starEach (e :: es) X.env = (false, eval e X.env) :: starEach es X.env := by rfl) (hpl : (backTo pos (starEach es X.env)).any (·.1) = false := by rfl) :
    PE X (.Call (.Attribute (.Name x p1) "__init__" p2) (e :: es) [] pos) (tVeI X.K ta) := by
  refine ⟨fun pins s σ H Q I h => PySem.W.methodCall_KW (ld_glob I hg hm ?_ hdb) hc⟩
  refine PySem.W.method_cls I.kIn rd.ga (PySem.W.cls_value I.kIn rd.rd fv (by decide +kernel) ?_)
  show wpAny _ _ (callWith pos (Value.builtin "ValueError.__init__") [] (backTo pos (starEach (e :: es) X.env)) []) _ _ _
  refine PyProof.Rows.callWith_method1 (thn (ha.run pos pins _ σ H _ (I.tok _) h) fun us s1 ⟨vs, H1, I1, r1, a, C, ws, ev, hl, T, ea, q⟩ => ?_) he hpl
  subst ev
  cases r1 with
  | @cons _ u0 _ ur ra rw' =>
    obtain rfl : u0 = Value.ref a := ra
    have hlen : ur.length ≤ sizeLine := by
      have z := Paired.length rw'
      rw [sizeLine_eq]
      omega
    exact oinit_ok T I1 ea hlen fun s' J => ⟨.non, H1, J, rfl, q⟩
end
end FS
namespace PySem.W
open PySem PySem.Spec PySem.Calls PyProof.Rows
section
variable {prog : Program} {w : World} {A : Around} {E : Value → Shared → Prop} {s : Shared} {K : Frag} {x D : Addr} {ox od : Obj}
/-- x.__class__, x an error with a dict of its own -/
theorem fs_classD {Q : Option Value → Shared → Prop} (hga : findIn K (.ref D) "__getattribute__" = some (some (.builtin "BaseException.__getattribute__"))) (hgt : findIn K (.ref D) "__getattr__" = some none) (hsub : subIn K (.ref D) (.type "BaseException") = some true)
    (hdct : hasDictIn K D = true) (ha : findIn K (.ref D) "__class__" = some (some (.builtin "object.__class__")))
    (hn : specialIn K (.builtin "object.__class__") "__get__" = some (some (.builtin "getset_descriptor.__get__"))) (htk : takesIn K (.builtin "object.__class__") = some true) (hm : mroIn K D (.type "object") = some true)
    (X : K.In s.heap) (I : InstAt s.heap x ox D (some od)) (h : Q (some (.ref D)) { s with toks := s.toks + 1 }) : wpAny (model prog w) A (getAttr? (.ref x) "__class__") Q E s := by
  have hcl : (clsIn K D).isSome = true := by
    obtain ⟨cd, hcd, _⟩ := any_some hdct
    rw [hcd]
    rfl
  have hf := findObj_data (od := od) hcl ha hn htk
  obtain ⟨hp, gs, dr, tk, os⟩ := s
  have T0 := I.type (M := model prog w)
  have T1 := looks_findIn (M := model prog w) X hga
  have T2 := looks_findIn (M := model prog w) X hgt
  have T3 := looks_find (M := model prog w) X I hf
  have sub : Looks (model prog w) hp (isInstance (.ref x) (.type "BaseException")) true := T0.andThen (looks_subIn X hsub)
  have n2 : (Value.builtin "BaseException.__getattribute__" == Value.builtin "object.__getattribute__") = false := by decide +kernel
  have n1 : (onTheHeap (Value.ref D) && Value.builtin "BaseException.__getattribute__" == Value.builtin "object.__getattribute__") = false := by rw [n2]; rfl
  have n0 : (false && onTheHeap (Value.builtin "BaseException.__getattribute__")) = false := rfl
  unfold getAttr? getAttrBy? getAttrBy
  refine wpAny_bind (wpAny_mkText (wpAny_bind (wpAny_attempt (wpAny_holding (wpAny_bind (T0.at (wpAny_bind (T1.at ?_))))))))
  show wpAny _ _ (if (onTheHeap (Value.ref D) && Value.builtin "BaseException.__getattribute__" == Value.builtin "object.__getattribute__") = true then _ else _) _ _ _
  rw [n1, if_neg Bool.false_ne_true]
  unfold getAttrByItsOwn hookBefore
  refine wpAny_bind ?_
  rw [if_pos (show onTheHeap (Value.ref D) = true from rfl)]
  refine T2.at (wpAny_bind (wpAny_attempt (wpAny_holding ?_)))
  unfold callGetattribute
  rw [n0, if_neg Bool.false_ne_true]
  unfold boundAndCalled
  rw [PySem.F.excAttr_ValueError.ga.bind (.ref x)]
  refine wpAny_bind (wpAny_pure ?_)
  show wpAny _ _ (call (.builtin "BaseException.__getattribute__") [.ref x, .str "__class__" tk]) _ _ _
  refine wpAny_call (codeAny_call_builtin PySem.F.excAttr_ValueError.ga.plain PySem.F.entry_bexc_ga ?_)
  refine @check_slot (model prog w) _ _ ⟨hp, gs, dr, tk + 1, os⟩ "BaseException.__getattribute__" "BaseException" "__getattribute__" (.ref x) [.str "__class__" tk] [] _ (by decide +kernel) (by decide +kernel) sub (PySem.F.args_bexc_ga (.ref x) (.str "__class__" tk)) ?_
  unfold Builtin.«object.__getattribute__»
  refine wpAny_bind (wpAny_of_eq (a := ((Value.ref x : Value), [Value.str "__class__" tk])) (by first | rfl | (simp only [slotArgs]; rfl)) ?_)
  refine wpAny_bind (wpAny_pure (wpAny_bind (T0.at (wpAny_bind (T3.at ?_)))))
  show wpAny _ _ (holding [Value.builtin "object.__class__"] (call (.builtin "getset_descriptor.__get__") [.builtin "object.__class__", .ref x, .ref D]) >>= ret) _ _ _
  refine wpAny_bind (wpAny_holding (wpAny_call (class_get (s := ⟨hp, gs, dr, tk + 1, os⟩) (ox := ox) (od := some od) X I hm ?_)))
  refine wpAny_pure ?_
  show wpAny _ _ (handedOut (.ref D)) _ _ _
  rw [handedOut_of (v := .ref D) rfl]
  first
    | exact wpAny_pure (wpAny_pure h)
    | exact wpAny_pure h
    | exact wpAny_pure (wpAny_bind (wpAny_pure (wpAny_pure h)))
theorem fs_kitD (hga : findIn K (.ref D) "__getattribute__" = some (some (.builtin "BaseException.__getattribute__"))) (hgt : findIn K (.ref D) "__getattr__" = some none) (hsub : subIn K (.ref D) (.type "BaseException") = some true) (hdct : hasDictIn K D = true) (ha : findIn K (.ref D) "__class__" = some (some (.builtin "object.__class__")))
    (hn : specialIn K (.builtin "object.__class__") "__get__" = some (some (.builtin "getset_descriptor.__get__"))) (htk : takesIn K (.builtin "object.__class__") = some true) (hm : mroIn K D (.type "object") = some true) :
    KitX K (.ref x) (.ref D) (fun h => ∃ ox od, InstAt h x ox D (some od)) where
  ty := fun _ _ _ ⟨_, _, I⟩ => I.type
  it := fun _ _ X _ => by
    obtain ⟨cd, hcd, _⟩ := any_some hdct
    unfold clsIn at hcd
    split at hcd
    · rename_i _ _ _ _ hk
      intro A' Q' E' s' kp q
      unfold isType loadHead
      exact wpAny_bind (wpAny_loadPart (kp _ _ (X _ _ hk)) (wpAny_pure q))
    · cases hcd
  ne := (handS_kitx_exc (ox := default) (x := x) hga hgt hsub hdct ha hn htk hm).ne
  ca := fun X ⟨_, _, I⟩ k => fs_classD hga hgt hsub hdct ha hn htk hm X I k
end
end PySem.W
namespace FS
open PySem PySem.Spec PyProof.Rows L2
/-- isinstance(e, c), e the error that the suite holds, with a dict of its own -/
theorem call_isD {X : Cx} {a D d : Addr} {oe : Obj} {pn : List (Addr × Obj)} (C : ExcC X.K D) (hz : Zc (.ref D) (some d) oe) (hf : ∃ vs, oe.data = .fields vs) :
    CallR (X.suite a ((a, oe) :: pn)) (.builtin "isinstance") (fun xs H Q => rIsE X.K D a xs H Q ∧ ∃ fs, H d = some (.xd fs)) := by
  intro pins s σ H xs us Q I r h
  obtain ⟨⟨c, cv, b, ev, hcv, e, q⟩, fs, hd⟩ := h
  subst ev
  obtain ⟨u1, u2, eu, rx, rt⟩ := vals2 r
  subst eu
  cases rx
  have ec := hcv _ rt
  subst ec
  obtain ⟨hget, _⟩ := I.pin (a, oe) (List.mem_append.mpr (.inl List.mem_cons_self))
  obtain ⟨vs, hv⟩ := hf
  obtain ⟨mA, hns, _⟩ := (show ObjOk X.prog X.w H s.heap d (.xd fs) from I.hok d _ hd)
  obtain ⟨od, ho, _⟩ := lookIn_ns hns
  have J : PySem.W.InstAt s.heap a oe D (some od) := ⟨hget, hz.1, by unfold PySem.W.notCls; rw [hv] <;> rfl, by rw [hz.2]; exact ho⟩
  exact PySem.W.kia_one (PySem.W.fs_kitD C.hg C.hk C.hs C.hd C.ha C.hn C.ht C.hm) I.kIn ⟨oe, od, J⟩ e (fun z => nomatch z) fun tk => ⟨.bl b, H, I.kept (t' := tk) fun _ _ z => z, rfl, q⟩
end FS
set_option maxHeartbeats 2000000
namespace FS
open PySem PySem.Spec PyProof.Rows L2
abbrev top5 (i : Nat) : Stmt := top i
abbrev sIsNumber : Stmt := top 28
abbrev sIsName : Stmt := top 29
abbrev sIsClause : Stmt := top 30
abbrev sChkNames : Stmt := top 31
abbrev sChkClauses : Stmt := top 32
abbrev sChkState : Stmt := top 33
abbrev sFulfils : Stmt := top 36
abbrev sAmong : Stmt := top 37
abbrev sLaw : Stmt := top 77
abbrev sChkLegal : Stmt := top 40
abbrev iIR : Nat := 3
abbrev iIS : Nat := 7
abbrev iIlS : Nat := 8
abbrev sDice : Stmt := top 63
abbrev sNext : Stmt := top 64
abbrev sPick : Stmt := top 65
abbrev sTold : Stmt := top 66
abbrev sNames5 : Stmt := top 67
abbrev sClause5 : Stmt := top 68
abbrev sKeeps : Stmt := top 69
abbrev sAll5 : Stmt := top 70
abbrev sLegal5 : Stmt := top 71
abbrev sRules5 : Stmt := top 72
abbrev iUS : Nat := 6
abbrev sChkSwitch : Stmt := top 34
abbrev iDE : Nat := 21
abbrev sIsByte : Stmt := top 45
abbrev sPackBytes : Stmt := top 46
abbrev sUnpackBytes : Stmt := top 47
abbrev sChecksum : Stmt := top 48
abbrev sNumNames : Stmt := top 49
abbrev sNumClauses : Stmt := top 50
abbrev sNumState : Stmt := top 51
abbrev sEncode : Stmt := top 52
abbrev sReadName : Stmt := top 54
abbrev sReadNames : Stmt := top 55
abbrev sReadClause : Stmt := top 56
abbrev sReadClauses : Stmt := top 57
abbrev sReadState : Stmt := top 58
abbrev sReadChanges : Stmt := top 59
abbrev sReadEnd : Stmt := top 60
abbrev sDecode : Stmt := top 61
abbrev sValues : Stmt := top 73
abbrev sClosed : Stmt := top 74
abbrev sNamesRd : Stmt := top 75
abbrev sLawRd : Stmt := top 76
end FS
set_option maxHeartbeats 2000000
namespace FS
open PySem PySem.Spec PyProof.Rows L2
section
variable {prog : Program} {w : World} {A : Around} {E : Value → Shared → Prop} {s : Shared}
end
end FS
set_option maxHeartbeats 1000000
namespace FS
open PySem PySem.Spec PyProof.Rows L2
/-- the last place that can still go up -/
def lastLow (n : Nat) (l : List Nat) : Option Nat := (List.range l.length).reverse.find? (fun j => l.getD j 0 != j + n - l.length)
def nextC (n : Nat) (l : List Nat) : Option (List Nat) :=
  (lastLow n l).map fun j => l.take j ++ (List.range (l.length - j)).map (l.getD j 0 + 1 + ·)
section
variable {prog : Program} {w : World} {A : Around} {E : Value → Shared → Prop} {s : Shared}
end
end FS
set_option maxHeartbeats 1000000
namespace FS
open PySem PySem.Spec PyProof.Rows L2
end FS
set_option maxHeartbeats 2000000
namespace FS
open PySem PySem.Spec PyProof.Rows L2
open PySem.W (EachIs AllAlike Sortable dataLe)
def rSortedD (K : PySem.W.Frag) : List V → Hp → VK → Prop := fun vs H Q => ∃ (a : Addr) (ps : List (V × PyData)), vs = [V.ref a] ∧ SqL K H a (ps.map Prod.fst) ∧ (∀ p ∈ ps, Dp K H p.1 p.2) ∧ AllAlike (ps.map Prod.snd) ∧ Sortable (ps.map Prod.snd) ∧ (∀ p ∈ ps, p.2.depth ≤ 8) ∧
  ∀ l, H l = none → Q (.ref l) (upd H l (.lst ((ps.mergeSort (dataLe false Prod.snd)).map Prod.fst)))
section
variable {X : Cx}
theorem each_vals {ps : List (V × PyData)} : ∀ {us : List Value}, Vals (ps.map Prod.fst) us → EachIs (fun v (p : V × PyData) => RelV p.1 v) us ps := by
  induction ps with
  | nil => intro us r; cases r; exact .nil
  | cons p ps ih =>
    intro us r
    cases r with
    | cons r1 r2 => exact .cons r1 (ih r2)
theorem vals_each {ps : List (V × PyData)} : ∀ {us : List Value}, EachIs (fun v (p : V × PyData) => RelV p.1 v) us ps → Vals (ps.map Prod.fst) us := by
  induction ps with
  | nil => intro us r; cases r; exact .nil
  | cons p ps ih =>
    intro us r
    cases r with
    | cons r1 r2 => exact .cons r1 (ih r2)
theorem each_reads {pins : List (Addr × Obj)} {σ : L2.St} {H : Hp} {s : Shared} (I : Inv X pins σ H s) : ∀ {ps : List (V × PyData)} {us : List Value}, (∀ p ∈ ps, Dp X.K H p.1 p.2) → EachIs (fun v (p : V × PyData) => RelV p.1 v) us ps → EachIs (fun v (p : V × PyData) => ∃ as, Reads s.heap v p.2 as) us ps
  | [], _, _, .nil => .nil
  | p :: ps, _, h, .cons r1 r2 => .cons (Dp.reads I p.2 p.1 _ (h p List.mem_cons_self) r1) (each_reads I (fun q hq => h q (List.mem_cons_of_mem _ hq)) r2)
theorem cr_sortedD (hu : X.A.units + 12 < cLine) : CallR X (.builtin "sorted") (rSortedD X.K) := by
  intro pins s σ H vs us Q I r h
  obtain ⟨a, ps, rfl, hs, hd, hal, hk, hdp, q⟩ := h
  obtain ⟨its, rv, hl, hz⟩ := I.list hs
  obtain ⟨u, rfl, ru⟩ := vals1 r
  obtain rfl : u = Value.ref a := ru
  have e := each_vals rv
  have hlen : ps.length = its.length := by
    have z := rv.length
    rw [List.length_map] at z
    exact z
  refine PySem.W.sorted_data (enc := Prod.snd) (bs := ps) (R := fun v p => RelV p.1 v) hl.isList e (each_reads I hd e) hal hk (by rw [List.length_map] at hz; exact hz) (fun b hb => by have z := hdp b hb; omega) fun out h1 h2 => ?_
  obtain ⟨n, hn⟩ := sortedAll_at s.heap its (List.toArray out)
  have hfr : H (s.heap.objs.size + 1) = none := I.hok.fresh (Nat.le_succ _)
  refine ⟨.ref (s.heap.objs.size + 1), upd H (s.heap.objs.size + 1) (.lst ((ps.mergeSort (dataLe false Prod.snd)).map Prod.fst)), I.laid (t' := s.toks) (fun b o => sortedAll_old) (Nat.le_succ _) ⟨?_, out, n, vals_each h2, ?_⟩, rfl, q _ hfr⟩
  · rw [List.length_map, List.length_mergeSort]
    rw [List.length_map] at hz
    exact hz
  · exact hn
end
end FS
set_option maxHeartbeats 2000000
namespace FS
open PySem PySem.Spec PyProof.Rows L2
open PySem.W (EachIs AllAlike Sortable dataLe dataLt rowLt alike alikeAll)
/-- the rows as they are doubled -/
def genI : Nat → List (List Nat)
  | 0 => [[]]
  | k + 1 => genI k ++ (genI k).map (· ++ [k])
def itC : Nat → Nat → List Nat → List (List Nat)
  | 0, _, l => [l]
  | f + 1, n, l => l :: (match nextC n l with | some l' => itC f n l' | none => [])
def endsC : Nat → Nat → List Nat → Bool
  | 0, n, l => (nextC n l).isNone
  | f + 1, n, l => match nextC n l with | some l' => endsC f n l' | none => true
def seqC (n r : Nat) : List (List Nat) := itC 300 n (List.range r)
def okSeq (n r : Nat) : Bool := endsC 300 n (List.range r) && (seqC n r).all fun ix => decide (ix.length ≤ 1000) && (ix.all (decide <| · < n) && ix.isSublist (List.range n))
theorem okSeq_all : ∀ n < 11, ∀ r < 11, r ≤ n → okSeq n r = true := by decide +kernel
theorem seqC_sub {n r : Nat} (hn : n ≤ 10) (hr : r ≤ n) {ix : List Nat} (hx : ix ∈ seqC n r) : ix.Sublist (List.range n) := by
  have h := okSeq_all n (by omega) r (by omega) hr
  unfold okSeq at h
  rw [Bool.and_eq_true, List.all_eq_true] at h
  have z := h.2 ix hx
  rw [Bool.and_eq_true, Bool.and_eq_true] at z
  exact List.isSublist_iff_sublist.mp z.2.2
/-- all of them, fewer ones first -/
def ordI (n : Nat) : List (List Nat) := (List.range (n + 1)).flatMap (seqC n)
theorem ordI_sub {n : Nat} (hn : n ≤ 10) {ix : List Nat} (hx : ix ∈ ordI n) : ix.Sublist (List.range n) := by
  obtain ⟨r, hr, h⟩ := List.mem_flatMap.mp hx
  exact seqC_sub hn (by have z := List.mem_range.mp hr; omega) h
def keyI (l : List Nat) : List Int := (l.length : Int) :: l.map fun (i : Nat) => (i : Int)
def rowD (nm : Nat → Str) (l : List Nat) : PyData := .tuple [.int l.length, .tuple (l.map fun i => .int (i : Nat)), .tuple (l.map fun i => .str (nm i))]
theorem keyI_inj {l m : List Nat} (h : keyI l = keyI m) : l = m := by
  unfold keyI at h
  have h2 := (List.cons.inj h).2
  have h3 := congrArg (List.map Int.toNat) h2
  simpa [Function.comp_def] using h3
theorem alike_strs : ∀ xs ys : List Str, alikeAll (xs.map .str) (ys.map .str) = true
  | [], ys => by simp [alikeAll]
  | x :: xs, [] => by simp [alikeAll]
  | x :: xs, y :: ys => by simp [alikeAll, alike, alike_strs xs ys]
theorem ints_eq (l : List Nat) : (l.map fun i => PyData.int (i : Nat)) = (l.map fun (i : Nat) => (i : Int)).map .int := by rw [List.map_map]; rfl
theorem strs_eq (nm : Nat → Str) (l : List Nat) : (l.map fun i => PyData.str (nm i)) = (l.map nm).map .str := by rw [List.map_map]; rfl
theorem rowD_alike (nm : Nat → Str) (l m : List Nat) : alike (rowD nm l) (rowD nm m) = true := by
  unfold rowD
  rw [ints_eq, ints_eq, strs_eq, strs_eq]
  simp only [alike, alikeAll, PySem.W.alike_ints, alike_strs, Bool.and_self, Bool.and_true]
theorem eqv_ints (xs ys : List Int) : PyData.eqv (.tuple (xs.map .int)) (.tuple (ys.map .int)) = decide (xs = ys) := by
  have key : ∀ xs ys : List Int, PyData.eqvAll (xs.map .int) (ys.map .int) = decide (xs = ys) := by
    intro xs
    induction xs with
    | nil => intro ys; cases ys <;> simp [PyData.eqvAll]
    | cons x xs ih =>
      intro ys
      cases ys with
      | nil => simp [PyData.eqvAll]
      | cons y ys =>
        simp only [List.map_cons, PyData.eqvAll, ih]
        by_cases h : x = y <;> by_cases h2 : xs = ys <;> simp [PyData.eqv, h, h2]
  simpa [PyData.eqv] using key xs ys
theorem rowD_lt (nm : Nat → Str) (l m : List Nat) : dataLt (rowD nm l) (rowD nm m) = decide (keyI l < keyI m) := by
  by_cases hlm : l = m
  · subst hlm
    have e : dataLt (rowD nm l) (rowD nm l) = false := by
      unfold PySem.W.dataLt
      exact lex_irrefl _
    rw [e]
    symm
    exact decide_eq_false (List.lt_irrefl _)
  · have hk : keyI l ≠ keyI m := fun e => hlm (keyI_inj e)
    unfold rowD
    rw [PySem.W.dataLt_tuple, PySem.W.dataLt_cons (by simp [alike]), PySem.W.dataLt_cons (by rw [ints_eq, ints_eq]; simp only [alike, PySem.W.alike_ints]), PySem.W.dataLt_int, ints_eq, ints_eq, eqv_ints, PySem.W.dataLt_tuple]
    have e2 : PyProof.Rows.lexLt itemOrd (PySem.W.keyToksAll ((l.map fun (i : Nat) => (i : Int)).map .int)) (PySem.W.keyToksAll ((m.map fun (i : Nat) => (i : Int)).map .int)) = decide ((l.map fun (i : Nat) => (i : Int)) < (m.map fun (i : Nat) => (i : Int))) := PySem.W.dataLt_ints _ _
    rw [e2]
    unfold keyI at hk ⊢
    by_cases h1 : (l.length : Int) = (m.length : Int)
    · have h3 : ¬ (l.map fun (i : Nat) => (i : Int)) = (m.map fun (i : Nat) => (i : Int)) := fun e => hk (by rw [h1, e])
      have e1 : PyData.eqv (.int (l.length : Int)) (.int (m.length : Int)) = true := by simp [PyData.eqv, h1]
      rw [e1, if_pos rfl, decide_eq_false h3, if_neg Bool.false_ne_true]
      refine decide_eq_decide.mpr ?_
      rw [List.cons_lt_cons_iff]
      constructor
      · intro h
        exact .inr ⟨h1, h⟩
      · rintro (h | h)
        · omega
        · exact h.2
    · have e1 : PyData.eqv (.int (l.length : Int)) (.int (m.length : Int)) = false := by simp only [PyData.eqv, beq_eq_false_iff_ne]; exact h1
      rw [e1, if_neg Bool.false_ne_true]
      refine decide_eq_decide.mpr ?_
      rw [List.cons_lt_cons_iff]
      constructor
      · intro h
        exact .inl h
      · rintro (h | h)
        · exact h
        · exact absurd h.1 h1
def leI (l m : List Nat) : Bool := !decide (keyI m < keyI l)
theorem leI_iff {l m : List Nat} : leI l m = true ↔ keyI l ≤ keyI m := by
  unfold leI
  rw [Bool.not_eq_true', decide_eq_false_iff_not]
  exact List.not_lt
theorem leI_total : PySem.W.TotalLe leI where
  total := fun a b => by
    rw [leI_iff, leI_iff]
    exact List.le_total _ _
  trans := fun a b c h1 h2 => by
    rw [leI_iff] at h1 h2 ⊢
    exact List.le_trans h1 h2
theorem rowD_le (nm : Nat → Str) (l m : List Nat) : dataLe false (rowD nm) l m = leI l m := by
  show (!dataLt (rowD nm m) (rowD nm l)) = leI l m
  rw [rowD_lt]
  rfl
def chainI : List (List Nat) → Bool
  | a :: b :: l => leI a b && chainI (b :: l)
  | _ => true
theorem chain_pair : ∀ l : List (List Nat), chainI l = true → l.Pairwise (fun a b => leI a b = true)
  | [], _ => List.Pairwise.nil
  | [a], _ => List.pairwise_singleton _ _
  | a :: b :: l, h => by
    have h' : leI a b = true ∧ chainI (b :: l) = true := by simpa [chainI] using h
    have ih := chain_pair (b :: l) h'.2
    refine List.pairwise_cons.mpr ⟨fun c hc => ?_, ih⟩
    rcases List.mem_cons.mp hc with e | hc
    · rw [e]; exact h'.1
    · exact leI_total.trans _ _ _ h'.1 ((List.pairwise_cons.mp ih).1 c hc)
theorem ord_ok : ∀ n < 9, chainI (ordI n) = true ∧ (ordI n).isPerm (genI n) = true := by decide +kernel
theorem sort_gen {n : Nat} (hn : n ≤ 8) : (genI n).mergeSort leI = ordI n := by
  obtain ⟨h1, h2⟩ := ord_ok n (by omega)
  refine (PySem.W.sort_unique leI_total (chain_pair _ h1) fun c => ?_).symm
  have e : ∀ l : List (List Nat), l.filter (PySem.W.sameRank leI c) = List.replicate (l.count c) c := fun l => by
    have e2 : (PySem.W.sameRank leI c) = (· == c) := by
      funext a
      unfold PySem.W.sameRank
      by_cases h : a = c
      · subst h
        rw [PySem.W.TotalLe.refl leI_total]
        simp
      · have z : ¬ (leI c a = true ∧ leI a c = true) := fun ⟨x, y⟩ => h (keyI_inj (List.le_antisymm (leI_iff.mp y) (leI_iff.mp x)))
        have z2 : (leI c a && leI a c) = false := by
          rw [← Bool.not_eq_true, Bool.and_eq_true]
          exact z
        rw [z2]
        simp [h]
    rw [e2, List.filter_beq]
  rw [e, e, (List.isPerm_iff.mp h2).count_eq]
end FS
set_option maxHeartbeats 1000000
namespace FS
open PySem PySem.Spec PyProof.Rows L2 GenW
section
variable {X : Cx} {pos : Pos}
end
end FS
set_option maxHeartbeats 2000000
namespace FS
open PySem PySem.Spec PyProof.Rows L2
section
variable {X : Cx} {x1 x2 : Str} {c1 c2 : Value} {body suite : List Stmt} {b₀ : Stmt} {np1 np2 tpos pos pos' : Pos} {kk : Nat} {tb : WX → TS} {ts : Addr → Value → Option Addr → TS} {Wout : WX}
end
end FS
set_option maxHeartbeats 2000000
namespace FS
open PySem PySem.Spec PyProof.Rows L2 HT
section
variable {prog : Program} {w : World} {A : Around} {E : Value → Shared → Prop} {s : Shared}
theorem adjust_rev (n : Nat) : Builtin.Slice.sliceAdjust none none (-1) (n : Int) = ((n : Int) - 1, -1) := by
  unfold Builtin.Slice.sliceAdjust
  have h1 : ((-1 : Int) < 0) := by omega
  simp only [h1, if_true]
theorem places_rev (n : Nat) : Builtin.Slice.slicePlaces ((n : Int) - 1) (-1) (-1) = n := by
  unfold Builtin.Slice.slicePlaces
  have h1 : ¬ ((-1 : Int) > 0) := by omega
  simp only [h1, if_false]
  split <;> simp <;> omega
theorem fm_some {α β : Type} {f : α → Option β} {g : α → β} : ∀ {l : List α}, (∀ m ∈ l, f m = some (g m)) → l.filterMap f = l.map g
  | [], _ => rfl
  | a :: l, h => by
    rw [List.filterMap_cons, h a List.mem_cons_self, List.map_cons]
    exact congrArg _ (fm_some fun m hm => h m (List.mem_cons_of_mem _ hm))
theorem pick_rev (xs : Array Value) : ((List.range xs.size).filterMap fun (m : Nat) => xs[(((xs.size : Int) - 1) + (m : Int) * (-1)).toNat]?).toArray = xs.toList.reverse.toArray := by
  congr 1
  have e : ∀ m ∈ List.range xs.size, xs[(((xs.size : Int) - 1) + (m : Int) * (-1)).toNat]? = some (xs.toList.reverse.getD m .none) := fun m hm => by
    have hm' := List.mem_range.mp hm
    have e1 : (((xs.size : Int) - 1) + (m : Int) * (-1)).toNat = xs.size - 1 - m := by omega
    rw [e1, List.getD_eq_getElem?_getD, List.getElem?_reverse (by rw [Array.length_toList]; exact hm'), Array.length_toList, Array.getElem?_toList, Array.getElem?_eq_getElem (by omega)]
    rfl
  rw [fm_some e]
  refine List.ext_getElem? fun i => ?_
  rw [List.getElem?_map]
  by_cases hi : i < xs.size
  · rw [List.getElem?_range hi]
    show some (xs.toList.reverse.getD i Value.none) = _
    rw [List.getD_eq_getElem?_getD]
    have hl : i < xs.toList.reverse.length := by rw [List.length_reverse, Array.length_toList]; exact hi
    rw [List.getElem?_eq_getElem hl]
    rfl
  · rw [List.getElem?_eq_none (by rw [List.length_range]; omega), List.getElem?_eq_none (by rw [List.length_reverse, Array.length_toList]; omega)]
    rfl
theorem applied_rev {sl : Addr} {vs : Value} {n : Nat} {Q : Int × Int × Nat → Shared → Prop} (hs : s.heap.IsSliceOf sl .none .none vs) (ps : IsPart vs (some (-1)))
    (h : Q ((n : Int) - 1, -1, n) s) : wpAny (model prog w) A (Builtin.Slice.sliceApplied (.ref sl) (pure (n : Int))) Q E s := by
  obtain ⟨os, hos, hcs, hds⟩ := id hs
  unfold Builtin.Slice.sliceApplied Builtin.Slice.sliceFields
  refine wpAny_bind (wpAny_bind (wpAny_field hos hds (x := .none) rfl (wpAny_bind (wpAny_field hos hds (x := .none) rfl (wpAny_bind (wpAny_field hos hds (x := vs) rfl (wpAny_pure ?_)))))))
  refine wpAny_bind (slicePart_ ps ?_)
  show wpAny _ _ (if ((-1 : Int) == 0) = true then _ else _) _ _ s
  rw [if_neg (by decide)]
  refine wpAny_bind (slicePart_none (wpAny_bind (slicePart_none (wpAny_bind (wpAny_pure ?_)))))
  show wpAny _ _ (match Builtin.Slice.sliceAdjust none none (-1) (n : Int) with | (lo, hi) => pure (lo, (-1 : Int), Builtin.Slice.slicePlaces lo hi (-1))) _ _ s
  rw [adjust_rev]
  show wpAny _ _ (pure ((n : Int) - 1, (-1 : Int), Builtin.Slice.slicePlaces ((n : Int) - 1) (-1) (-1))) _ _ s
  rw [places_rev]
  exact wpAny_pure h
theorem getItem_tuple_rev {t sl : Addr} {items : Array Value} {vs : Value} {Q : Value → Shared → Prop} (ht : IsTup s.heap t items) (hs : s.heap.IsSliceOf sl .none .none vs) (ps : IsPart vs (some (-1)))
    (h : Q (.ref s.heap.objs.size) { s with heap := s.heap.push { cls := .type "tuple", data := .seq items.toList.reverse.toArray } })
    (hsz : items.size ≤ sizeLine) : wpAny (model prog w) A (getItem (.ref t) (.ref sl)) Q E s := by
  have htake : sizeOk (.seq items.toList.reverse.toArray) := by
    show items.toList.reverse.toArray.size ≤ sizeLine
    rw [List.size_toArray, List.length_reverse, Array.length_toList]
    omega
  obtain ⟨os, hos, hcs, hds⟩ := id hs
  have hTs : s.TypeIs (.ref sl) "slice" := ⟨os, hos, hcs⟩
  unfold getItem
  try with_reducible refine wpAny_holding ?_
  first | refine wpAny_bind (wpAny_pure ?_) | skip
  refine wpAny_bind (wpAny_sequenceKey ht.typeIs (by decide) ?_)
  refine wpAny_bind (wpAny_callSpecial?_slot (name := Str.ofString "__getitem__") ht.typeIs PyProof.Rows.slot_tuple_getitem
    (wpAny_call_entry PyProof.Rows.slot_tuple_getitem ht.typeIs entry_tuple_getitem ?_ (args_tuple_getitem _ _)))
  show wpAny _ _ (Builtin.Tuple.tupleItemsOf (.ref t) >>= _) _ _ s
  refine wpAny_bind (tupleItemsOf_ ht ?_)
  refine wpAny_bind (wpAny_typeOf hTs ?_)
  rw [if_pos (by decide)]
  refine wpAny_bind (applied_rev (n := items.size) hs ps ?_)
  have hno : ¬ ((((items.size : Int) - 1) == 0 && (-1 : Int) == 1 && items.size == items.size) = true) := by
    intro q
    rw [Bool.and_eq_true, Bool.and_eq_true] at q
    exact absurd q.1.2 (by decide)
  show wpAny _ _ (if (((items.size : Int) - 1) == 0 && (-1 : Int) == 1 && items.size == items.size) = true then _ else _) _ _ s
  rw [if_neg hno, pick_rev]
  first
    | exact wpAny_bind (m := Builtin.Tuple.tupleExact _) (wpAny_newObj_type (wpAny_pure ⟨_, rfl, wpAny_pure h⟩) htake)
    | exact wpAny_bind (m := Builtin.Tuple.tupleExact _) (wpAny_newObj_type (wpAny_bind (wpAny_pure (wpAny_pure ⟨_, rfl, wpAny_pure h⟩))) htake)
    | exact wpAny_bind (wpAny_bind (m := Builtin.Tuple.tupleExact _) (wpAny_newObj_type (wpAny_pure (wpAny_pure ⟨_, rfl, wpAny_pure h⟩)) htake))
    | exact wpAny_bind (wpAny_bind (m := Builtin.Tuple.tupleExact _) (wpAny_newObj_type (wpAny_pure ⟨_, rfl, wpAny_pure h⟩) htake))
end
section
variable {X : Cx}
def tRevT (K : PySem.W.Frag) (te : TE) : TE := fun σ H Q => te σ H fun x H1 => ∃ a xs, x = .ref a ∧ SqT K H1 a xs ∧ ∀ p, H1 p = none → Q (.ref p) (upd H1 p (.tup xs.reverse))
theorem pe_revT {e : Expr} {te : TE} {k : Nat} {p1 p2 p3 pos : Pos} (he : PE X e te) : PE X (.Subscript e (.Slice none none (some (.UnaryOp .USub (.Constant (.int 1) k p1) p2)) p3) pos) (tRevT X.K te) := by
  refine ⟨fun pins s σ H Q I h => ?_⟩
  refine Subscript_ (thn (he.run pins s σ H _ I h) fun v s1 ⟨x, H1, I1, r1, q1⟩ => ?_)
  obtain ⟨a, xs, ex, hx, q⟩ := q1
  subst ex
  cases r1
  have hst : PO X (some (.UnaryOp .USub (.Constant (.int 1) k p1) p2)) (tPart (tUn (rU fun i => .int (-i)) (tC (.int 1)))) := po_some (pe_un un_neg pe_int)
  refine wpAny_Slice (thn (po_none.run pins s1 σ H1 (fun o H2 => o = none ∧ H2 = H1) I1 ⟨rfl, rfl⟩) fun vl s2 ⟨l, H2, I2, pl, el, e2⟩ => ?_)
  subst el e2
  cases pl
  refine thn (po_none.run pins s2 σ H2 (fun o H3 => o = none ∧ H3 = H2) I2 ⟨rfl, rfl⟩) fun vu s3 ⟨u, H3, I3, pu, eu, e3⟩ => ?_
  subst eu e3
  cases pu
  refine thn (hst.run pins s3 σ H3 (fun o H4 => o = some (-1) ∧ H4 = H3) I3 ⟨1, rfl, -1, rfl, rfl, rfl⟩) fun vs s4 ⟨o, H4, I4, ps, eo, e4⟩ => ?_
  subst eo e4
  have I5 : Inv X pins σ H4 { s4 with heap := s4.heap.push { cls := .type "slice", data := .fields #[.none, .none, vs] } } := I4.kept (t' := s4.toks) fun b ob q => Heap.get?_push_of_some _ q
  obtain ⟨its, r, ht, hz⟩ := I5.tuple hx
  have hlen := r.length
  show wpAny (model X.prog X.w) X.A (subscriptTail e (.Slice none none (some (.UnaryOp .USub (.Constant (.int 1) k p1) p2)) p3) (.ref a) (.ref s4.heap.objs.size)) (EP X pins σ Q) X.xe { s4 with heap := s4.heap.push { cls := .type "slice", data := .fields #[.none, .none, vs] } }
  refine tail_any (ops := [.ref a, .ref s4.heap.objs.size]) ht.typeIs (PyProof.Rows.slot_tuple_getitem.lookup) ?_ (by with_unfolding_all rfl)
  refine getItem_tuple_rev ht (Heap.IsSliceOf.new _ _ _ vs) ps ?_ (by rw [List.size_toArray]; omega)
  refine ⟨.ref _, _, I5.laid (t' := s4.toks) (o := .tup xs.reverse) (fun b ob q => Heap.get?_push_of_some _ q) (Nat.le_refl _) ?_, rfl, q _ (I5.hok.fresh (Nat.le_refl _))⟩
  exact ⟨by rw [List.length_reverse]; exact hz, _, r.reverse, IsTup.new _ _⟩
end
end FS
set_option maxHeartbeats 2000000
namespace FS
open PySem PySem.Spec PyProof.Rows L2
section
variable {X : Cx} {es : List Expr} {t : TA} {pos : Pos}
def tTupN (t : TA) : TE := fun σ H Q => t σ H fun xs H1 => xs.length ≤ sizeLine ∧ ∀ p H2, H1 p = none → (∀ b o, H1 b = some o → H2 b = some o) → NT H2 p xs → Q (.ref p) H2
theorem pe_tupN {x1} (h : PA X es t) : PE X (.Tuple es x1 pos) (tTupN t) := by
  refine ⟨fun pins s σ H Q I hq => ?_⟩
  refine wpAny_Tuple_spliced (thn (h.run pos pins s σ H _ I hq) fun us s1 ⟨xs, H1, I1, r, z, q⟩ => ⟨by rw [← r.length]; exact z, ?_⟩)
  have hf : H1 s1.heap.objs.size = none := I1.hok.fresh (Nat.le_refl _)
  refine ⟨.ref s1.heap.objs.size, _, I1.laid (t' := s1.toks) (o := .frz ({ cls := .type "tuple", data := .seq us.toArray } : Obj) (.tup xs)) (fun b u e => Heap.get?_push_of_some _ e) (Nat.le_refl _) ?_, rfl, q _ _ hf (fun b o e => ?_) ⟨_, upd_same, rfl, rfl⟩⟩
  · exact ⟨Heap.get?_push_size _ rfl, z, us, r, ⟨_, Heap.get?_push_size _ rfl, rfl, _, rfl⟩⟩
  · rw [upd_ne (fun q => by rw [q, hf] at e; cases e)]
    exact e
def rCatN (K : PySem.W.Frag) : R2 := fun x y H Q => ∃ a b xs ys, x = .ref a ∧ y = .ref b ∧ NT H a xs ∧ NT H b ys ∧ xs.length + ys.length ≤ sizeLine ∧ ∀ p H', (∀ b o, H b = some o → H' b = some o) → NT H' p (xs ++ ys) → Q (.ref p) H'
theorem op_catN : OpR X (binaryOp .Add) (rCatN X.K) := by
  intro pins s σ H x y v u Q I rx ry h
  obtain ⟨a, b, xs, ys, rfl, rfl, ha, hb, hz, q⟩ := h
  by_cases hx : xs = []
  · subst hx
    exact op_catA pins s σ H _ _ v u Q I rx ry ⟨a, b, [], ys, rfl, rfl, ha.seq, hb.seq, hz, fun _ => q b H (fun _ _ e => e) hb, fun n => absurd rfl n, fun n => absurd rfl n⟩
  · by_cases hy : ys = []
    · subst hy
      exact op_catA pins s σ H _ _ v u Q I rx ry ⟨a, b, xs, [], rfl, rfl, ha.seq, hb.seq, hz, fun e => absurd e hx, fun _ _ => q a H (fun _ _ e => e) (by rw [List.append_nil]; exact ha), fun _ n => absurd rfl n⟩
    · cases rx
      cases ry
      obtain ⟨its, r1, p1, _⟩ := I.tuple (ha.seq (K := X.K))
      obtain ⟨its2, r2, p2, _⟩ := I.tuple (hb.seq (K := X.K))
      refine HT.cat_tup p1 p2 (fun z => hx (r1.nil_iff.mp z)) (fun z => absurd (r2.nil_iff.mp z) hy) (fun z => ?_) (by rw [← r1.length, ← r2.length]; exact hz)
      have hf := I.hok.fresh (Nat.le_refl s.heap.objs.size)
      refine ⟨.ref s.heap.objs.size, _, I.laid (t' := s.toks) (o := .frz ({ cls := .type "tuple", data := .seq (its ++ its2).toArray } : Obj) (.tup (xs ++ ys))) (fun b ob q => Heap.get?_push_of_some _ q) (Nat.le_refl _) ?_, rfl, q _ _ (fun b o e => ?_) ⟨_, upd_same, rfl, rfl⟩⟩
      · exact ⟨Heap.get?_push_size _ rfl, by rw [List.length_append]; exact hz, _, r1.append r2, IsTup.new _ _⟩
      · rw [upd_ne (fun q => by rw [q, hf] at e; cases e)]
        exact e
end
end FS
set_option maxHeartbeats 2000000
namespace FS
open PySem PySem.Spec PyProof.Rows L2
section
variable {X : Cx} {e : Expr} {es : List Expr} {ta : TA} {p pos : Pos}
end
end FS
set_option maxHeartbeats 2000000
namespace FS
open PySem PySem.Spec PyProof.Rows L2
/-- the block's context -/
abbrev cX (X : Cx) (s0 : Shared) (H0 : Hp) (bs : Scope) (cl : List (Str × Addr)) (C0 : Addr) (fp : List Addr) : Cx := X.blk s0 H0 bs (compEnvC bs cl C0 X.env) fp
section
variable {X : Cx}
end
end FS
set_option maxHeartbeats 2000000
namespace FS
open PySem PySem.Spec PyProof.Rows L2
/-- what a block leaves behind; of an exception with the block's own context -/
def aftC (M : Model) (A : Around) (E Q : Value → Shared → Prop) (acc : Value) (ce : Env) : Result → Shared → Prop
  | .ok _, s' => ∃ m, s'.heap.Ns ce.locals m ∧ ∀ h', Heap.SameBut ce.locals s'.heap h' → Q acc { s' with heap := h' }
  | .error x, s' => ∃ m, s'.heap.Ns ce.locals m ∧ ∀ h', Heap.SameBut ce.locals s'.heap h' → wpAny M A (passOn "comprehension.variables-let-go" x ce : Sem Value) (fun _ _ => False) E { s' with heap := h' }
theorem comp_open {M : Model} {A : Around} {E Q : Value → Shared → Prop} {s : Shared} {env : Env} {e : Expr} {bs : Scope} {pos : Pos} {mk fst : Sem Value} {g : Comprehension} {gs : List Comprehension} {cl : List (Str × Addr)}
    (c1 : clausesOf e = g :: gs) (c2 : ∀ x, foldedSetIterable g.iter env x = pure x) (c3 : closureFor bs env = pure cl) (c4 : bs.kind = .function) (c5 : ∀ y ∈ bs.names, y.2 = .local → bs.names.lookup y.1 = some .local)
    (h : wpAny M A fst (fun xv sa => wpAny M A (pyIter xv) (fun it sb => wpAny M A mk (fun acc sc => wpAny M A (newFunctionEnv bs env.globals cl [] env.qual none .none (some env)) (fun ce sd =>
      codeAny M A (.compStart e 0 it acc { ce with scope := relabel bs env }) (aftC M A E Q acc { ce with scope := relabel bs env }) sd) E sc) E sb) E sa) E s) :
    wpAny M A (comprehension e bs env pos mk false fst none) Q E s := by
  unfold comprehension
  rw [c3, c1]
  refine wpAny_bind (wpAny_mono h (fun xv sa ha => wpAny_bind (wpAny_standAt (wpAny_bind (wpAny_of_eq (c2 xv) (wpAny_bind (wpAny_holding (wpAny_mono ha (fun it sb hb => wpAny_standIf (wpAny_bind (wpAny_mono hb (fun acc sc hc =>
    wpAny_bind (wpAny_pure (wpAny_bind (wpAny_mono hc (fun ce sd hd => ?_) fun _ _ z => z)))) fun _ _ z => z))) fun _ _ z => z))))))) fun _ _ z => z)
  dsimp only
  have loc : ∀ y ∈ (bs.names.filter fun y => (y.2 == .local || y.2 == .cell) && y.1 != (".0" : Str)).reverse, y.2 = .local → Env.kindOf { ce with scope := relabel bs env } y.1 = some .local :=
    fun y hy q => lookup_relabel_local (c5 y (List.mem_filter.mp (List.mem_reverse.mp hy)).1 q)
  refine wpAny_holding (wpAny_bind (wpAny_attempt (wpAny_holding (wpAny_run (codeAny_mono hd fun r se he => ?_)))))
  cases r with
  | ok f =>
    obtain ⟨m, hn, hq⟩ := he
    exact wpAny_bind (wpAny_holding (wpAny_comp_letGo (cenv := { ce with scope := relabel bs env }) c4 _ se m loc hn fun h' _ _ k => wpAny_pure (hq h' k)))
  | error x =>
    obtain ⟨m, hn, hq⟩ := he
    exact wpAny_bind (wpAny_holding (wpAny_comp_letGo (cenv := { ce with scope := relabel bs env }) c4 _ se m loc hn fun h' _ _ k => wpAny_mono (hq h' k) (fun _ _ z => z.elim) fun _ _ z => z))
theorem noteFrame_as {x : Value} {e1 e2 : Env} (h : e1.frame = e2.frame) : noteFrame x e1 = noteFrame x e2 := by
  unfold noteFrame PySem.frameOf
  rw [h]
theorem inv_xe {X : Cx} {pz : List (Addr × Obj)} {σ : L2.St} {H : Hp} {s : Shared} {xe : Value → Shared → Prop} (I : Inv X pz σ H s) : Inv { X with xe := xe } pz σ H s :=
  ⟨⟨I.ok.mod, I.ok.kind, I.ok.glob, I.ok.blt, I.ok.above, I.ok.inj, I.ok.has, I.ok.cab, I.ok.hd, I.ok.frames, I.ok.stk, I.ok.exf, I.ok.bs, I.ok.bsz, I.ok.noex, I.ok.exfs, I.ok.funs, I.ok.frf⟩, I.os, I.bare, I.base, I.loc, I.cell, I.free, I.freeC, I.pin, I.hok, I.len⟩
/-- frames stand, whatever else has changed -/
theorem frames_as {B B' h h' : Heap} : ∀ {l : List Env}, h.FunFrames B l → (∀ L ∈ frs l, h'.get? L = h.get? L) → (∀ L ∈ frs l, B'.get? L = none) → h'.FunFrames B' l
  | [], _, _, _ => trivial
  | e :: l, ⟨k, ⟨L, o, f, _, ho, hd⟩, r⟩, a, b => by
    have m : L ∈ frs (e :: l) := List.mem_filterMap.mpr ⟨e, List.mem_cons_self, f⟩
    have up : ∀ x ∈ frs l, x ∈ frs (e :: l) := fun x hx => by
      obtain ⟨y, hy, q⟩ := List.mem_filterMap.mp hx
      exact List.mem_filterMap.mpr ⟨y, List.mem_cons_of_mem _ hy, q⟩
    exact ⟨k, ⟨L, o, f, b L m, (a L m).trans ho, hd⟩, frames_as r (fun x hx => a x (up x hx)) fun x hx => b x (up x hx)⟩
section
variable {X : Cx} {W : WX} {C : Addr}
/-- an exception in the air of a block whose names stand at C; S: how it flies -/
def AirC (X : Cx) (W : WX) (C : Addr) (S : Heap → Addr → (Obj → Prop) → Heap → Prop) (u : Value) (s' : Shared) : Prop :=
  ∃ (a : Addr) (B : Heap) (sI : Shared) (pz : List (Addr × Obj)) (σ : L2.St) (H : Hp) (cls : Value) (d : Option Addr) (oC : Obj), u = .ref a ∧ Inv X pz σ H sI ∧ (∀ b o, sI.heap.get? b = some o → b ∉ frs X.stack → B.get? b = some o) ∧
    sI.heap.UpToSlots s'.heap ∧ S B a (Zc cls d) s'.heap ∧ H a = none ∧ s'.os = sI.os ∧ AllBare s'.gens ∧ W cls d σ H ∧ sI.heap.get? C = some oC ∧ FpOk X pz H C ∧ C ∉ frs X.stack ∧ (∃ m, s'.heap.Ns C m)
theorem AirC.of_call {pz : List (Addr × Obj)} {σ : L2.St} {H : Hp} {s s' : Shared} {E : XK} {m : Str → Option Value} (I : Inv X pz σ H s) (hW : ∀ cls d H', E cls d H' → W cls d σ H') (hm : s.heap.Ns C m) (hC : FpOk X pz H C) {u : Value} (c : CX X.prog X.w X.stack H s E u s') :
    AirC X W C (fun B a Z h => Sky B X.stack a Z X.env.locals h) u s' := by
  obtain ⟨a, B, H', cls, d, rfl, fl, ok, ub, na, os, ag, hE⟩ := c
  have cs : C ∉ frs X.stack := fun z => by
    rcases List.mem_cons.mp (I.stkSub C z) with q | q
    · exact hC.2.1 q
    · exact hC.2.2.1 q
  obtain ⟨G, g1, g2⟩ := restrict s'.heap fun b => (B.get? b).isSome || decide (b ∈ frs X.stack)
  have inB : ∀ b o, B.get? b = some o → G.get? b = some o := fun b o e => by
    rw [g1 b (by simp [e])]
    exact fl.1 b o e
  have inF : ∀ b, b ∈ frs X.stack → G.get? b = s'.heap.get? b := fun b hb => g1 b (by simp [hb])
  have inv : ∀ b o, G.get? b = some o → s'.heap.get? b = some o ∧ ((B.get? b).isSome = true ∨ b ∈ frs X.stack) := fun b o e => by
    cases q : ((B.get? b).isSome || decide (b ∈ frs X.stack)) with
    | false => rw [g2 b q] at e; cases e
    | true =>
      rw [g1 b q] at e
      exact ⟨e, by simpa [Bool.or_eq_true] using q⟩
  obtain ⟨oC, es, ep, hoC, rest⟩ := hm
  have hBC : B.get? C = some oC := ub.keep C oC hoC hC.1 cs
  refine ⟨a, B, { s with heap := G, gens := s'.gens, drawn := s'.drawn, toks := s'.toks }, pz, σ, H', cls, d, oC, rfl, ?_, fun b o e hb => ?_, Heap.UpToSlots.of_keeps fun b o e => (inv b o e).1, .inr (.inl fl), na, os, ag, hW _ _ _ hE, inB C oC hBC, ⟨ub.free C oC hoC hC.1, hC.2⟩, cs, m, oC, es, ep, fl.1 C oC hBC, rest⟩
  · refine I.call (ch := []) ⟨fun b o e n hb _ => inB b o (ub.keep b o e n hb), fun b o e n hb _ => ?_, fun b o e n _ => ub.free b o e n, fun b o e _ => ?_, ub.tups, ub.frzs, ub.tbls⟩ (ok.kept inB) ag (fun _ z => nomatch z)
    · obtain ⟨sl, q⟩ := ub.slot b o e hb
      exact ⟨sl, by rw [inF b hb]; exact q⟩
    · by_cases hb : b ∈ frs X.stack
      · obtain ⟨sl, q⟩ := ub.slot b o e hb
        exact ⟨_, by rw [inF b hb]; exact q⟩
      · obtain ⟨o', q⟩ := ub.there b o e hb
        exact ⟨o', inB b o' q⟩
  · obtain ⟨e', hx⟩ := inv b o e
    rcases hx with hx | hx
    · obtain ⟨o', q⟩ := Option.isSome_iff_exists.mp hx
      have z := fl.1 b o' q
      rw [e'] at z
      cases z
      exact q
    · exact absurd hx hb
theorem AirC.noted (hs : X.stack = X.env :: X.outer) (hf : X.env.frame = some X.env.locals) {ce : Env} (he : ce.frame = X.env.frame) {u : Value} {s' : Shared} {R : Value → Shared → Prop} (x : AirC X W C (fun B a Z h => Sky B X.stack a Z X.env.locals h) u s')
    (hR : ∀ s'', AirC X W C (fun B a Z h => HandSPX.HeldZ B X.stack a Z X.env.locals h) u s'' → R u s'') : notedBy (model X.prog X.w) X.A ce R u s' := by
  obtain ⟨a, B, sI, pz, σ, H, cls, d, oC, rfl, I, nb, up, sky, na, os, ag, w, hC, fC, cs, m, nC⟩ := x
  show wpAny _ _ (noteFrame (.ref a) ce) _ _ _
  rw [noteFrame_as he]
  have fr : X.A.frames = some (X.env :: X.outer) := by rw [I.ok.frames, hs]
  have hBC := nb C oC hC cs
  have fin : ∀ h1, HandSPX.HeldZ B (X.env :: X.outer) a (Zc cls d) X.env.locals h1 → s'.heap.UpToSlots h1 → R (.ref a) { s' with heap := h1 } := fun h1 hh k => by
    refine hR _ ⟨a, B, sI, pz, σ, H, cls, d, oC, rfl, I, nb, up.trans k, by rw [hs]; exact hh, na, os, ag, w, hC, fC, cs, m, ?_⟩
    obtain ⟨o2, es, ep, ho2, hd2, rest⟩ := nC
    have st : B.StaysIn s'.heap := by
      rcases sky with z | z | z
      · exact z.1
      · exact z.1
      · exact z.1
    have e2 : o2 = oC := by
      have z := st C oC hBC
      rw [ho2] at z
      exact Option.some.inj z
    exact ⟨o2, es, ep, by rw [e2]; exact hh.1 C oC hBC, hd2, rest⟩
  rw [hs] at sky
  rcases sky with ⟨hB, hn, hl, oe, vs, h1, hz, hd, h2⟩ | fl | hh
  · exact HandSPX.look_newZ Zc.steady fr hl hf h1 hB hn hd h2 hz fin
  · exact HandSPX.looks_onZ Zc.steady fr hf fl fin
  · exact HandSPX.againZ hf hh.2.2.2 (fin s'.heap hh (Heap.UpToSlots.refl _))
theorem AirC.after (tk : Takes X W) (hf : X.env.frame = some X.env.locals) {ce : Env} (he : ce.frame = X.env.frame) (hl : ce.locals = C) {u acc : Value} {s' : Shared} {Q : Value → Shared → Prop} (x : AirC X W C (fun B a Z h => HandSPX.HeldZ B X.stack a Z X.env.locals h) u s') :
    aftC (model X.prog X.w) X.A X.xe Q acc ce (.error u) s' := by
  obtain ⟨a, B, sI, pz, σ, H, cls, d, oC, rfl, I, nb, up, ⟨hB, hn, hfr, oe, vs, T, oT, ts, h1, hz, hd, h2, hT0, hTa, hT, hdT, h3⟩, na, os, ag, w, hC, ⟨f0, f1, f2, f3, f4, f5⟩, cs, m, nC⟩ := x
  refine ⟨m, by rw [hl]; exact nC, fun h' sub => ?_⟩
  rw [hl] at sub
  have hBC := nb C oC hC cs
  have aC : a ≠ C := fun z => by rw [z, hBC] at hn; cases hn
  have tC : T ≠ C := fun z => by rw [z, hBC] at hT0; cases hT0
  have g1 : h'.get? a = some oe := (sub.2 a aC).trans h1
  have g2 : h'.get? T = some oT := (sub.2 T tC).trans hT
  have hide : ∀ (k : Heap) b o, b ≠ C → k.get? b = some o → (PySem.W.hideAll k [C]).get? b = some o := fun k b o n e => PySem.W.hideAll_get [C] e (by simpa using n)
  have back : ∀ (k : Heap) b o, (PySem.W.hideAll k [C]).get? b = some o → b ≠ C ∧ k.get? b = some o := fun k b o e => by
    refine ⟨fun z => ?_, PySem.W.of_hideAll [C] e⟩
    rw [z, PySem.W.hideAll_none [C] (List.mem_singleton.mpr rfl)] at e
    cases e
  have nn : ∀ (k : Heap) b, k.get? b = none → (PySem.W.hideAll k [C]).get? b = none := fun k b e => by
    cases q : (PySem.W.hideAll k [C]).get? b with
    | none => rfl
    | some o =>
      have z := (back k b o q).2
      rw [e] at z
      cases z
  have fB : ∀ L ∈ frs X.stack, B.get? L = none := fun L hL => (hfr.mem hL).1
  have held : HandSPX.HeldZ (PySem.W.hideAll B [C]) X.stack a (Zc cls d) X.env.locals h' := by
    refine ⟨fun b o e => ?_, nn B a hn, frames_as hfr (fun L hL => sub.2 L fun z => cs (z ▸ hL)) fun L hL => nn B L (fB L hL), oe, vs, T, oT, ts, g1, hz, hd, h2, nn B T hT0, hTa, g2, hdT, h3⟩
    obtain ⟨n, e'⟩ := back B b o e
    exact (sub.2 b n).trans (hB b o e')
  show wpAny _ _ (passOn _ (.ref a) ce) _ _ _
  unfold PySem.passOn
  refine wpAny_bind (wpAny_field g1 hd h2 ?_)
  rw [if_neg (show ¬ ((Value.ref T == Value.none) = true) from by simp)]
  rw [he, hf]
  refine wpAny_bind (HandSPX.setFlight_onZ (s := { s' with heap := h' }) held fun k hk ups => wpAny_throw ?_)
  refine tk _ _ ⟨a, PySem.W.hideAll B [C], { sI with heap := PySem.W.hideAll sI.heap [C], toks := sI.toks }, pz, σ, H, cls, d, rfl, I.turned (it := C) (fun b o n e => hide sI.heap b o n e) f0 f1 f3 f4 f5, fun b o e hb => ?_, fun b o e hd' => ?_, .inr (.inr hk), na, os, ag, w⟩
  · obtain ⟨n, e'⟩ := back sI.heap b o e
    exact hide B b o n (nb b o e' hb)
  · obtain ⟨n, e'⟩ := back sI.heap b o e
    obtain ⟨sl, q⟩ := up b o e' hd'
    exact ups b { o with slots := sl } ((sub.2 b n).trans q) hd'
/-- the block's context, what is wanted of an exception told -/
abbrev xX (X : Cx) (s0 : Shared) (H0 : Hp) (bs : Scope) (cl : List (Str × Addr)) (C0 : Addr) (fp : List Addr) (xe : Value → Shared → Prop) : Cx := { cX X s0 H0 bs cl C0 fp with xe := xe }
/-- what may leave the def may leave its block -/
def OutX (X Y : Cx) (W : WX) : Prop := ∀ E : XK, (∀ cls d σ H, E cls d H → W cls d σ H) → Passes (L2.CX X.prog X.w) Y E
theorem pe_lcX {elt tg iter : Expr} {bs : Scope} {own : List (Str × Nat)} {pos : Pos} {wi : TI} {g : TG} {te : TE} (tk : Takes X W) (hs1 : X.stack = X.env :: X.outer) (hf1 : X.env.frame = some X.env.locals) (calm : X.calm = true) (nd : X.N.Nodup) (hi : PI X tg iter wi) (ok : BlkOk X.N X.env.scope bs own)
    (hg : ∀ (s0 : Shared) (H0 : Hp) (C0 : Addr) (cl : List (Str × Addr)) (fp : List Addr) (xe : Value → Shared → Prop), PG (xX X s0 H0 bs cl C0 fp xe) tg g)
    (he : ∀ (s0 : Shared) (H0 : Hp) (C0 : Addr) (cl : List (Str × Addr)) (fp : List Addr) (xe : Value → Shared → Prop), OutX X (xX X s0 H0 bs cl C0 fp xe) W → PE (xX X s0 H0 bs cl C0 fp xe) elt te) (hs : ∀ x, foldedSetIterable iter X.env x = pure x := by intro _; rfl) :
    PE X (.ListComp elt [⟨tg, iter, [], 0⟩] bs pos) (tLc wi g tYes te (own.map (·.2))) := by
  refine ⟨fun pz s σ H Q I h => ?_⟩
  rw [eval_ListComp]
  have free : ∀ y ∈ bs.names, y.2 = .free → ∃ c, X.env.cells.lookup y.1 = some c := fun y hy e => (ok.free y hy e).elim (fun k => I.ok.has _ (.inl k)) fun k => I.ok.has _ (.inr k)
  refine comp_open rfl hs (closure_ok free) ok.kind (fun y hy e => by rw [ok.uniq y hy, e]) (thn (hi.run pz s σ H _ I h) fun xv sa ha => thn ha fun itv sb hb => ?_)
  obtain ⟨it, fp, tn, J, Hb, e, Ib, T, stb, fb, q⟩ := hb
  subst e
  refine wpAny_newObj_type (newEnv_comp ?_) (by show 0 ≤ sizeLine; decide)
  generalize hM : sb.heap.objs.size = M
  have newM : Hb M = none := Ib.hok.fresh (Nat.le_of_eq hM)
  obtain ⟨V, ⟨m0, w0⟩, turn⟩ := q M newM
  generalize hsc : ({ sb with heap := sb.heap.push { cls := .type "list", data := .seq ([] : List Value).toArray } } : Shared) = sc
  have heapC : sc.heap = sb.heap.push { cls := .type "list", data := .seq ([] : List Value).toArray } := by rw [← hsc]
  have Ic : Inv X pz σ (upd Hb M (.lst [])) sc := by
    rw [← hsc]
    exact Ib.laid (t' := sb.toks) (fun b o e => Heap.get?_push_of_some _ e) (Nat.le_of_eq hM) ⟨Nat.zero_le _, [], 0, .nil, by rw [← hM]; exact Heap.get?_push_size _ rfl⟩
  have small : ∀ b ∈ fp, b < sb.heap.objs.size := fun b hb => by
    obtain ⟨o, e, _⟩ := T.obj _ _ stb b hb
    exact Heap.lt_size e
  have fc : ∀ b ∈ fp, FpOk X pz (upd Hb M (.lst [])) b ∧ b < sc.heap.objs.size := fun b hb => by
    have lt := small b hb
    refine ⟨⟨by rw [upd_ne (by rw [← hM]; exact Nat.ne_of_lt lt)]; exact (fb b hb).1, (fb b hb).2⟩, ?_⟩
    rw [heapC, Heap.size_push]
    exact Nat.lt_succ_of_lt lt
  have stc : tn 0 sc.heap := T.keep _ _ _ stb fun b _ o e => by rw [heapC]; exact Heap.get?_push_of_some _ e
  have Id := block_start Ic ok nd fc
  have none0 : ∀ b ∈ fp, (upd Hb M (.lst [])) b = none := fun b hb => (fc b hb).1.1
  generalize hH : upd Hb M (.lst []) = Hc at Ic Id w0 none0 fc
  show codeAny _ _ (.compStart (.ListComp elt [⟨tg, iter, [], 0⟩] bs pos) 0 (.ref it) (.ref M) (compEnvC bs (cellsFrom (sc.heap.objs.size + 1) bs.names (cloFrom X.env.cells bs.names [])) sc.heap.objs.size X.env)) (aftC (model X.prog X.w) X.A X.xe (EP X pz σ Q) (.ref M) (compEnvC bs (cellsFrom (sc.heap.objs.size + 1) bs.names (cloFrom X.env.cells bs.names [])) sc.heap.objs.size X.env)) { sc with heap := pushCells (sc.heap.push { cls := .type "dict", data := .dict #[] }) bs.names }
  generalize hcl : cellsFrom (sc.heap.objs.size + 1) bs.names (cloFrom X.env.cells bs.names []) = cl at Id ⊢
  have cL : (compEnvC bs cl sc.heap.objs.size X.env).locals = sc.heap.objs.size := rfl
  have cF : (compEnvC bs cl sc.heap.objs.size X.env).frame = X.env.frame := rfl
  generalize hxe : AirC X W sc.heap.objs.size (fun B a Z h => Sky B X.stack a Z X.env.locals h) = xe
  have outer : ∀ {σ' : L2.St} {H' : Hp} {s' : Shared} {pb : List (Addr × Obj)}, Inv (xX X sc Hc bs cl sc.heap.objs.size fp xe) pb σ' H' s' → Inv X pz σ H' s' := fun {σ' H' s' pb} If =>
    Ic.call' (ch := fp) If.os If.base If.hok If.bare fun b hb => ⟨(fc b hb).1.2.2.2.1, (fc b hb).1.2.1, (fc b hb).1.2.2.2.2.1, (fc b hb).1.2.2.2.2.2⟩
  have out : OutX X (xX X sc Hc bs cl sc.heap.objs.size fp xe) W := fun E hE pb σb Hx sx u s' Ix c => by
    show xe u s'
    rw [← hxe]
    obtain ⟨m, hn, _⟩ := Ix.loc
    have nC : Hx sc.heap.objs.size = none := Ix.free
    exact AirC.of_call (outer Ix) (fun cls d H' z => hE cls d σ H' z) hn (Ic.fpOk (Nat.le_refl _) nC) c
  have pg : PG (xX X sc Hc bs cl sc.heap.objs.size fp xe) tg g := hg sc Hc sc.heap.objs.size cl fp xe
  have pe : PE (xX X sc Hc bs cl sc.heap.objs.size fp xe) elt te := he sc Hc sc.heap.objs.size cl fp xe out
  have Id' : Inv (xX X sc Hc bs cl sc.heap.objs.size fp xe) [] (wipe σ (own.map (·.2))) Hc { sc with heap := pushCells (sc.heap.push { cls := .type "dict", data := .dict #[] }) bs.names } := inv_xe Id
  clear Id
  generalize hsd : ({ sc with heap := pushCells (sc.heap.push { cls := .type "dict", data := .dict #[] }) bs.names } : Shared) = sd at Id' ⊢
  have std : tn 0 sd.heap := T.keep _ _ _ stc fun b _ o e => by rw [← hsd]; exact pushCells_keeps _ _ _ _ (Heap.get?_push_of_some _ e)
  have errs : ∀ u s', xe u s' → notedBy (model X.prog X.w) X.A (compEnvC bs cl sc.heap.objs.size X.env) (fun u s' => aftC (model X.prog X.w) X.A X.xe (EP X pz σ Q) (.ref M) (compEnvC bs cl sc.heap.objs.size X.env) (.error u) s') u s' := fun u s' x => by
    rw [← hxe] at x
    exact AirC.noted hs1 hf1 cF x fun s'' y => AirC.after tk hf1 cF cL y
  have stat : ∀ {σ' : L2.St} {H' : Hp} {s' : Shared}, Inv (xX X sc Hc bs cl sc.heap.objs.size fp xe) [] σ' H' s' → (∀ b ∈ fp, H' b = none) → ∀ b ∈ fp, FpOk (xX X sc Hc bs cl sc.heap.objs.size fp xe) [] H' b := fun {σ' H' s'} I' hn b hb =>
    ⟨hn b hb, (I'.ok.exf b hb).1, I'.ok.exfs b hb, .inl hb, fun x c e => (I'.ok.exf b hb).2 x c e, fun p hp => absurd (show p ∈ ([] : List (Addr × Obj)) ++ [] from hp) (by simp)⟩
  have loop : codeAny (model X.prog X.w) X.A (.compLoop (.ListComp elt [⟨tg, iter, [], 0⟩] bs pos) 0 (.ref it) (.ref M) (compEnvC bs cl sc.heap.objs.size X.env)) (aftC (model X.prog X.w) X.A X.xe (EP X pz σ Q) (.ref M) (compEnvC bs cl sc.heap.objs.size X.env)) sd := by
    refine compLoop_any (fun n s' => ∃ i H', Inv (xX X sc Hc bs cl sc.heap.objs.size fp xe) [] (wipe σ (own.map (·.2))) H' s' ∧ tn i s'.heap ∧ (∀ b ∈ fp, H' b = none) ∧ V i n H') ?_ m0 ⟨0, Hc, Id', std, none0, w0⟩
    rintro n se ⟨i, He, Ie, ste, ne, we⟩
    rcases turn i n He we with ⟨stop, qq⟩ | ⟨go, Nx, hNx, step⟩
    · refine thnF (T.done (xX X sc Hc bs cl sc.heap.objs.size fp xe) rfl rfl rfl calm i [] se _ He (fun _ _ => False) Ie (stat Ie ne) ste stop) fun r sf ⟨hr, If⟩ => ?_
      subst hr
      have Ig := outer If
      have nC : He sc.heap.objs.size = none := If.free
      obtain ⟨m, hn, _⟩ := If.loc
      obtain ⟨f0, f1, f2, f3, f4, f5⟩ := Ic.fpOk (Nat.le_refl _) nC
      exact ⟨m, hn, fun h'' sub => ⟨.ref M, He, Ig.turned (t' := sf.toks) (fun b o hb e => (sub.2 b hb).trans e) f0 f1 f3 f4 f5, rfl, qq⟩⟩
    · refine thnF (T.item (xX X sc Hc bs cl sc.heap.objs.size fp xe) rfl rfl rfl calm i [] se _ He (fun _ _ => False) Ie (stat Ie ne) ste go) fun r sf ⟨u, hr, hf⟩ => ?_
      subst hr
      refine thnF hf fun _ sg ⟨x, Hg, Ig, rg, yg, stg, ng⟩ => ?_
      refine wpAny_mono (pg.run _ sg _ Hg x u _ (Ig.pinned (stat Ig ng) (T.obj _ _ stg)) rg (step x Hg yg)) (fun _ sh ⟨σh, Hh, Ih, hwh, qh⟩ => ?_) errs
      refine wpAny_mono ((pts_nil (X := xX X sc Hc bs cl sc.heap.objs.size fp xe)).run _ sh σh Hh _ Ih qh) (fun b si ⟨Hi, Ii, qi⟩ => ?_) errs
      have fin : ∀ {s' : Shared} {H' : Hp}, Inv (xX X sc Hc bs cl sc.heap.objs.size fp xe) ([] ++ pinsAt fp sg.heap) σh H' s' → Nx H' → ∃ m, m < n ∧ ∃ i H', Inv (xX X sc Hc bs cl sc.heap.objs.size fp xe) [] (wipe σ (own.map (·.2))) H' s' ∧ tn i s'.heap ∧ (∀ b ∈ fp, H' b = none) ∧ V i m H' := fun {s' H'} I' nx => by
        obtain ⟨m', hm, w'⟩ := hNx H' nx
        have pin' : ∀ b ∈ fp, ∀ o, sg.heap.get? b = some o → s'.heap.get? b = some o ∧ H' b = none := fun b hb o e =>
          let z := I'.pin (b, o) (List.mem_append_right _ (List.mem_append_right _ (mem_pinsAt hb e)))
          ⟨z.1, z.2.1⟩
        have hl : (wipe σ (own.map (·.2))).length = σh.length := by rw [← hwh, wipe_length]
        refine ⟨m', hm, i + 1, H', (I'.unpinned (pins := [])).weak hl (fun j v e => ?_), T.keep _ _ _ stg fun b hb o e => (pin' b hb o e).1, fun b hb => ?_, w'⟩
        · rw [← hwh] at e
          exact (wipe_some e).1
        · obtain ⟨o, e, _⟩ := T.obj _ _ stg b hb
          exact (pin' b hb o e).2
      cases b with
      | false =>
        simp only [Bool.false_eq_true, if_false] at qi ⊢
        exact fin Ii qi
      | true =>
        simp only [if_true] at qi ⊢
        refine wpAny_mono (pe.run _ si σh Hi _ Ii qi) (fun z sj ⟨yv, Hj, Ij, rj, acc, hMj, hzj, nx⟩ => ?_) errs
        exact app_ok (X := xX X sc Hc bs cl sc.heap.objs.size fp xe) Ij hMj hzj rj fun sk Ik => fin Ik nx
  exact codeAny_compStart_list loop (T.self X.A 0 _ _ _ std loop)
end
end FS
set_option maxHeartbeats 2000000
namespace FS
open PySem PySem.Spec PyProof.Rows L2 LamX
section
variable {X : Cx} {pins : List (Addr × Obj)} {σ : L2.St} {H : Hp} {s : Shared}
variable {HZ : Hp} {s1 : Shared}
end
end FS
namespace FS.InsEq
open PySem PySem.Spec PyProof.Rows PySem.SeqAt
section
variable {M : Model} {prog : Program} {w : World} {A : Around} {E : Value → Shared → Prop} {s : Shared} {K : PySem.W.Frag} {x C : Addr} {ox : Obj} {od : Option Obj} {z : Str} {t : Tok}
theorem isSame_str {R : Bool → Shared → Prop} (h : R false s) : wpAny M A (isSame (.ref x) (.str z t)) R E s := wpAny_of_eq (rfl : isSame (.ref x) (.str z t) = pure false) h
theorem entry_obj {Q : Fin → Shared → Prop} (hq : Q (.done (.ret .notImplemented)) s) : wpAny M A (Builtin.«object.__eq__» ⟨[.ref x, .str z t], []⟩) Q E s := by
  unfold Builtin.«object.__eq__»
  repeat (first | with_reducible refine isSame_str ?_ | wp_step)
  exact hq
theorem entry_str {dx : Addr} : Meets (Builtin.«str.__eq__» ⟨[.str z t, .ref x], []⟩) (fun _ R s => s.heap.get? x = some (PySem.W.instObj C dx) ∧ R (.ok (.ret .notImplemented)) s) :=
  .of_wp fun prog w A R s h => by obtain ⟨hp, g, d, tk, os⟩ := s; obtain ⟨hl, h⟩ := h; wp_walk using AutoSeq1.wpAny_loadPart' hl; exact ⟨_, rfl, h⟩
theorem call_objEq {Q : Value → Shared → Prop} (X : K.In s.heap) (I : PySem.W.InstAt s.heap x ox C od) (hm : PySem.W.mroIn K C (.type "object") = some true) (hq : Q .notImplemented s) :
    wpAny (model prog w) A (call (.builtin "object.__eq__") [.ref x, .str z t]) Q E s :=
  wpAny_call (codeAny_call_builtin F.cmp_object.eq.plain F.cmpEntry_eq (PySem.W.check_slot F.cmpKind_eq F.cmpSplit_eq (I.type.andThen (PySem.W.looks_mroIn X hm)) (F.cmpArgs_eq _ _) (entry_obj hq)))
theorem sub_str : PySem.W.subIn K (.type "str") (.ref C) = some false := by
  have e : fastBuiltinMro "str" = some [.type "str", .type "object"] := by decide +kernel
  show (fastBuiltinMro "str").map (·.contains (.ref C)) = some false
  rw [e]
  first
    | rfl
    | simp
theorem rc_str {dx : Addr} (hu : A.units < cLine) (X : K.In s.heap) (I : PySem.W.InstAt s.heap x (PySem.W.instObj C dx) C od) (hm : PySem.W.mroIn K C (.type "object") = some true) (hs : PySem.W.findIn K (.ref C) "__eq__" = some (some (.builtin "object.__eq__"))) :
    RcAt A s (.ref x) (.str z t) false := fun prog w E Q h => by
  have one : wpAny (model prog w) A (tryCompare (.ref x) "__eq__" (.str z t)) (fun r s' => r = none ∧ s' = s) E s := by
    unfold tryCompare
    exact wpAny_bind (HN.ifBound_objEq X I hs (call_objEq X I hm (wpAny_pure ⟨rfl, rfl⟩)))
  have two : wpAny (model prog w) A (tryCompare (.str z t) "__eq__" (.ref x)) (fun r s' => r = none ∧ s' = s) E s :=
    wpAny_tryCompare_declines (typeIs_str s z t) F.slot_str_eq_refl (call_meets F.slot_str_eq_refl (typeIs_str s z t) F.entry_str_eq (F.args_str_eq_2 _ _) entry_str ⟨I.at_, rfl, rfl, rfl⟩)
  simp only [richCompare, cmpInfo_Eq, oneThing_ref]
  refine wpAny_holding (wpAny_bind (wpAny_cRoomFor hu ?_))
  refine wpAny_bind (I.type.here ?_)
  refine wpAny_bind (wpAny_typeOf (typeIs_str s z t) ?_)
  split
  · refine wpAny_bind ((PySem.W.looks_subIn X sub_str).here ?_)
    simp only [Bool.false_eq_true, if_false, Bool.not_false, if_true]
    refine wpAny_bind (m := tryCompare (.ref x) _ (.str z t)) (wpAny_mono one (fun r s1 q => ?_) fun _ _ e => e)
    obtain ⟨z1, z2⟩ := q
    subst z1
    subst z2
    refine wpAny_bind (m := tryCompare (.str z t) _ (.ref x)) (wpAny_mono two (fun r s2 q => ?_) fun _ _ e => e)
    obtain ⟨z1, z2⟩ := q
    subst z1
    subst z2
    exact wpAny_bind (wpAny_rule (wpAny_bind (isSame_str (wpAny_pure h))))
  · rename_i q
    exact absurd (by simp) q
end
end FS.InsEq
namespace FS
open PySem PySem.Spec PyProof.Rows L2
def rEqIS (K : PySem.W.Frag) : R2 := fun x y H Q => ∃ a C dx fs z, x = .ref a ∧ y = .str z ∧ H a = some (.ins C dx fs) ∧ PySem.W.mroIn K C (.type "object") = some true ∧ PySem.W.findIn K (.ref C) "__eq__" = some (some (.builtin "object.__eq__")) ∧ Q (.bl false) H
theorem op_eqIS {X : Cx} (hu : X.A.units + 64 < cLine) : OpR X (compareOp .Eq) (rEqIS X.K) := by
  intro pins s σ H x y v u Q I rx ry h
  obtain ⟨a, C, dx, fs, z, rfl, rfl, ha, hm, hs, q⟩ := h
  cases rx
  obtain ⟨t, rfl⟩ := ry
  obtain ⟨mA, O, _⟩ := ins_get I.hok ha
  obtain ⟨od, J, _⟩ := O.look
  show wpAny (model X.prog X.w) X.A (richCompare .Eq _ _) (EP X pins σ Q) X.xe s
  exact InsEq.rc_str (by omega) I.kIn J hm hs X.prog X.w X.xe _ ⟨.bl false, H, I, rfl, q⟩
/-- == of scalars, or of an instance and a text -/
def rEqM (K : PySem.W.Frag) : R2 := fun x y H Q => rEq x y H Q ∨ rEqIS K x y H Q
theorem op_eqM {X : Cx} (hu : X.A.units + 64 < cLine) : OpR X (compareOp .Eq) (rEqM X.K) := fun pins s σ H x y v u Q I rx ry h => by
  rcases h with h | h
  · exact op_eq pins s σ H x y v u Q I rx ry h
  · exact op_eqIS hu pins s σ H x y v u Q I rx ry h
end FS
set_option maxHeartbeats 400000
namespace FS
open PySem PySem.Spec PyProof.Rows L2
/-- one step of a reading -/
local macro_rules | `(tactic| walk_at "rd") => `(tactic| first
  | ((with_reducible refine r_var (v := ?v) ?h ?_); (case h => rfl))
  | (with_reducible refine r_c ?_)
  | (with_reducible refine r_op ?_)
  | (with_reducible refine r_cons ?_)
  | (with_reducible refine r_nil ?_)
  | (with_reducible refine r_I0 ?_)
  | (with_reducible refine r_test ?_)
  | (with_reducible refine r_bl ?_)
  | (with_reducible refine r_tB ?_)
  | (with_reducible refine r_chain ?_)
  | (with_reducible refine iteT ?_)
  | (with_reducible refine iteF ?_)
  | (with_reducible refine r_nf ?_)
  | (with_reducible refine r_nt ?_)
  | (with_reducible refine r_not ?_)
  | (with_reducible refine r_and ?_)
  | (with_reducible refine r_or ?_)
  | (with_reducible refine r_notV ?_)
  | (with_reducible refine r_andV ?_)
  | (with_reducible refine r_orV ?_)
  | (with_reducible refine r_ifE ?_)
  | (with_reducible refine r_seq ?_)
  | (with_reducible refine r_asg ?_)
  | (with_reducible refine r_gN ?_)
  | (with_reducible refine r_ifS ?_)
  | (with_reducible refine r_ret ?_)
  | (with_reducible refine r_drop ?_)
  | (with_reducible refine r_retN ?_)
  | (with_reducible refine r_next ?_)
  | (with_reducible refine r_cb ?_)
  | (with_reducible refine r_call ?_)
  | (with_reducible refine r_lst ?_)
  | (with_reducible refine r_tup ?_)
  | (with_reducible refine r_fld ?_)
  | (with_reducible refine r_gsub ?_)
  | (with_reducible refine r_make ?_)
  | (with_reducible refine r_sl ?_)
  | (with_reducible refine r_part ?_)
  | (with_reducible refine r_nopart ?_)
  | (with_reducible refine r_isInt ?_)
  | (with_reducible refine r_tm ?_)
  | (with_reducible refine r_bm ?_)
  | (with_reducible refine r_int1 ?_)
  | (with_reducible refine r_intB ?_)
  | (dsimp only))
section
variable {P : Program} {w : World} {K : PySem.W.Frag} {mg : Str → Option Value} {base : Heap}
theorem Fd.mk' {x : Str} {CX : CXT} {st : Stmt} {f : Addr} {fd : FuncData} {k : Nat} {ps : List Str} {sp : Sp} (F : Fun K x x st f fd) (hm : mg x = some (.ref f)) (b : Binds K fd ps []) (ok : FnOk P w K mg base CX k f fd ps sp) : Fd CX P w K mg base x k sp := ⟨f, fd, ps, hm, F.kp, ok, b⟩

/-- the kinds of values, by the names of their types -/
def Kd (K : PySem.W.Frag) (H : Hp) (v : V) (n : String) : Prop := n ∈ ["NoneType", "bool", "int", "str", "tuple", "list"] ∧ TyX K H v (.type n)
theorem kit_in {n m : String} (h : n ∈ ["NoneType", "bool", "int", "str", "tuple", "list"]) (hm : m ∈ ["bool", "int", "str", "tuple", "list"]) : kitB n m = some (n == m || (n == "bool" && m == "int")) := by
  have key : ∀ n ∈ ["NoneType", "bool", "int", "str", "tuple", "list"], ∀ m ∈ ["bool", "int", "str", "tuple", "list"], kitB n m = some (n == m || (n == "bool" && m == "int")) := by decide +kernel
  exact key n h m hm
theorem r_isi {K : PySem.W.Frag} {H : Hp} {Q : VK} {v : V} {n m : String} (h : Kd K H v n) (hm : m ∈ ["bool", "int", "str", "tuple", "list"]) (q : Q (.bl (n == m || (n == "bool" && m == "int"))) H) : rIsi K [v, .ty m] H Q :=
  ⟨v, .ty m, .type n, .type m, _, rfl, .ty m, h.2, kit_ty (kit_in h.1 hm), q⟩
def spTaken (K : PySem.W.Frag) (G : List Addr) (L : List (Addr × Str)) : Sp := fun vs H Q _ => ∃ (ρ : Rid) (m : Int), vs = [.ref ρ.r, .int m] ∧ Row K H ρ ∧ 0 < m ∧ m < 1000000 ∧
  ∀ (v : Int) (H' : Hp), 0 ≤ v → v < m → GoR G L ρ.r H H' → Row K H' ρ → Q (.int v) H'
theorem Row.mk' {K : PySem.W.Frag} {H H' : Hp} {r a : Addr} {ns : List Int} {i s l : Int} (sc : Scr K H r a ns) (hn : ns.length ≤ 63) (e : Ev r H H') (h : H' r = some (.lst [.ref a, .int i, .int s, .int l])) (hi : 0 ≤ i) : Row K H' ⟨r, a, ns⟩ :=
  ⟨i, s, l, fun H2 e2 => sc H2 (e.trans e2), hn, h, hi⟩
theorem at_ints {ns : List Int} {i : Int} (h0 : 0 ≤ i) (h1 : i < ns.length) : ∃ z, atI (ns.map V.int) i = some (.int z) := by
  obtain ⟨j, rfl⟩ := Int.eq_ofNat_of_zero_le h0
  have hj : j < ns.length := by omega
  exact ⟨ns[j], atI_nat (by rw [List.getElem?_map, List.getElem?_eq_getElem hj]; rfl)⟩
end
def tyOf : PyData → String
  | .none => "NoneType" | .bool _ => "bool" | .int _ => "int" | .str _ => "str" | .list _ => "list" | .tuple _ => "tuple" | .dict _ => "dict"
theorem Dp.kd {K : PySem.W.Frag} {H : Hp} {v : V} {d : PyData} (h : Dp K H v d) : Kd K H v (tyOf d) := by
  cases h with
  | non => exact ⟨by simp [tyOf], .base .non⟩
  | bl b => exact ⟨by simp [tyOf], .base (.bl b)⟩
  | int i => exact ⟨by simp [tyOf], .base (.int i)⟩
  | str x => exact ⟨by simp [tyOf], .base (.str x)⟩
  | lst h _ =>
    refine ⟨by simp [tyOf], ?_⟩
    rcases h with (h | ⟨o, h⟩) | ⟨o, its, n, h, hc, _⟩
    · exact .base (.lst h)
    · exact .base (.frz h)
    · exact .kList h hc
  | tup h _ =>
    refine ⟨by simp [tyOf], ?_⟩
    rcases h with (h | ⟨o, h⟩) | ⟨o, its, n, h, hc, _⟩
    · exact .base (.tup h)
    · exact .fTuple h
    · exact .kTuple h hc
def smallS : PyData → Prop
  | .str z => z.length ≤ sizeLine
  | _ => True
theorem c_lenS {X : Cx} : CallR X (.builtin "len") cLenS := call_len_str
theorem r_lenS {H : Hp} {Q : VK} {z : Str} (h : z.length ≤ sizeLine) (q : Q (.int z.length) H) : cLenS [.str z] H Q := ⟨z, rfl, h, q⟩
section
variable {P : Program} {w : World} {K : PySem.W.Frag} {mg : Str → Option Value} {base : Heap} {G : List Addr} {L : List (Addr × Str)}
def spIsName (K : PySem.W.Frag) (G : List Addr) (L : List (Addr × Str)) : Sp := fun vs H Q _ => ∃ v d, vs = [v] ∧ Dp K H v d ∧ smallS d ∧ TBS G L H ∧ ∀ H', Go G L H H' → Q (.bl (nameOk d)) H'
theorem scIsName : FnScope ["value"] ["value"] (defScope sIsName) := C8.fnScope_by (by decide +kernel)
theorem ok_isName {f c Pn : Addr} {fd : FuncData} {tz t8 : Tok} (F : Fun K "is_name" "is_name" sIsName f fd) (hc : fd.code = .ref c) (TB : GxR.TabB base mg c Pn) (hP : Pn ∈ G) (AP : Apart G L) (zI : mg "isinstance" = none) (z1 : mg "str" = none) (zL : mg "len" = none) (zA : mg "all" = none)
    (gL : mg "LETTERS" = some (.str letters tz)) (g8 : mg "MOST_LETTERS" = some (.int 8 t8)) : FnOk P w K mg base CX0 1 f fd ["value"] (spIsName K G L) := by
  obtain ⟨oc, od, kV, doc, pm, an, cdv, ct, osl, efd, lk, hcd⟩ := F.ex
  subst efd
  have ec : cdv = .ref c := hc
  subst ec
  refine fn_of lk hcd scIsName (fun vs H Q E h => ?_) (fun A outer s H vs Q E hr h => ?_)
  · obtain ⟨v, d, e, _⟩ := h
    rw [e]
    rfl
  · obtain ⟨v, d, e, hd, hs, ht, q⟩ := h
    subst e
    refine ⟨_, PSs.nox (pss_cons (ps_if (PW.pt (pw_or (pt_not (pt_val (pe_callB call_isi rfl zI boot_isinstance (pa_cons (pv 0) (pa_cons (pe_bltn (v := .ty "str") rfl z1 boot_str rfl) pa_nil)))))
        (pw_or1 (pt_not (pt_chain op_le op_le pe_int (pe_callB c_lenS rfl zL boot_len (pa_cons (pv 0) pa_nil)) (pe_glob (v := .int 8) rfl g8 ⟨_, rfl⟩))))))
        (pss_one (ps_ret pe_bl)) pss_nil)
      (pss_one (ps_ret (pe_allG (c := c) (P := Pn) (pb := fun c => decide (c ∈ letters.cps.toList)) hr rfl zA (by decide +kernel) TB rfl ⟨rfl, rfl, by decide +kernel, rfl, rfl, fun y hy e => absurd e (by revert y; decide +kernel)⟩ (pv 0) (eltG_in rfl rfl rfl gL) (fun _ => rfl))))), ?_⟩
    repeat walk_at "rd"
    refine r_isi (m := "str") (Dp.kd hd) (by decide) ?_
    repeat walk_at "rd"
    by_cases hz : ∃ z, d = .str z
    · obtain ⟨z, rfl⟩ := hz
      cases hd
      refine r_if (fun cc => absurd cc (by simp [tyOf])) (fun _ => ?_)
      repeat walk_at "rd"
      refine r_lenS hs ?_
      repeat walk_at "rd"
      refine r_if (fun c1 => ?_) (fun c1 => ?_)
      · repeat walk_at "rd"
        refine r_if (fun c2 => ?_) (fun c2 => ?_)
        · repeat walk_at "rd"
          have e : nameOk (.str z) = false := by
            have c3 : decide ((z.length : Int) ≤ 8) = false := by simpa using c2
            show (decide (1 ≤ (z.length : Int)) && decide ((z.length : Int) ≤ 8) && _) = false
            rw [c3]
            simp
          have q0 := q H (Go.refl H)
          rw [e] at q0
          exact q0
        · repeat walk_at "rd"
          refine r_var (v := .str z) rfl ⟨z, rfl, ht.1 Pn hP, fun H2 hT => ?_⟩
          have e : nameOk (.str z) = z.cps.toList.all fun c => decide (c ∈ letters.cps.toList) := by
            have c3 : decide ((z.length : Int) ≤ 8) = true := by simpa using c2
            show (decide (1 ≤ (z.length : Int)) && decide ((z.length : Int) ≤ 8) && _) = _
            rw [c3, c1]
            rfl
          have q0 := q H2 (Go.tabbed AP hP ht hT)
          rw [e] at q0
          exact q0
      · repeat walk_at "rd"
        have e : nameOk (.str z) = false := by
          show (decide (1 ≤ (z.length : Int)) && decide ((z.length : Int) ≤ 8) && _) = false
          rw [c1]
          rfl
        have q0 := q H (Go.refl H)
        rw [e] at q0
        exact q0
    · have e1 : (!(tyOf d == "str" || tyOf d == "bool" && "str" == "int")) = true := by
        cases d <;> first | rfl | exact absurd ⟨_, rfl⟩ hz
      have e2 : nameOk d = false := by
        cases d <;> first | rfl | exact absurd ⟨_, rfl⟩ hz
      rw [if_pos e1]
      repeat walk_at "rd"
      have q0 := q H (Go.refl H)
      rw [e2] at q0
      exact q0
end
theorem r_inT {K : PySem.W.Frag} {H : Hp} {Q : VK} {x y : V} {d : PyData} {ds : List PyData} (h1 : Dp K H x d) (h2 : Dp K H y (.tuple ds)) (s1 : lv 8 d = true) (s2 : lv 8 (.tuple ds) = true) (q : Q (.bl (inD d ds)) H) : rInT K id x y H Q :=
  ⟨d, ds, h1, h2, shaped_of s1, shaped_of s2, q⟩
theorem r_ninT {K : PySem.W.Frag} {H : Hp} {Q : VK} {x y : V} {d : PyData} {ds : List PyData} (h1 : Dp K H x d) (h2 : Dp K H y (.tuple ds)) (s1 : lv 8 d = true) (s2 : lv 8 (.tuple ds) = true) (q : Q (.bl (!inD d ds)) H) : rInT K not x y H Q :=
  ⟨d, ds, h1, h2, shaped_of s1, shaped_of s2, q⟩
theorem lv_mem {n : Nat} {ds : List PyData} (h : lv (n + 1) (.tuple ds) = true) : ∀ d ∈ ds, lv n d = true := by
  have h' : ds.all (lv n) = true := by simpa only [lv] using h
  exact List.all_eq_true.mp h'
theorem lv_tup {n : Nat} {ds : List PyData} (h : ∀ d ∈ ds, lv n d = true) : lv (n + 1) (.tuple ds) = true := by
  have h' : ds.all (lv n) = true := List.all_eq_true.mpr h
  simpa only [lv] using h'
theorem lv_succ : ∀ {n : Nat} {d : PyData}, lv n d = true → lv (n + 1) d = true
  | _, .none, _ => by simp [lv]
  | _, .bool _, _ => by simp [lv]
  | _, .int _, _ => by simp [lv]
  | n, .str z, h => by cases n <;> simpa [lv] using h
  | n + 1, .tuple ds, h => lv_tup fun d hd => lv_succ (lv_mem h d hd)
  | n + 1, .list ds, h => by
    have h' : ds.all (lv n) = true := by simpa only [lv] using h
    have g : ds.all (lv (n + 1)) = true := List.all_eq_true.mpr fun d hd => lv_succ (List.all_eq_true.mp h' d hd)
    simpa only [lv] using g
  | 0, .tuple ds, h => by simp [lv] at h
  | 0, .list ds, h => by simp [lv] at h
  | 0, .dict ds, h => by simp [lv] at h
  | n + 1, .dict ds, h => by simp [lv] at h
section
variable {P : Program} {w : World} {K : PySem.W.Frag} {mg : Str → Option Value} {base : Heap} {G : List Addr} {L : List (Addr × Str)}
theorem three_of {K : PySem.W.Frag} {H : Hp} : ∀ {xs : List V} {ds : List PyData}, DpAll K H xs ds → xs.length = 3 → ∃ x y z dx dy dz, xs = [x, y, z] ∧ ds = [dx, dy, dz] ∧ Dp K H x dx ∧ Dp K H y dy ∧ Dp K H z dz
  | [x, y, z], _, .cons hx (.cons hy (.cons hz .nil)), _ => ⟨x, y, z, _, _, _, rfl, rfl, hx, hy, hz⟩
theorem u65 {k : Nat} {A : Around} (r : Room k A) : A.units + 65 < cLine := by
  have z := r.un
  omega
def spIsClause (K : PySem.W.Frag) : Sp := fun vs H Q _ => ∃ nv v nd d, vs = [nv, v] ∧ Dp K H nv (.tuple nd) ∧ Dp K H v d ∧ lv 8 (.tuple nd) = true ∧ lv 7 d = true ∧ Q (.bl (clauseOk nd d)) H
theorem scIsClause : FnScope ["names", "value"] ["names", "value"] (defScope sIsClause) := C8.fnScope_by (by decide +kernel)
theorem ok_isClause {f aW : Addr} {fd : FuncData} (F : Fun K "is_clause" "is_clause" sIsClause f fd) (zI : mg "isinstance" = none) (z1 : mg "tuple" = none) (zL : mg "len" = none)
    (gW : mg "WORDS" = some (.ref aW)) (hW : ∀ H, SqT K H aW [.str "needs", .str "excludes", .str "either"]) : FnOk P w K mg base CX0 1 f fd ["names", "value"] (spIsClause K) := by
  refine F.ok scIsClause (fun vs H Q E h => ?_) (fun cdv A outer s H vs Q E hr h => ?_)
  · obtain ⟨nv, v, nd, d, e, _⟩ := h
    rw [e]
    rfl
  · obtain ⟨nv, v, nd, d, e, hn, hd, l1, l2, q⟩ := h
    subst e
    have hu := u65 hr
    refine ⟨_, pss_cons (ps_if (PW.pt (pw_or (pt_not (pt_val (pe_callB call_isi rfl zI boot_isinstance (pa_cons (pv 1) (pa_cons (pe_bltn (v := .ty "tuple") rfl z1 boot_tuple rfl) pa_nil)))))
        (pw_or1 (pt_cmpR op_ne (pe_callB c_len rfl zL boot_len (pa_cons (pv 1) pa_nil)) pe_int (nomark _)))))
        (pss_one (ps_ret pe_bl)) pss_nil)
      (pss_one (ps_ret (pe_and (pe_cmpR (op_inT hu) (pe_ix ix_tup (pv 1) pe_int (fun _ _ => rfl)) (pe_glob (v := .ref aW) rfl gW rfl) rfl)
        (pe_and (pe_cmpR (op_inT hu) (pe_ix ix_tup (pv 1) pe_int (fun _ _ => rfl)) (pv 0) rfl)
        (pe_one (pe_cmpR (op_inT hu) (pe_ix ix_tup (pv 1) pe_int (fun _ _ => rfl)) (pv 0) rfl)))))), ?_⟩
    repeat walk_at "rd"
    refine r_isi (m := "tuple") (Dp.kd hd) (by decide) ?_
    repeat walk_at "rd"
    by_cases hz : ∃ ds, d = .tuple ds
    · obtain ⟨ds, rfl⟩ := hz
      cases hd with
      | @tup a xs _ ha hxs =>
        refine r_if (fun cc => absurd cc (by simp [tyOf])) (fun _ => ?_)
        repeat walk_at "rd"
        refine r_lenT ha ?_
        repeat walk_at "rd"
        refine r_ne rfl ?_
        repeat walk_at "rd"
        have hlen := Dps.length hxs
        refine r_if (fun c1 => ?_) (fun c1 => ?_)
        · repeat walk_at "rd"
          have e : clauseOk nd (.tuple ds) = false := by
            have n3 : ds.length ≠ 3 := fun z => by
              rw [← hlen] at z
              rw [z] at c1
              exact absurd c1 (by decide)
            match ds, n3 with
            | [], _ => rfl
            | [_], _ => rfl
            | [_, _], _ => rfl
            | [_, _, _], h => exact absurd rfl h
            | _ :: _ :: _ :: _ :: _, _ => rfl
          rw [e] at q
          exact q
        · have n3 : xs.length = 3 := by
            have z : decide (V.int (xs.length : Int) = V.int 3) = true := by simpa using c1
            have z2 := V.int.inj (of_decide_eq_true z)
            omega
          obtain ⟨x, y, z, dx, dy, dz, e1, e2, hx, hy, hzz⟩ := three_of hxs n3
          subst e1 e2
          · have m := lv_mem l2
            repeat walk_at "rd"
            refine r_ixT ha (v := x) rfl ?_
            repeat walk_at "rd"
            refine r_inT (ds := wordsD) hx (.tup (hW _) (.cons (.str _) (.cons (.str _) (.cons (.str _) .nil)))) (lv_succ (lv_succ (m dx (by simp)))) (by decide +kernel) ?_
            repeat walk_at "rd"
            have e : clauseOk nd (.tuple [dx, dy, dz]) = (inD dx wordsD && inD dy nd && inD dz nd) := rfl
            rw [e] at q
            refine r_if (fun c2 => ?_) (fun c2 => ?_)
            · repeat walk_at "rd"
              refine r_ixT ha (v := y) rfl ?_
              repeat walk_at "rd"
              refine r_inT hy hn (lv_succ (lv_succ (m dy (by simp)))) l1 ?_
              repeat walk_at "rd"
              refine r_if (fun c3 => ?_) (fun c3 => ?_)
              · repeat walk_at "rd"
                refine r_ixT ha (v := z) rfl ?_
                repeat walk_at "rd"
                refine r_inT hzz hn (lv_succ (lv_succ (m dz (by simp)))) l1 ?_
                rw [c2, c3] at q
                exact q
              · rw [c2, c3] at q
                exact q
            · rw [c2] at q
              exact q
    · have e1 : (!(tyOf d == "tuple" || tyOf d == "bool" && "tuple" == "int")) = true := by
        cases d <;> first | rfl | exact absurd ⟨_, rfl⟩ hz
      have e2 : clauseOk nd d = false := by
        cases d <;> first | rfl | exact absurd ⟨_, rfl⟩ hz
      rw [if_pos e1]
      repeat walk_at "rd"
      rw [e2] at q
      exact q
end
theorem num_small : ∀ i : Nat, i ≤ 99 → (Str.ofString (toString ((i : Nat) : Int))).length ≤ 20 ∧ ((i : Nat) : Int).natAbs.log2 < 1920 := by
  intro i hi
  have key : ∀ i : Fin 100, (Str.ofString (toString ((i.val : Nat) : Int))).length ≤ 20 ∧ ((i.val : Nat) : Int).natAbs.log2 < 1920 := by decide +kernel
  exact key ⟨i, by omega⟩
theorem len_app (a b : Str) : (a ++ b).length = a.length + b.length := by
  show (a.cps ++ b.cps).size = _
  exact Array.size_append
theorem j_nil {σ : L2.St} {H : Hp} {acc : Str} {Q : Str → Hp → Prop} (q : Q acc H) : tJs [] acc σ H Q := q
theorem j_str {σ : L2.St} {H : Hp} {acc x : Str} {ts : List TE} {Q : Str → Hp → Prop} (h : (acc ++ x).length ≤ sizeLine) (q : tJs ts (acc ++ x) σ H Q) : tJs (tC (.str x) :: ts) acc σ H Q := ⟨x, rfl, h, q⟩
theorem j_fmtS {σ : L2.St} {H : Hp} {i : Nat} {acc x : Str} {ts : List TE} {Q : Str → Hp → Prop} (hv : σ[i]? = some (some (.str x))) (h1 : x.length ≤ sizeLine) (h : (acc ++ x).length ≤ sizeLine) (q : tJs ts (acc ++ x) σ H Q) : tJs (tFmt (tVar i) :: ts) acc σ H Q :=
  ⟨.str x, hv, .inl ⟨x, rfl, h1, x, rfl, h, q⟩⟩
theorem j_fmtI {σ : L2.St} {H : Hp} {i k : Nat} {acc : Str} {ts : List TE} {Q : Str → Hp → Prop} (hv : σ[i]? = some (some (.int (k : Nat)))) (hk : k ≤ 99) (ha : acc.length ≤ 1000) (q : ∀ out : Str, out.length ≤ 2000 → tJs ts out σ H Q) : tJs (tFmt (tVar i) :: ts) acc σ H Q := by
  obtain ⟨h1, h2⟩ := num_small k hk
  have h3 : (acc ++ Str.ofString (toString ((k : Nat) : Int))).length ≤ 2000 := by rw [len_app]; omega
  exact ⟨.int (k : Nat), hv, .inr ⟨_, rfl, h2, _, rfl, Nat.le_trans h3 (by decide), q _ h3⟩⟩
theorem r_ostV {K : PySem.W.Frag} {f : Str} {D : Ends} {σ : L2.St} {H : Hp} {i j : Nat} {y : V} {a C : Addr} (hy : σ[j]? = some (some y)) (hx : σ[i]? = some (some (.ref a))) (T : OexC K C) (n : PySem.W.findIn K (.ref C) f = some none)
    (q : (H a = some (exo a C none) ∧ ∀ dx, H dx = none → dx ≠ a → D.nx σ (upd (upd H dx (exd dx [(f, y)])) a (exo a C (some dx)))) ∨
      ∃ (dx : Addr) (fs : List (Str × V)), H a = some (exo a C (some dx)) ∧ H dx = some (exd dx fs) ∧ fs.length ≤ 900 ∧ D.nx σ (upd H dx (exd dx ((f, y) :: fs)))) : tOst K f (tVar i) (tVar j) D σ H :=
  ⟨y, hy, .ref a, hx, a, C, rfl, T, n, q⟩
section
variable {P : Program} {w : World} {K : PySem.W.Frag} {mg : Str → Option Value} {base : Heap} {G : List Addr} {L : List (Addr × Str)}
theorem scIR : FnScope ["self", "part", "index"] ["self", "part", "index"] (defScope (sErr iIR)) := C8.fnScope_by (by decide +kernel)
theorem scIS : FnScope ["self", "index"] ["self", "index"] (defScope (sErr iIS)) := C8.fnScope_by (by decide +kernel)
/-- StepError: its __init__ is ValueError's -/
structure BaseC (K : PySem.W.Frag) (mg : Str → Option Value) (S : Addr) : Prop where
  g : mg "StepError" = some (.ref S)
  rd : ClX.CRead K S (.type "type")
  fv : PySem.W.findCls K (.ref S) (.type "type") "__init__" = some (.val (.builtin "ValueError.__init__"))
theorem scIlS : FnScope ["self", "index"] ["self", "index"] (defScope (sErr iIlS)) := C8.fnScope_by (by decide +kernel)
def spIR (K : PySem.W.Frag) (C : Addr) : Sp := fun vs H Q _ => ∃ a p, ∃ i : Nat, vs = [.ref a, .str p, .int (i : Nat)] ∧ H a = some (exo a C none) ∧ p.length ≤ 100 ∧ i ≤ 99 ∧
  ∀ d, H d = none → d ≠ a → Q .non (upd (upd (upd H d (exd d [("part", .str p)])) a (exo a C (some d))) d (exd d [("index", .int (i : Nat)), ("part", .str p)]))
theorem ok_IR {f C S : Addr} {fd : FuncData} (F : Fun K "__init__" "InvalidRules.__init__" (sErr iIR) f fd) (B : BaseC K mg S) (T : OexC K C) (n1 : PySem.W.findIn K (.ref C) "part" = some none) (n2 : PySem.W.findIn K (.ref C) "index" = some none) : FnOk P w K mg base CX0 1 f fd ["self", "part", "index"] (spIR K C) := by
  refine F.ok scIR (fun vs H Q E h => ?_) (fun cdv A outer s H vs Q E hr h => ?_)
  · obtain ⟨a, p, i, e, _⟩ := h
    rw [e]
    rfl
  · obtain ⟨a, p, i, e, ha, hp, hi, q⟩ := h
    subst e
    refine ⟨_, pss_cons (ps_expr (pe_baseinit rfl B.g B.rd B.fv (pa_cons (pv 0) (pa_cons (pe_joined (.cons pe_str (.cons (pe_fmt (pv 1)) (.cons pe_str (.cons (pe_fmt (pv 2)) .nil))))) pa_nil))))
      (pss_cons (ps_ost (pv 0) (pv 1)) (pss_one (ps_ost (pv 0) (pv 2)))), ?_⟩
    refine r_seq (r_drop (r_cons (r_var (v := .ref a) rfl (r_cons ?_))))
    refine j_str (by decide) (j_fmtS (x := p) rfl (Nat.le_trans hp (by decide)) ?_ (j_str ?_ (j_fmtI (k := i) rfl hi ?_ fun out ho => ?_)))
    · rw [len_app]
      exact Nat.le_trans (Nat.add_le_add (Nat.le_of_eq rfl) hp) (by decide)
    · rw [len_app, len_app]
      exact Nat.le_trans (Nat.add_le_add (Nat.add_le_add (Nat.le_of_eq rfl) hp) (Nat.le_of_eq rfl)) (by decide)
    · rw [len_app, len_app]
      exact Nat.le_trans (Nat.add_le_add (Nat.add_le_add (Nat.le_of_eq rfl) hp) (Nat.le_of_eq rfl)) (by decide)
    · refine j_nil (r_nil ?_)
      refine ⟨a, C, [.str out], rfl, (by show 1 ≤ 1000; decide), T, ha, ?_⟩
      repeat walk_at "rd"
      refine r_ostV (y := .str p) (a := a) rfl rfl T n1 (.inl ⟨ha, fun d hd hne => ?_⟩)
      exact r_ostV (y := .int (i : Nat)) (a := a) rfl rfl T n2 (.inr ⟨d, _, upd_same, by rw [upd_ne hne, upd_same], (by show 1 ≤ 900; decide), q d hd hne⟩)
def spIS (K : PySem.W.Frag) (C : Addr) : Sp := fun vs H Q _ => ∃ a, ∃ i : Nat, vs = [.ref a, .int (i : Nat)] ∧ H a = some (exo a C none) ∧ i ≤ 99 ∧
  ∀ d, H d = none → d ≠ a → Q .non (upd (upd H d (exd d [("index", .int (i : Nat))])) a (exo a C (some d)))
theorem ok_IS {f C S : Addr} {fd : FuncData} (F : Fun K "__init__" "InvalidState.__init__" (sErr iIS) f fd) (B : BaseC K mg S) (T : OexC K C) (n2 : PySem.W.findIn K (.ref C) "index" = some none) : FnOk P w K mg base CX0 1 f fd ["self", "index"] (spIS K C) := by
  refine F.ok scIS (fun vs H Q E h => ?_) (fun cdv A outer s H vs Q E hr h => ?_)
  · obtain ⟨a, i, e, _⟩ := h
    rw [e]
    rfl
  · obtain ⟨a, i, e, ha, hi, q⟩ := h
    subst e
    refine ⟨_, pss_cons (ps_expr (pe_baseinit rfl B.g B.rd B.fv (pa_cons (pv 0) (pa_cons (pe_joined (.cons pe_str (.cons (pe_fmt (pv 1)) .nil))) pa_nil))))
      (pss_one (ps_ost (pv 0) (pv 1))), ?_⟩
    refine r_seq (r_drop (r_cons (r_var (v := .ref a) rfl (r_cons ?_))))
    refine j_str (by decide) (j_fmtI (k := i) rfl hi (by decide) fun out ho => ?_)
    refine j_nil (r_nil ?_)
    refine ⟨a, C, [.str out], rfl, (by show 1 ≤ 1000; decide), T, ha, ?_⟩
    repeat walk_at "rd"
    exact r_ostV (y := .int (i : Nat)) (a := a) rfl rfl T n2 (.inl ⟨ha, fun d hd hne => q d hd hne⟩)
theorem ok_IlS {f C S : Addr} {fd : FuncData} (F : Fun K "__init__" "IllegalState.__init__" (sErr iIlS) f fd) (B : BaseC K mg S) (T : OexC K C) (n2 : PySem.W.findIn K (.ref C) "index" = some none) : FnOk P w K mg base CX0 1 f fd ["self", "index"] (spIS K C) := by
  refine F.ok scIlS (fun vs H Q E h => ?_) (fun cdv A outer s H vs Q E hr h => ?_)
  · obtain ⟨a, i, e, _⟩ := h
    rw [e]
    rfl
  · obtain ⟨a, i, e, ha, hi, q⟩ := h
    subst e
    refine ⟨_, pss_cons (ps_expr (pe_baseinit rfl B.g B.rd B.fv (pa_cons (pv 0) (pa_cons (pe_joined (.cons pe_str (.cons (pe_fmt (pv 1)) .nil))) pa_nil))))
      (pss_one (ps_ost (pv 0) (pv 1))), ?_⟩
    refine r_seq (r_drop (r_cons (r_var (v := .ref a) rfl (r_cons ?_))))
    refine j_str (by decide) (j_fmtI (k := i) rfl hi (by decide) fun out ho => ?_)
    refine j_nil (r_nil ?_)
    refine ⟨a, C, [.str out], rfl, (by show 1 ≤ 1000; decide), T, ha, ?_⟩
    repeat walk_at "rd"
    exact r_ostV (y := .int (i : Nat)) (a := a) rfl rfl T n2 (.inl ⟨ha, fun d hd hne => q d hd hne⟩)
end
def Told (K : PySem.W.Frag) (cls : Value) (d : Option Addr) (H : Hp) (D : PyData) : Prop :=
  (∃ a p i, cls = .ref (He.ga K "InvalidRules") ∧ d = some a ∧ H a = some (.xd [("index", .int i), ("part", .str p)]) ∧ D = .tuple [.str "rules", .str p, .int i]) ∨
  (∃ a i, cls = .ref (He.ga K "InvalidState") ∧ d = some a ∧ H a = some (.xd [("index", .int i)]) ∧ D = .tuple [.str "invalid", .int i]) ∨
  (cls = .ref (He.ga K "InvalidClause") ∧ d = none ∧ D = .tuple [.str "clause"]) ∨ (cls = .ref (He.ga K "UnknownClause") ∧ d = none ∧ D = .tuple [.str "noclause"]) ∨
  (cls = .ref (He.ga K "Impossible") ∧ d = none ∧ D = .tuple [.str "impossible"]) ∨
  (∃ a i, cls = .ref (He.ga K "IllegalState") ∧ d = some a ∧ H a = some (.xd [("index", .int i)]) ∧ D = .tuple [.str "illegal", .int i]) ∨
  (∃ a i j, cls = .ref (He.ga K "IllegalStep") ∧ d = some a ∧ H a = some (.xd [("clause", .int j), ("index", .int i)]) ∧ D = .tuple [.str "step", .int i, .int j]) ∨
  (∃ a v e, cls = .ref (He.ga K "UnknownSwitch") ∧ d = some a ∧ H a = some (.xd [("name", v)]) ∧ Im H v e ∧ D = .tuple [.str "switch", e]) ∨
  (∃ a v e, cls = .ref (He.ga K "NoWay") ∧ d = some a ∧ H a = some (.xd [("circle", v)]) ∧ Im H v e ∧ D = .tuple [.str "noway", e])
theorem Told.ill {K : PySem.W.Frag} {H : Hp} {a : Addr} {i : Int} (h : H a = some (.xd [("index", .int i)])) : Told K (.ref (He.ga K "IllegalState")) (some a) H (.tuple [.str "illegal", .int i]) := .inr (.inr (.inr (.inr (.inr (.inl ⟨a, i, rfl, rfl, h, rfl⟩)))))
theorem Told.step {K : PySem.W.Frag} {H : Hp} {a : Addr} {i j : Int} (h : H a = some (.xd [("clause", .int j), ("index", .int i)])) : Told K (.ref (He.ga K "IllegalStep")) (some a) H (.tuple [.str "step", .int i, .int j]) := .inr (.inr (.inr (.inr (.inr (.inr (.inl ⟨a, i, j, rfl, rfl, h, rfl⟩))))))
theorem Told.switch {K : PySem.W.Frag} {H : Hp} {a : Addr} {v : V} {e : PyData} (h : H a = some (.xd [("name", v)])) (i : Im H v e) : Told K (.ref (He.ga K "UnknownSwitch")) (some a) H (.tuple [.str "switch", e]) := .inr (.inr (.inr (.inr (.inr (.inr (.inr (.inl ⟨a, v, e, rfl, rfl, h, i, rfl⟩)))))))
theorem Told.noway {K : PySem.W.Frag} {H : Hp} {a : Addr} {v : V} {e : PyData} (h : H a = some (.xd [("circle", v)])) (i : Im H v e) : Told K (.ref (He.ga K "NoWay")) (some a) H (.tuple [.str "noway", e]) := .inr (.inr (.inr (.inr (.inr (.inr (.inr (.inr ⟨a, v, e, rfl, rfl, h, i, rfl⟩)))))))
section
variable {P : Program} {w : World} {K : PySem.W.Frag} {mg : Str → Option Value} {base : Heap} {G : List Addr} {L : List (Addr × Str)}
/-- an error class with its __init__, which keeps sp -/
structure Err (P : Program) (w : World) (K : PySem.W.Frag) (mg : Str → Option Value) (base : Heap) (x : Str) (sp : Sp) : Prop where
  oex : OexC K (He.ga K x)
  g : mg x = some (.ref (He.ga K x))
  ini : ∃ f fd ps, PySem.W.findIn K (.ref (He.ga K x)) "__init__" = some (some (.ref f)) ∧ PySem.W.typeIn K (.ref f) = some (.type "function") ∧ FnOk P w K mg base CX0 1 f fd ps sp ∧ Binds K fd ps []
theorem pmk_err {X : Cx} {x : Str} {k : Nat} {sp : Sp} {ta : TA} {p pos : Pos} {e : Expr} {es : List Expr} (T : Err X.prog X.w X.K X.mg X.base x sp) (hr : Room k X.A) (ha : PA X (e :: es) ta) (hk : 2 ≤ k := by decide) (hg : Gl X x := by rfl)
    (hdb : (x == ("__debug__" : Str)) = false := by decide) (he : starEach (e :: es) X.env = (false, eval e X.env) :: starEach es X.env := by rfl) (hpl : (backTo pos (starEach es X.env)).any (·.1) = false := by rfl) :
    PMk X (.Call (.Name x p) (e :: es) [] pos) (tMkO (He.ga X.K x) sp [] ta) := by
  obtain ⟨f, fd, ps, h1, h2, F, b⟩ := T.ini
  exact pmk_oex T.oex h1 h2 F (hr.mono hk) b .nil pass0 hg T.g ha hdb he hpl
theorem r_mkIR {σ : L2.St} {H : Hp} {ta : TA} {x : Str} {Q : XK} (h : ta σ H fun vs H1 => ∃ (p : Str) (i : Nat), vs = [.str p, .int (i : Nat)] ∧ p.length ≤ 100 ∧ i ≤ 99 ∧ ∀ d Hx, (∀ b o, H1 b = some o → Hx b = some o) → Hx d = some (.xd [("index", .int (i : Nat)), ("part", .str p)]) → Q (.ref (He.ga K x)) (some d) Hx)
    (hm : ∀ Q1 Q2 : List V → Hp → Prop, (∀ vs H1, Q1 vs H1 → Q2 vs H1) → ta σ H Q1 → ta σ H Q2) : tMkO (He.ga K x) (spIR K (He.ga K x)) [] ta σ H Q := by
  refine hm _ _ ?_ h
  rintro vs H1 ⟨p, i, ev, hp, hi, q⟩
  subst ev
  refine ⟨(by show 2 ≤ 1000; decide), fun a ha => ⟨a, p, i, rfl, upd_same, hp, hi, fun d hd hne => ⟨rfl, d, _, ?_, upd_same, ?_, q d _ ?_ upd_same⟩⟩⟩
  · rw [upd_ne hne.symm, upd_same]
  · rw [upd_ne hne] at hd
    exact hd
  · intro b o e
    have hd' : H1 d = none := by
      rw [upd_ne hne] at hd
      exact hd
    have nd := ne_of_none e hd'
    have na := ne_of_none e ha
    rw [upd_ne nd, del_ne na, upd_ne nd, upd_ne na, upd_ne nd, upd_ne na]
    exact e
theorem r_mkIS {σ : L2.St} {H : Hp} {ta : TA} {x : Str} {Q : XK} (h : ta σ H fun vs H1 => ∃ (i : Nat), vs = [.int (i : Nat)] ∧ i ≤ 99 ∧ ∀ d Hx, (∀ b o, H1 b = some o → Hx b = some o) → Hx d = some (.xd [("index", .int (i : Nat))]) → Q (.ref (He.ga K x)) (some d) Hx)
    (hm : ∀ Q1 Q2 : List V → Hp → Prop, (∀ vs H1, Q1 vs H1 → Q2 vs H1) → ta σ H Q1 → ta σ H Q2) : tMkO (He.ga K x) (spIS K (He.ga K x)) [] ta σ H Q := by
  refine hm _ _ ?_ h
  rintro vs H1 ⟨i, ev, hi, q⟩
  subst ev
  refine ⟨(by show 1 ≤ 1000; decide), fun a ha => ⟨a, i, rfl, upd_same, hi, fun d hd hne => ?_⟩⟩
  have hd' : H1 d = none := by
    rw [upd_ne hne] at hd
    exact hd
  refine ⟨rfl, d, _, upd_same, by rw [upd_ne hne, upd_same], hd', q d _ ?_ upd_same⟩
  intro b o e
  have nd := ne_of_none e hd'
  have na := ne_of_none e ha
  rw [upd_ne nd, del_ne na, upd_ne na, upd_ne nd, upd_ne na]
  exact e
theorem m_cons {te : TE} {ta : TA} {σ : L2.St} (h1 : ∀ (H : Hp) (Q1 Q2 : VK), (∀ v H1, Q1 v H1 → Q2 v H1) → te σ H Q1 → te σ H Q2) (h2 : ∀ (H : Hp) (Q1 Q2 : List V → Hp → Prop), (∀ v H1, Q1 v H1 → Q2 v H1) → ta σ H Q1 → ta σ H Q2) :
    ∀ (H : Hp) (Q1 Q2 : List V → Hp → Prop), (∀ v H1, Q1 v H1 → Q2 v H1) → tCons te ta σ H Q1 → tCons te ta σ H Q2 := fun H _ _ k q => h1 H _ _ (fun _ H1 z => h2 H1 _ _ (fun xs H2 y => k _ _ y) z) q
theorem m_nil {σ : L2.St} : ∀ (H : Hp) (Q1 Q2 : List V → Hp → Prop), (∀ v H1, Q1 v H1 → Q2 v H1) → tNil σ H Q1 → tNil σ H Q2 := fun _ _ _ k q => k _ _ q
theorem m_var {i : Nat} {σ : L2.St} : ∀ (H : Hp) (Q1 Q2 : VK), (∀ v H1, Q1 v H1 → Q2 v H1) → tVar i σ H Q1 → tVar i σ H Q2 := fun _ _ _ k ⟨v, h, q⟩ => ⟨v, h, k _ _ q⟩
theorem m_c {c : V} {σ : L2.St} : ∀ (H : Hp) (Q1 Q2 : VK), (∀ v H1, Q1 v H1 → Q2 v H1) → tC c σ H Q1 → tC c σ H Q2 := fun _ _ _ k q => k _ _ q
end
section
variable {σ : L2.St} {H : Hp} {D : Ends} {K : PySem.W.Frag}
theorem forET {te : TE} {g : TG} {tb : TS} {a : Addr} {xs : List V} (he : ∀ R : VK, R (.ref a) H → te σ H R) (hq : SqT K H a xs) (Pv : Nat → L2.St → Hp → Prop) (h0 : Pv 0 σ H) (hG : ∀ i σ H, i ≤ xs.length → Pv i σ H → SqT K H a xs)
    (hs : ∀ i x T σ H H', xs[i]? = some x → H T = none → H' = upd H T (.tup [.int (i : Nat), x]) → Pv i σ H → g (.ref T) σ H' fun σ2 H2 => tb { D with nx := Pv (i + 1), ct := Pv (i + 1), bk := D.nx } σ2 H2) (hd : ∀ σ H, Pv xs.length σ H → D.nx σ H) :
    tFor (iEnumT K (tCons te tNil)) g tb D σ H := by
  refine he _ ⟨a, xs, rfl, hq, for_it walk_enumT Pv h0 hG ?_ hd⟩
  rintro i x σ H1 H2 hi p ⟨T, x1, y, ev, hT, eH, e1, e2⟩
  cases e1
  rw [ev]
  exact hs i y T σ H1 H2 e2 hT eH p
theorem forT {te : TE} {g : TG} {tb : TS} {a : Addr} {xs : List V} (he : ∀ R : VK, R (.ref a) H → te σ H R) (hq : SqT K H a xs) (Pv : Nat → L2.St → Hp → Prop) (h0 : Pv 0 σ H) (hG : ∀ i σ H, i ≤ xs.length → Pv i σ H → SqT K H a xs)
    (hs : ∀ i x σ H, xs[i]? = some x → Pv i σ H → g x σ H fun σ2 H2 => tb { D with nx := Pv (i + 1), ct := Pv (i + 1), bk := D.nx } σ2 H2) (hd : ∀ σ H, Pv xs.length σ H → D.nx σ H) :
    tFor (iTup K te) g tb D σ H := by
  refine he _ ⟨a, rfl, ⟨xs, hq⟩, for_it walk_tup Pv h0 hG ?_ hd⟩
  rintro i x σ H1 H2 hi p ⟨eH, e2⟩
  rw [eH]
  exact hs i x σ H1 e2 p
theorem forL {te : TE} {g : TG} {tb : TS} {a : Addr} {xs : List V} (he : ∀ R : VK, R (.ref a) H → te σ H R) (hq : SqL K H a xs) (Pv : Nat → L2.St → Hp → Prop) (h0 : Pv 0 σ H) (hG : ∀ i σ H, i ≤ xs.length → Pv i σ H → SqL K H a xs)
    (hs : ∀ i x σ H, xs[i]? = some x → Pv i σ H → g x σ H fun σ2 H2 => tb { D with nx := Pv (i + 1), ct := Pv (i + 1), bk := D.nx } σ2 H2) (hd : ∀ σ H, Pv xs.length σ H → D.nx σ H) :
    tFor (iList K te) g tb D σ H := by
  refine he _ ⟨a, rfl, ⟨xs, hq⟩, for_it walk_list Pv h0 hG ?_ hd⟩
  rintro i x σ H1 H2 hi p ⟨eH, e2⟩
  rw [eH]
  exact hs i x σ H1 e2 p
theorem r_pair {T : Addr} {x y : V} {i j : Nat} {Q : L2.St → Hp → Prop} (h : SqT K H T [x, y]) (q : Q ((σ.set i (some x)).set j (some y)) H) : gTup K 2 (gCons (gName i) (gCons (gName j) gNil)) (.ref T) σ H Q :=
  ⟨T, _, rfl, h, rfl, _, _, rfl, _, _, rfl, rfl, q⟩
end
def scanS : List Str → Nat → List PyData → Option Nat
  | _, _, [] => none
  | later, i, .str z :: ds => if z ∈ later then scanS (later.drop (later.idxOf z + 1)) (i + 1) ds else some i
  | _, i, _ :: _ => some i
def stateBad (ns : List Str) : PyData → Option Nat
  | .tuple ds => scanS ns 0 ds
  | _ => some 0
section
variable {P : Program} {w : World} {K : PySem.W.Frag} {mg : Str → Option Value} {base : Heap} {G : List Addr} {L : List (Addr × Str)}
theorem sqT_go {K : PySem.W.Frag} {H H' : Hp} {a : Addr} {xs : List V} (h : SqT K H a xs) (e : LamX.ExtN H H') : SqT K H' a xs := by
  rcases h with (h | ⟨o, h⟩) | h
  · exact .inl (.inl (e _ _ h fun _ z => by cases z))
  · exact .inl (.inr ⟨o, e _ _ h fun _ z => by cases z⟩)
  · exact .inr h
theorem dps_strs {K : PySem.W.Frag} {H : Hp} (xs : List Str) : DpAll K H (xs.map V.str) (xs.map PyData.str) := Ims.dp (ims_strs xs)
theorem idxOf_get {z : Str} : ∀ {l : List Str}, z ∈ l → l[l.idxOf z]? = some z := fun {l} h => by
  have hl := List.idxOf_lt_length_of_mem h
  rw [List.getElem?_eq_getElem hl, List.getElem_idxOf hl]
theorem idxOf_least {z : Str} : ∀ {l : List Str} {m : Nat}, m < l.idxOf z → l[m]? = some z → False
  | [], m, h, e => by simp at e
  | y :: l, m, h, e => by
    by_cases hy : y = z
    · subst hy
      simp at h
    · have e1 : (y :: l).idxOf z = l.idxOf z + 1 := by
        rw [List.idxOf_cons]
        have hb : (y == z) = false := by simpa using hy
        rw [hb]
        rfl
      rw [e1] at h
      cases m with
      | zero => exact hy (by simpa using e)
      | succ m => exact idxOf_least (z := z) (l := l) (m := m) (by omega) (by simpa using e)
theorem cut_from {xs : List V} {k : Nat} (h : k ≤ xs.length) : cutV xs (some (k : Int)) none = xs.drop k := by
  unfold cutV
  rw [HT.sIx_nat, HT.sIx_none, Nat.min_eq_left h, List.take_of_length_le]
  rw [List.length_drop]
  exact Nat.le_refl _
theorem cut_to {xs : List V} {k : Nat} (h : k ≤ xs.length) : cutV xs none (some (k : Int)) = xs.take k := by
  unfold cutV
  rw [HT.sIx_nat, HT.sIx_none, Nat.min_eq_left h, List.drop_zero, Nat.sub_zero]
def spChkState (K : PySem.W.Frag) (G : List Addr) (L : List (Addr × Str)) : Sp := fun vs H Q E => ∃ (an : Addr) (v : V) (ns : List Str) (d : PyData), vs = [.ref an, v] ∧ NT H an (ns.map V.str) ∧ Dp K H v d ∧ goodS ns ∧ lv 7 d = true ∧ (∀ ds, d = .tuple ds → ds.length ≤ 60) ∧
  (∀ i, stateBad ns d = some i → ∀ cls dd H', Go G L H H' → Told K cls dd H' (.tuple [.str "invalid", .int (i : Nat)]) → E cls dd H') ∧ (stateBad ns d = none → ∀ H', Go G L H H' → Q .non H')
theorem scChkState : FnScope ["names", "state", "later", "index", "name"] ["names", "state"] (defScope sChkState) := C8.fnScope_by (by decide +kernel)
theorem ok_chkState {f : Addr} {fd : FuncData} (F : Fun K "check_state" "check_state" sChkState f fd) (zI : mg "isinstance" = none) (z1 : mg "tuple" = none) (zE : mg "enumerate" = none) (T : Err P w K mg base "InvalidState" (spIS K (He.ga K "InvalidState"))) :
    FnOk P w K mg base (L2.CX P w) 3 f fd ["names", "state"] (spChkState K G L) := by
  refine F.okX scChkState (fun vs H Q E h => ?_) (fun cdv A outer s H vs Q E hr h => ?_)
  · obtain ⟨an, v, ns, d, e, _⟩ := h
    rw [e]
    rfl
  · obtain ⟨an, v, ns, d, e, hn, hd, gs, l1, hl, qE, q⟩ := h
    subst e
    refine ⟨_, pss_cons (ps_if (pt_not (pt_val (pe_callB call_isi rfl zI boot_isinstance (pa_cons (pv 1) (pa_cons (pe_bltn (v := .ty "tuple") rfl z1 boot_tuple rfl) pa_nil)))))
        (pss_one (ps_raise rfl (takes_of rfl rfl rfl rfl) (pmk_err T hr (pa_cons pe_int pa_nil)))) pss_nil)
      (pss_cons (ps_set (i := 2) scChkState.nd rfl (Or.inl rfl) (pv 0))
      (pss_one (ps_for (passes_of rfl) rfl (pi_enumT rfl zE (pa_cons (pv 1) pa_nil)) (pg_tup rfl (pgs_cons (pg_name (i := 3) scChkState.nd rfl (.inl rfl)) (pgs_cons (pg_name (i := 4) scChkState.nd rfl (.inl rfl)) pgs_nil)))
        (pss_cons (ps_if (pt_cmpR (op_notInT (u65 hr)) (pv 4) (pv 2) rfl) (pss_one (ps_raise rfl (takes_of rfl rfl rfl rfl) (pmk_err T hr (pa_cons (pv 3) pa_nil)))) pss_nil)
        (pss_one (ps_set (i := 2) scChkState.nd rfl (Or.inl rfl) (pe_slice sl_tupD (pv 2) (po_some (pe_op op_add (pe_tm PySem.F.plainAttrs_tuple PySem.F.slot_tuple_index PySem.F.type_tuple_index mt_tup_index (pv 2) (pa_cons (pv 4) pa_nil)) pe_int)) po_none))))))), ?_⟩
    repeat walk_at "rd"
    refine r_isi (m := "tuple") (Dp.kd hd) (by decide) ?_
    repeat walk_at "rd"
    by_cases hz : ∃ ds, d = .tuple ds
    · obtain ⟨ds, rfl⟩ := hz
      cases hd with
      | @tup a xs _ ha hxs =>
        refine r_if (fun cc => absurd cc (by simp [tyOf])) (fun _ => ?_)
        repeat walk_at "rd"
        have hlen := Dps.length hxs
        have hs60 := hl ds rfl
        have m := lv_mem l1
        refine forET (a := a) (xs := xs) (fun R z => ⟨_, rfl, z⟩) ha (fun i σ H' => ∃ (lt : List Str) (al : Addr) (x3 x4 : Option V), σ = [some (.ref an), some (.ref a), some (.ref al), x3, x4] ∧ Go G L H H' ∧ NT H' al (lt.map V.str) ∧ goodS lt ∧ scanS ns 0 ds = scanS lt i (ds.drop i)) ?_ ?_ ?_ ?_
        · exact ⟨ns, an, none, none, rfl, Go.refl H, hn, gs, rfl⟩
        · rintro i σ H' _ ⟨_, _, _, _, _, g, _⟩
          exact sqT_go ha g.1
        · rintro i y T2 σ H1 H2 ey hT rfl ⟨lt, al, x3, x4, rfl, g, hal, gl, hsc⟩
          have g2 : Go G L H (upd H1 T2 (.tup [.int (i : Nat), y])) := g.trans (Go.new hT)
          refine r_pair (.of upd_same) ?_
          obtain ⟨dy, hdy, hy⟩ := Dps.get hxs ey
          have hy2 := Dp.go g2.1 hy
          have hal2 : NT (upd H1 T2 (.tup [.int (i : Nat), y])) al (lt.map V.str) := hal.kt (Go.kt (G := G) (L := L) (Go.new hT))
          generalize upd H1 T2 (.tup [.int (i : Nat), y]) = H3 at g2 hy2 hal2
          have hil := (List.getElem?_eq_some_iff.mp hdy).1
          have hdrop : ds.drop i = dy :: ds.drop (i + 1) := by
            obtain ⟨hl1, e1⟩ := List.getElem?_eq_some_iff.mp hdy
            rw [← e1]
            exact List.drop_eq_getElem_cons hl1
          rw [hdrop] at hsc
          repeat walk_at "rd"
          refine r_ninT (ds := lt.map PyData.str) hy2 (.tup hal2.seq (dps_strs lt)) (lv_succ (lv_succ (m dy (List.mem_of_getElem? hdy)))) (lv_tup fun d hd => ?_) ?_
          · obtain ⟨z, hz, e⟩ := List.mem_map.mp hd
            rw [← e]
            exact gl.1 z hz
          repeat walk_at "rd"
          refine r_if (fun c1 => ?_) (fun c1 => ?_)
          · repeat walk_at "rd"
            refine r_mkIS ?_ (m_cons (m_var) m_nil _)
            repeat walk_at "rd"
            have e3 : stateBad ns (.tuple ds) = some i := by
              show scanS ns 0 ds = some i
              rw [hsc]
              cases dy with
              | str z =>
                rw [inD_strs] at c1
                have nz : ¬ z ∈ lt := by simpa using c1
                exact if_neg nz
              | _ => rfl
            exact ⟨i, rfl, by omega, fun dd Hx k hx => qE i e3 _ _ Hx (g2.trans (Go.same k)) (.inr (.inl ⟨dd, _, rfl, rfl, hx, rfl⟩))⟩
          · have hin : ∃ z, dy = .str z ∧ z ∈ lt := by
              cases dy with
              | str z =>
                rw [inD_strs] at c1
                exact ⟨z, rfl, by simpa using c1⟩
              | _ =>
                rw [inD_no (fun z => by intro q; cases q)] at c1
                exact absurd c1 (by decide)
            obtain ⟨z, rfl, hzl⟩ := hin
            cases hy2
            have hj : lt[lt.idxOf z]? = some z := idxOf_get hzl
            have hlt : lt.idxOf z < lt.length := (List.getElem?_eq_some_iff.mp hj).1
            repeat walk_at "rd"
            refine ⟨⟨al, _, rfl, hal2⟩, ?_⟩
            repeat walk_at "rd"
            refine ⟨al, lt, z, lt.idxOf z, rfl, rfl, hal2.seq, hj, fun m hm e => idxOf_least hm e, ?_⟩
            repeat walk_at "rd"
            have ecut : cutV (lt.map V.str) (some ((lt.idxOf z : Nat) + 1 : Int)) none = (lt.drop (lt.idxOf z + 1)).map V.str := by
              have e0 : (((lt.idxOf z : Nat) : Int) + 1) = ((lt.idxOf z + 1 : Nat) : Int) := by omega
              rw [e0, cut_from, List.map_drop]
              rw [List.length_map]
              omega
            have gl' : goodS (lt.drop (lt.idxOf z + 1)) := ⟨fun y hy => gl.1 y (List.mem_of_mem_drop hy), Nat.le_trans (by rw [List.length_drop]; omega) gl.2⟩
            have hsc' : scanS ns 0 ds = scanS (lt.drop (lt.idxOf z + 1)) (i + 1) (ds.drop (i + 1)) := by
              rw [hsc]
              exact if_pos hzl
            refine ⟨al, _, rfl, hal2, fun e => ?_, fun p o hp h1 h2 => ?_⟩
            · rw [ecut] at e
              have e2 := congrArg List.length e
              rw [List.length_map, List.length_map, List.length_drop] at e2
              omega
            · repeat walk_at "rd"
              rw [ecut]
              exact ⟨_, p, _, _, rfl, g2.trans (Go.new hp), .of h1 h2, gl', hsc'⟩
        · rintro σ H' ⟨lt, al, x3, x4, rfl, g, hal, gl, hsc⟩
          refine q ?_ H' g
          show scanS ns 0 ds = none
          rw [hsc, hlen, List.drop_length]
          rfl
    · have e1 : (!(tyOf d == "tuple" || tyOf d == "bool" && "tuple" == "int")) = true := by
        cases d <;> first | rfl | exact absurd ⟨_, rfl⟩ hz
      have e2 : stateBad ns d = some 0 := by
        cases d <;> first | rfl | exact absurd ⟨_, rfl⟩ hz
      rw [if_pos e1]
      repeat walk_at "rd"
      refine r_mkIS ?_ (m_cons (m_c) m_nil _)
      repeat walk_at "rd"
      exact ⟨0, rfl, by decide, fun dd Hx k hx => qE 0 e2 _ _ Hx (Go.same k) (.inr (.inl ⟨dd, _, rfl, rfl, hx, rfl⟩))⟩
end
section
variable {P : Program} {w : World} {K : PySem.W.Frag} {mg : Str → Option Value} {base : Heap} {G : List Addr} {L : List (Addr × Str)}
def rulesE (p : Str) (i : Nat) : PyData := .tuple [.str "rules", .str p, .int (i : Nat)]
theorem told_rules {dd : Addr} {H : Hp} {p : Str} {i : Nat} (h : H dd = some (.xd [("index", .int (i : Nat)), ("part", .str p)])) : Told K (.ref (He.ga K "InvalidRules")) (some dd) H (rulesE p i) := .inl ⟨dd, p, _, rfl, rfl, h, rfl⟩
def spChkNames (K : PySem.W.Frag) (G : List Addr) (L : List (Addr × Str)) : Sp := fun vs H Q E => ∃ (v : V) (d : PyData), vs = [v] ∧ Dp K H v d ∧ lv 7 d = true ∧ TBS G L H ∧ (∀ ds, d = .tuple ds → ds.length ≤ 60 ∧ ∀ x ∈ ds, smallS x) ∧
  (∀ i, namesBad d = some i → ∀ cls dd H', Go G L H H' → Told K cls dd H' (rulesE "names" i) → E cls dd H') ∧ (namesBad d = none → ∀ H', Go G L H H' → Q .non H')
theorem scChkNames : FnScope ["names", "index", "name"] ["names"] (defScope sChkNames) := C8.fnScope_by (by decide +kernel)
theorem dps_at {K : PySem.W.Frag} {H : Hp} {xs : List V} {ds : List PyData} {i : Nat} {v : V} (h : DpAll K H xs ds) (e : xs[i]? = some v) : ∃ d, ds[i]? = some d ∧ Dp K H v d ∧ ds.drop i = d :: ds.drop (i + 1) ∧ i < ds.length ∧ ds.take (i + 1) = ds.take i ++ [d] := by
  obtain ⟨d, h1, h2⟩ := Dps.get h e
  obtain ⟨hl, e1⟩ := List.getElem?_eq_some_iff.mp h1
  refine ⟨d, h1, h2, ?_, hl, ?_⟩
  · rw [← e1]
    exact List.drop_eq_getElem_cons hl
  · rw [← e1]
    exact (List.take_append_getElem hl).symm
theorem ok_chkNames {f : Addr} {fd : FuncData} {t10 : Tok} (F : Fun K "check_names" "check_names" sChkNames f fd) (zI : mg "isinstance" = none) (z1 : mg "tuple" = none) (zL : mg "len" = none) (zE : mg "enumerate" = none) (g10 : mg "MOST_NAMES" = some (.int 10 t10))
    (T : Err P w K mg base "InvalidRules" (spIR K (He.ga K "InvalidRules"))) (N : Fd CX0 P w K mg base "is_name" 1 (spIsName K G L)) : FnOk P w K mg base (L2.CX P w) 3 f fd ["names"] (spChkNames K G L) := by
  refine F.okX scChkNames (fun vs H Q E h => ?_) (fun cdv A outer s H vs Q E hr h => ?_)
  · obtain ⟨v, d, e, _⟩ := h
    rw [e]
    rfl
  · obtain ⟨v, d, e, hd, l1, ht, hl, qE, q⟩ := h
    subst e
    refine ⟨_, pss_cons (ps_if (PW.pt (pw_or (pt_not (pt_val (pe_callB call_isi rfl zI boot_isinstance (pa_cons (pv 0) (pa_cons (pe_bltn (v := .ty "tuple") rfl z1 boot_tuple rfl) pa_nil)))))
          (pw_or1 (pt_cmpR op_eq (pe_callB c_len rfl zL boot_len (pa_cons (pv 0) pa_nil)) pe_int (nomark _)))))
        (pss_one (ps_raise rfl (takes_of rfl rfl rfl rfl) (pmk_err T hr (pa_cons pe_str (pa_cons pe_int pa_nil))))) pss_nil)
      (pss_one (ps_for (passes_of rfl) rfl (pi_enumT rfl zE (pa_cons (pv 0) pa_nil)) (pg_tup rfl (pgs_cons (pg_name (i := 1) scChkNames.nd rfl (.inl rfl)) (pgs_cons (pg_name (i := 2) scChkNames.nd rfl (.inl rfl)) pgs_nil)))
        (pss_one (ps_if (PW.pt (pw_or (pt_cmpR op_ge (pv 1) (pe_glob (v := .int 10) rfl g10 ⟨_, rfl⟩) (nomark _)) (pw_or (pt_not (pt_val (pe_fd (E := E0) N hr pass0 (pa_cons (pv 2) pa_nil))))
            (pw_or1 (pt_cmpR (op_inT (u65 hr)) (pv 2) (pe_slice sl_tupA (pv 0) po_none (po_some (pv 1))) rfl)))))
          (pss_one (ps_raise rfl (takes_of rfl rfl rfl rfl) (pmk_err T hr (pa_cons pe_str (pa_cons (pv 1) pa_nil))))) pss_nil)))), ?_⟩
    repeat walk_at "rd"
    refine r_isi (m := "tuple") (Dp.kd hd) (by decide) ?_
    repeat walk_at "rd"
    by_cases hz : ∃ ds, d = .tuple ds
    · obtain ⟨ds, rfl⟩ := hz
      cases hd with
      | @tup a xs _ ha hxs =>
        refine r_if (fun cc => absurd cc (by simp [tyOf])) (fun _ => ?_)
        repeat walk_at "rd"
        refine r_lenT ha ?_
        repeat walk_at "rd"
        refine r_eq rfl ?_
        repeat walk_at "rd"
        have hlen := Dps.length hxs
        obtain ⟨hs60, hsm⟩ := hl ds rfl
        have m := lv_mem l1
        refine r_if (fun c1 => ?_) (fun c1 => ?_)
        · have z0 := V.int.inj (of_decide_eq_true c1)
          have e0 : ds = [] := List.length_eq_zero_iff.mp (by omega)
          repeat walk_at "rd"
          refine r_mkIR ?_ (m_cons m_c (m_cons m_c m_nil) _)
          repeat walk_at "rd"
          refine ⟨"names", 0, rfl, by decide, by decide, fun dd Hx k hx => qE 0 (by rw [e0]; rfl) _ _ Hx (Go.same k) (told_rules hx)⟩
        · have ne : ds ≠ [] := fun z => by
            rw [z] at hlen
            rw [hlen] at c1
            exact absurd c1 (by decide)
          have enb : namesBad (.tuple ds) = scanN [] ds := by
            cases ds with
            | nil => exact absurd rfl ne
            | cons _ _ => rfl
          repeat walk_at "rd"
          refine forET (a := a) (xs := xs) (fun R z => ⟨_, rfl, z⟩) ha (fun i σ H' => ∃ (x3 x4 : Option V), σ = [some (.ref a), x3, x4] ∧ Go G L H H' ∧ scanN [] ds = scanN (ds.take i) (ds.drop i)) ?_ ?_ ?_ ?_
          · exact ⟨none, none, rfl, Go.refl H, rfl⟩
          · rintro i σ H' _ ⟨_, _, _, g, _⟩
            exact sqT_go ha g.1
          · rintro i y T2 σ H1 H2 ey hT rfl ⟨x3, x4, rfl, g, hsc⟩
            have g2 : Go G L H (upd H1 T2 (.tup [.int (i : Nat), y])) := g.trans (Go.new hT)
            refine r_pair (.of upd_same) ?_
            obtain ⟨dy, hdy, hy, hdrop, hil, htk⟩ := dps_at hxs ey
            generalize upd H1 T2 (.tup [.int (i : Nat), y]) = H3 at g2
            have hy2 := Dp.go g2.1 hy
            rw [hdrop] at hsc
            have htl : (ds.take i).length = i := by
              rw [List.length_take]
              omega
            have hmem := List.mem_of_getElem? hdy
            have bad : (decide ((10 : Int) ≤ (i : Nat)) || (!nameOk dy || inD dy (ds.take i))) = true → namesBad (.tuple ds) = some i := fun c => by
              rw [enb, hsc]
              show (if decide ((10 : Int) ≤ ((ds.take i).length : Nat)) || (!nameOk dy || inD dy (ds.take i)) then some (ds.take i).length else _) = some i
              rw [htl]
              exact if_pos c
            repeat walk_at "rd"
            refine r_if (fun c2 => ?_) (fun c2 => ?_)
            · repeat walk_at "rd"
              refine r_mkIR ?_ (m_cons m_c (m_cons m_var m_nil) _)
              repeat walk_at "rd"
              exact ⟨"names", i, rfl, by decide, by omega, fun dd Hx k hx => qE i (bad (by rw [c2]; rfl)) _ _ Hx (g2.trans (Go.same k)) (told_rules hx)⟩
            · repeat walk_at "rd"
              refine ⟨y, dy, rfl, hy2, hsm dy hmem, g2.2 ht, fun H4 g4 => ?_⟩
              have g4' := g2.trans g4
              have hy4 := Dp.go g4'.1 hy
              repeat walk_at "rd"
              refine r_if (fun c3 => ?_) (fun c3 => ?_)
              · repeat walk_at "rd"
                refine r_mkIR ?_ (m_cons m_c (m_cons m_var m_nil) _)
                repeat walk_at "rd"
                exact ⟨"names", i, rfl, by decide, by omega, fun dd Hx k hx => qE i (bad (by rw [c2, c3]; rfl)) _ _ Hx (g4'.trans (Go.same k)) (told_rules hx)⟩
              · repeat walk_at "rd"
                refine ⟨a, xs, rfl, sqT_go ha g4'.1, fun hw => ?_, fun _ p hp => ?_⟩
                · exfalso
                  have z := hw.2
                  rw [HT.sIx_nat] at z
                  omega
                · have g5 := g4'.trans (Go.new (o := .tup (cutV xs none (some (i : Nat)))) hp)
                  have hsq : SqT K (upd H4 p (.tup (cutV xs none (some (i : Nat))))) p (cutV xs none (some (i : Nat))) := .of upd_same
                  generalize upd H4 p (.tup (cutV xs none (some (i : Nat)))) = H5 at g5 hsq ⊢
                  rw [cut_to (by omega)] at hsq
                  repeat walk_at "rd"
                  have hy5 := Dp.go g5.1 hy
                  refine r_inT (ds := ds.take i) hy5 (.tup hsq (Dps.go g5.1 (Dps.take i hxs))) (lv_succ (lv_succ (m dy hmem))) (lv_tup fun d hd => lv_succ (m d (List.mem_of_mem_take hd))) ?_
                  repeat walk_at "rd"
                  refine r_if (fun c4 => ?_) (fun c4 => ?_)
                  · repeat walk_at "rd"
                    refine r_mkIR ?_ (m_cons m_c (m_cons m_var m_nil) _)
                    repeat walk_at "rd"
                    exact ⟨"names", i, rfl, by decide, by omega, fun dd Hx k hx => qE i (bad (by rw [c2, c3, c4]; rfl)) _ _ Hx (g5.trans (Go.same k)) (told_rules hx)⟩
                  · repeat walk_at "rd"
                    refine ⟨_, _, rfl, g5, ?_⟩
                    rw [hsc, htk]
                    show (if decide ((10 : Int) ≤ ((ds.take i).length : Nat)) || (!nameOk dy || inD dy (ds.take i)) then some (ds.take i).length else _) = _
                    rw [htl, c2, c3, c4]
                    rfl
          · rintro σ H' ⟨x3, x4, rfl, g, hsc⟩
            refine q ?_ H' g
            rw [enb, hsc, hlen, List.drop_length]
            rfl
    · have e1 : (!(tyOf d == "tuple" || tyOf d == "bool" && "tuple" == "int")) = true := by
        cases d <;> first | rfl | exact absurd ⟨_, rfl⟩ hz
      have e2 : namesBad d = some 0 := by
        cases d <;> first | rfl | exact absurd ⟨_, rfl⟩ hz
      rw [if_pos e1]
      repeat walk_at "rd"
      refine r_mkIR ?_ (m_cons m_c (m_cons m_c m_nil) _)
      repeat walk_at "rd"
      exact ⟨"names", 0, rfl, by decide, by decide, fun dd Hx k hx => qE 0 e2 _ _ Hx (Go.same k) (told_rules hx)⟩
end
section
variable {G : List Addr} {L : List (Addr × Str)} {H H' : Hp} {r D : Addr} {xs ys : List V}
theorem Go.updNew (g : Go G L H H') (n : H D = none) (h : H' D = some (.lst xs)) : Go G L H (upd H' D (.lst ys)) :=
  ⟨fun b o e nt => by rw [upd_ne (ne_of_none e n)]; exact g.1 b o e nt, fun t => (GoR.upd (G := G) (L := L) h).2 (g.2 t)⟩
theorem GoR.updNew (g : GoR G L r H H') (n : H D = none) (h : H' D = some (.lst xs)) : GoR G L r H (L2.upd H' D (.lst ys)) :=
  ⟨fun b o nr nt e => by rw [upd_ne (ne_of_none e n)]; exact g.1 b o nr nt e, fun t => (GoR.upd (G := G) (L := L) h).2 (g.2 t)⟩
end
section
variable {σ : L2.St} {H : Hp} {Q : VK} {D : Ends} {K : PySem.W.Frag}
theorem r_lcI {wi : TI} {g : TG} {tt : TT} {te : TE} {vs : List Nat} {J : It} {n : Nat} {G : Hp → Prop} {Y : Nat → Hp → V → Hp → Prop} (hw : ∀ R : It → Hp → Prop, R J H → wi σ H R) (w : Walk J n G Y) (Pv : Addr → Nat → Hp → Prop)
    (h0 : ∀ D, H D = none → Pv D 0 (upd H D (.lst []))) (hG : ∀ D i H', H D = none → i ≤ n → Pv D i H' → G H')
    (hs : ∀ D i x H1 H2, H D = none → i < n → Pv D i H1 → Y i H1 x H2 → g x (wipe σ vs) H2 fun σ2 H2 => wipe σ2 vs = wipe σ vs ∧ tt σ2 H2 fun b H3 =>
      if b = true then te σ2 H3 fun y H4 => ∃ acc, H4 D = some (.lst acc) ∧ acc.length < sizeLine ∧ Pv D (i + 1) (upd H4 D (.lst (acc ++ [y]))) else Pv D (i + 1) H3) (hd : ∀ D H', H D = none → Pv D n H' → Q (.ref D) H') : tLc wi g tt te vs σ H Q :=
  hw _ fun D hD => lc_it w (Pv D) (h0 D hD) (fun i H' hi p => hG D i H' hD hi p) (fun i x H1 H2 hi p y => hs D i x H1 H2 hD hi p y) fun H' p => hd D H' hD p
theorem lcET {te : TE} {g : TG} {tt : TT} {el : TE} {vs : List Nat} {a : Addr} {xs : List V} (he : ∀ R : VK, R (.ref a) H → te σ H R) (hq : SqT K H a xs) (Pv : Addr → Nat → Hp → Prop)
    (h0 : ∀ D, H D = none → Pv D 0 (upd H D (.lst []))) (hG : ∀ D i H', H D = none → i ≤ xs.length → Pv D i H' → SqT K H' a xs)
    (hs : ∀ D i x T H1, H D = none → xs[i]? = some x → H1 T = none → Pv D i H1 → g (.ref T) (wipe σ vs) (upd H1 T (.tup [.int (i : Nat), x])) fun σ2 H2 => wipe σ2 vs = wipe σ vs ∧ tt σ2 H2 fun b H3 =>
      if b = true then el σ2 H3 fun y H4 => ∃ acc, H4 D = some (.lst acc) ∧ acc.length < sizeLine ∧ Pv D (i + 1) (upd H4 D (.lst (acc ++ [y]))) else Pv D (i + 1) H3) (hd : ∀ D H', H D = none → Pv D xs.length H' → Q (.ref D) H') : tLc (iEnumT K (tCons te tNil)) g tt el vs σ H Q := by
  refine r_lcI (fun R z => he _ ⟨a, xs, rfl, hq, z⟩) walk_enumT Pv h0 hG ?_ hd
  rintro D i x H1 H2 hD hi p ⟨T, x1, y, ev, hT, eH, e1, e2⟩
  cases e1
  rw [ev, eH]
  exact hs D i y T H1 hD e2 hT p
theorem lcT {te : TE} {g : TG} {tt : TT} {el : TE} {vs : List Nat} {a : Addr} {xs : List V} (he : ∀ R : VK, R (.ref a) H → te σ H R) (hq : SqT K H a xs) (Pv : Addr → Nat → Hp → Prop)
    (h0 : ∀ D, H D = none → Pv D 0 (upd H D (.lst []))) (hG : ∀ D i H', H D = none → i ≤ xs.length → Pv D i H' → SqT K H' a xs)
    (hs : ∀ D i x H1, H D = none → xs[i]? = some x → Pv D i H1 → g x (wipe σ vs) H1 fun σ2 H2 => wipe σ2 vs = wipe σ vs ∧ tt σ2 H2 fun b H3 =>
      if b = true then el σ2 H3 fun y H4 => ∃ acc, H4 D = some (.lst acc) ∧ acc.length < sizeLine ∧ Pv D (i + 1) (upd H4 D (.lst (acc ++ [y]))) else Pv D (i + 1) H3) (hd : ∀ D H', H D = none → Pv D xs.length H' → Q (.ref D) H') : tLc (iTup K te) g tt el vs σ H Q := by
  refine r_lcI (fun R z => he _ ⟨a, rfl, ⟨xs, hq⟩, z⟩) walk_tup Pv h0 hG ?_ hd
  rintro D i x H1 H2 hD hi p ⟨eH, e2⟩
  rw [eH]
  exact hs D i x H1 hD e2 p
theorem lcL {te : TE} {g : TG} {tt : TT} {el : TE} {vs : List Nat} {a : Addr} {xs : List V} (he : ∀ R : VK, R (.ref a) H → te σ H R) (hq : SqL K H a xs) (Pv : Addr → Nat → Hp → Prop)
    (h0 : ∀ D, H D = none → Pv D 0 (upd H D (.lst []))) (hG : ∀ D i H', H D = none → i ≤ xs.length → Pv D i H' → SqL K H' a xs)
    (hs : ∀ D i x H1, H D = none → xs[i]? = some x → Pv D i H1 → g x (wipe σ vs) H1 fun σ2 H2 => wipe σ2 vs = wipe σ vs ∧ tt σ2 H2 fun b H3 =>
      if b = true then el σ2 H3 fun y H4 => ∃ acc, H4 D = some (.lst acc) ∧ acc.length < sizeLine ∧ Pv D (i + 1) (upd H4 D (.lst (acc ++ [y]))) else Pv D (i + 1) H3) (hd : ∀ D H', H D = none → Pv D xs.length H' → Q (.ref D) H') : tLc (iList K te) g tt el vs σ H Q := by
  refine r_lcI (fun R z => he _ ⟨a, rfl, ⟨xs, hq⟩, z⟩) walk_list Pv h0 hG ?_ hd
  rintro D i x H1 H2 hD hi p ⟨eH, e2⟩
  rw [eH]
  exact hs D i x H1 hD e2 p
/-- range(n) -/
theorem lcR {te : TE} {g : TG} {tt : TT} {el : TE} {vs : List Nat} {n : Nat} {H0 : Hp} (he : ∀ R : VK, R (.int (n : Nat)) H0 → te σ H R) (hn : n < 1000000) (Pv : Addr → Nat → Hp → Prop)
    (h0 : ∀ D, H0 D = none → Pv D 0 (upd H0 D (.lst [])))
    (hs : ∀ D i H1, H0 D = none → i < n → Pv D i H1 → g (.int (i : Nat)) (wipe σ vs) H1 fun σ2 H2 => wipe σ2 vs = wipe σ vs ∧ tt σ2 H2 fun b H3 =>
      if b = true then el σ2 H3 fun y H4 => ∃ acc, H4 D = some (.lst acc) ∧ acc.length < sizeLine ∧ Pv D (i + 1) (upd H4 D (.lst (acc ++ [y]))) else Pv D (i + 1) H3) (hd : ∀ D H', H0 D = none → Pv D n H' → Q (.ref D) H') : tLc (iRng1 (tCons te tNil)) g tt el vs σ H Q := by
  refine he _ ⟨_, rfl, by omega, by omega, fun D hD => lc_it walk_range (Pv D) (h0 D hD) (fun _ _ _ _ => True.intro) ?_ fun H' p => hd D H' hD (by simpa using p)⟩
  rintro i x H1 H2 hi p ⟨eH, ex⟩
  have hi' : i < n := by simpa using hi
  have e : x = .int (i : Nat) := ex.trans (congrArg V.int (Int.zero_add _))
  rw [eH, e]
  exact hs D i H1 hD hi' p
theorem forR {te : TE} {g : TG} {tb : TS} {n : Nat} {H0 : Hp} (he : ∀ R : VK, R (.int (n : Nat)) H0 → te σ H R) (hn : n < 1000000) (Pv : Nat → L2.St → Hp → Prop) (h0 : Pv 0 σ H0)
    (hs : ∀ i σ H, i < n → Pv i σ H → g (.int (i : Nat)) σ H fun σ2 H2 => tb { D with nx := Pv (i + 1), ct := Pv (i + 1), bk := D.nx } σ2 H2) (hd : ∀ σ H, Pv n σ H → D.nx σ H) :
    tFor (iRng1 (tCons te tNil)) g tb D σ H := by
  refine he _ ⟨_, rfl, by omega, by omega, for_it walk_range Pv h0 (fun _ _ _ _ _ => True.intro) ?_ (fun σ' H' p => hd σ' H' (by simpa using p))⟩
  rintro i x σ H1 H2 hi p ⟨eH, ex⟩
  have hi' : i < n := by simpa using hi
  have e : x = .int (i : Nat) := ex.trans (congrArg V.int (Int.zero_add _))
  rw [eH, e]
  exact hs i σ H1 hi' p
end
def scanC (nd : List PyData) : Nat → List PyData → Option Nat
  | _, [] => none
  | i, d :: ds => if decide ((40 : Int) ≤ (i : Nat)) || !clauseOk nd d then some i else scanC nd (i + 1) ds
def clausesBad (nd : List PyData) : PyData → Option Nat
  | .tuple ds => scanC nd 0 ds
  | _ => some 0
section
variable {P : Program} {w : World} {K : PySem.W.Frag} {mg : Str → Option Value} {base : Heap} {G : List Addr} {L : List (Addr × Str)}
def spChkClauses (K : PySem.W.Frag) (G : List Addr) (L : List (Addr × Str)) : Sp := fun vs H Q E => ∃ (nv v : V) (nd : List PyData) (d : PyData), vs = [nv, v] ∧ Dp K H nv (.tuple nd) ∧ Dp K H v d ∧ lv 8 (.tuple nd) = true ∧ lv 8 d = true ∧ (∀ ds, d = .tuple ds → ds.length ≤ 60) ∧
  (∀ i, clausesBad nd d = some i → ∀ cls dd H', Go G L H H' → Told K cls dd H' (rulesE "clauses" i) → E cls dd H') ∧ (clausesBad nd d = none → ∀ H', Go G L H H' → Q .non H')
theorem scChkClauses : FnScope ["names", "clauses", "index", "clause"] ["names", "clauses"] (defScope sChkClauses) := C8.fnScope_by (by decide +kernel)
theorem ok_chkClauses {f : Addr} {fd : FuncData} {t40 : Tok} (F : Fun K "check_clauses" "check_clauses" sChkClauses f fd) (zI : mg "isinstance" = none) (z1 : mg "tuple" = none) (zE : mg "enumerate" = none) (g40 : mg "MOST_CLAUSES" = some (.int 40 t40))
    (T : Err P w K mg base "InvalidRules" (spIR K (He.ga K "InvalidRules"))) (N : Fd CX0 P w K mg base "is_clause" 1 (spIsClause K)) : FnOk P w K mg base (L2.CX P w) 3 f fd ["names", "clauses"] (spChkClauses K G L) := by
  refine F.okX scChkClauses (fun vs H Q E h => ?_) (fun cdv A outer s H vs Q E hr h => ?_)
  · obtain ⟨nv, v, nd, d, e, _⟩ := h
    rw [e]
    rfl
  · obtain ⟨nv, v, nd, d, e, hn, hd, l0, l1, hl, qE, q⟩ := h
    subst e
    refine ⟨_, pss_cons (ps_if (pt_not (pt_val (pe_callB call_isi rfl zI boot_isinstance (pa_cons (pv 1) (pa_cons (pe_bltn (v := .ty "tuple") rfl z1 boot_tuple rfl) pa_nil)))))
        (pss_one (ps_raise rfl (takes_of rfl rfl rfl rfl) (pmk_err T hr (pa_cons pe_str (pa_cons pe_int pa_nil))))) pss_nil)
      (pss_one (ps_for (passes_of rfl) rfl (pi_enumT rfl zE (pa_cons (pv 1) pa_nil)) (pg_tup rfl (pgs_cons (pg_name (i := 2) scChkClauses.nd rfl (.inl rfl)) (pgs_cons (pg_name (i := 3) scChkClauses.nd rfl (.inl rfl)) pgs_nil)))
        (pss_one (ps_if (PW.pt (pw_or (pt_cmpR op_ge (pv 2) (pe_glob (v := .int 40) rfl g40 ⟨_, rfl⟩) (nomark _)) (pw_or1 (pt_not (pt_val (pe_fd (E := E0) N hr pass0 (pa_cons (pv 0) (pa_cons (pv 3) pa_nil))))))))
          (pss_one (ps_raise rfl (takes_of rfl rfl rfl rfl) (pmk_err T hr (pa_cons pe_str (pa_cons (pv 2) pa_nil))))) pss_nil)))), ?_⟩
    repeat walk_at "rd"
    refine r_isi (m := "tuple") (Dp.kd hd) (by decide) ?_
    repeat walk_at "rd"
    by_cases hz : ∃ ds, d = .tuple ds
    · obtain ⟨ds, rfl⟩ := hz
      cases hd with
      | @tup a xs _ ha hxs =>
        refine r_if (fun cc => absurd cc (by simp [tyOf])) (fun _ => ?_)
        repeat walk_at "rd"
        have hlen := Dps.length hxs
        have hs60 := hl ds rfl
        have m := lv_mem l1
        refine forET (a := a) (xs := xs) (fun R z => ⟨_, rfl, z⟩) ha (fun i σ H' => ∃ (x3 x4 : Option V), σ = [some nv, some (.ref a), x3, x4] ∧ Go G L H H' ∧ scanC nd 0 ds = scanC nd i (ds.drop i)) ?_ ?_ ?_ ?_
        · exact ⟨none, none, rfl, Go.refl H, rfl⟩
        · rintro i σ H' _ ⟨_, _, _, g, _⟩
          exact sqT_go ha g.1
        · rintro i y T2 σ H1 H2 ey hT rfl ⟨x3, x4, rfl, g, hsc⟩
          have g2 : Go G L H (upd H1 T2 (.tup [.int (i : Nat), y])) := g.trans (Go.new hT)
          refine r_pair (.of upd_same) ?_
          obtain ⟨dy, hdy, hy, hdrop, hil, htk⟩ := dps_at hxs ey
          generalize upd H1 T2 (.tup [.int (i : Nat), y]) = H3 at g2
          have hy2 := Dp.go g2.1 hy
          rw [hdrop] at hsc
          have hmem := List.mem_of_getElem? hdy
          have bad : (decide ((40 : Int) ≤ (i : Nat)) || !clauseOk nd dy) = true → clausesBad nd (.tuple ds) = some i := fun c => by
            show scanC nd 0 ds = some i
            rw [hsc]
            exact if_pos c
          repeat walk_at "rd"
          refine r_if (fun c2 => ?_) (fun c2 => ?_)
          · repeat walk_at "rd"
            refine r_mkIR ?_ (m_cons m_c (m_cons m_var m_nil) _)
            repeat walk_at "rd"
            exact ⟨"clauses", i, rfl, by decide, by omega, fun dd Hx k hx => qE i (bad (by rw [c2]; rfl)) _ _ Hx (g2.trans (Go.same k)) (told_rules hx)⟩
          · repeat walk_at "rd"
            refine ⟨nv, y, nd, dy, rfl, Dp.go g2.1 hn, hy2, l0, m dy hmem, ?_⟩
            repeat walk_at "rd"
            refine r_if (fun c3 => ?_) (fun c3 => ?_)
            · repeat walk_at "rd"
              refine r_mkIR ?_ (m_cons m_c (m_cons m_var m_nil) _)
              repeat walk_at "rd"
              exact ⟨"clauses", i, rfl, by decide, by omega, fun dd Hx k hx => qE i (bad (by rw [c2, c3]; rfl)) _ _ Hx (g2.trans (Go.same k)) (told_rules hx)⟩
            · repeat walk_at "rd"
              refine ⟨_, _, rfl, g2, ?_⟩
              rw [hsc]
              show (if decide ((40 : Int) ≤ (i : Nat)) || !clauseOk nd dy then some i else _) = _
              rw [c2, c3]
              rfl
        · rintro σ H' ⟨x3, x4, rfl, g, hsc⟩
          refine q ?_ H' g
          show scanC nd 0 ds = none
          rw [hsc, hlen, List.drop_length]
          rfl
    · have e1 : (!(tyOf d == "tuple" || tyOf d == "bool" && "tuple" == "int")) = true := by
        cases d <;> first | rfl | exact absurd ⟨_, rfl⟩ hz
      have e2 : clausesBad nd d = some 0 := by
        cases d <;> first | rfl | exact absurd ⟨_, rfl⟩ hz
      rw [if_pos e1]
      repeat walk_at "rd"
      refine r_mkIR ?_ (m_cons m_c (m_cons m_c m_nil) _)
      repeat walk_at "rd"
      exact ⟨"clauses", 0, rfl, by decide, by decide, fun dd Hx k hx => qE 0 e2 _ _ Hx (Go.same k) (told_rules hx)⟩
end
def holdsD (sd : List PyData) (w : Str) (a b : PyData) : Bool :=
  if w = "needs" then (!inD a sd || inD b sd) else if w = "excludes" then (!inD a sd || !inD b sd) else (inD a sd || inD b sd)
section
variable {P : Program} {w : World} {K : PySem.W.Frag} {mg : Str → Option Value} {base : Heap} {G : List Addr} {L : List (Addr × Str)}
theorem r_asgE {te : TE} {g : TG} {D : Ends} {σ : L2.St} {H : Hp} {x : V} (he : ∀ R : VK, R x H → te σ H R) (q : g x σ H D.nx) : tAsg te g D σ H := he _ q
theorem g_three {σ : L2.St} {H : Hp} {T : Addr} {x y z : V} {i j k : Nat} {Q : L2.St → Hp → Prop} (h : SqT K H T [x, y, z]) (q : Q (((σ.set i (some x)).set j (some y)).set k (some z)) H) : gTup K 3 (gCons (gName i) (gCons (gName j) (gCons (gName k) gNil))) (.ref T) σ H Q :=
  ⟨T, _, rfl, h, rfl, _, _, rfl, _, _, rfl, _, _, rfl, rfl, q⟩
def spFul (K : PySem.W.Frag) : Sp := fun vs H Q _ => ∃ sv cv sd w a b, vs = [sv, cv] ∧ Dp K H sv (.tuple sd) ∧ Dp K H cv (.tuple [.str w, a, b]) ∧ lv 8 (.tuple sd) = true ∧ lv 8 a = true ∧ lv 8 b = true ∧ Q (.bl (holdsD sd w a b)) H
theorem scFul : FnScope ["state", "clause", "word", "first", "second"] ["state", "clause"] (defScope sFulfils) := C8.fnScope_by (by decide +kernel)
theorem ok_fulfils {f : Addr} {fd : FuncData} (F : Fun K "fulfils" "fulfils" sFulfils f fd) : FnOk P w K mg base CX0 1 f fd ["state", "clause"] (spFul K) := by
  refine F.ok scFul (fun vs H Q E h => ?_) (fun cdv A outer s H vs Q E hr h => ?_)
  · obtain ⟨sv, cv, sd, w, a, b, e, _⟩ := h
    rw [e]
    rfl
  · obtain ⟨sv, cv, sd, w, a, b, e, hs, hc, l0, l1, l2, q⟩ := h
    subst e
    refine ⟨_, pss_cons (ps_asg (pv 1) (pg_tup rfl (pgs_cons (pg_name (i := 2) scFul.nd rfl (.inl rfl)) (pgs_cons (pg_name (i := 3) scFul.nd rfl (.inl rfl)) (pgs_cons (pg_name (i := 4) scFul.nd rfl (.inl rfl)) pgs_nil)))))
      (pss_cons (ps_if (pt_cmpR op_eq (pv 2) pe_str (nomark _)) (pss_one (ps_ret (pe_or (pe_cmpR (op_notInT (u65 hr)) (pv 3) (pv 0) rfl) (pe_one (pe_cmpR (op_inT (u65 hr)) (pv 4) (pv 0) rfl))))) pss_nil)
      (pss_cons (ps_if (pt_cmpR op_eq (pv 2) pe_str (nomark _)) (pss_one (ps_ret (pe_or (pe_cmpR (op_notInT (u65 hr)) (pv 3) (pv 0) rfl) (pe_one (pe_cmpR (op_notInT (u65 hr)) (pv 4) (pv 0) rfl))))) pss_nil)
      (pss_one (ps_ret (pe_or (pe_cmpR (op_inT (u65 hr)) (pv 3) (pv 0) rfl) (pe_one (pe_cmpR (op_inT (u65 hr)) (pv 4) (pv 0) rfl))))))), ?_⟩
    cases hc with
    | @tup T xs _ hT hxs =>
      have h3 : xs.length = 3 := Dps.length hxs
      obtain ⟨x, y, z, dx, dy, dz, e1, e2, hx, hy, hz⟩ := three_of hxs h3
      cases e2
      subst e1
      cases hx
      refine r_seq (r_asgE (x := .ref T) (fun R z => ⟨_, rfl, z⟩) (g_three hT ?_))
      repeat walk_at "rd"
      refine r_eq rfl ?_
      repeat walk_at "rd"
      refine r_if (fun c1 => ?_) (fun c1 => ?_)
      · have ew : w = "needs" := V.str.inj (of_decide_eq_true c1)
        subst ew
        repeat walk_at "rd"
        refine r_ninT hy hs l1 l0 ?_
        repeat walk_at "rd"
        refine r_if (fun c2 => ?_) (fun c2 => ?_)
        · have e : holdsD sd "needs" a b = true := by
            show (!inD a sd || inD b sd) = true
            rw [c2]
            rfl
          rw [e] at q
          exact q
        · repeat walk_at "rd"
          refine r_inT hz hs l2 l0 ?_
          have e : holdsD sd "needs" a b = inD b sd := by
            show (!inD a sd || inD b sd) = _
            rw [c2]
            rfl
          rw [e] at q
          exact q
      · have ew : w ≠ "needs" := fun z => of_decide_eq_false c1 (congrArg V.str z)
        repeat walk_at "rd"
        refine r_eq rfl ?_
        repeat walk_at "rd"
        refine r_if (fun c3 => ?_) (fun c3 => ?_)
        · have ew2 : w = "excludes" := V.str.inj (of_decide_eq_true c3)
          have e0 : holdsD sd w a b = (!inD a sd || !inD b sd) := by
            unfold holdsD
            rw [if_neg ew, if_pos ew2]
          rw [e0] at q
          repeat walk_at "rd"
          refine r_ninT hy hs l1 l0 ?_
          repeat walk_at "rd"
          refine r_if (fun c2 => ?_) (fun c2 => ?_)
          · rw [c2] at q
            exact q
          · repeat walk_at "rd"
            refine r_ninT hz hs l2 l0 ?_
            rw [c2] at q
            exact q
        · have ew2 : w ≠ "excludes" := fun z => of_decide_eq_false c3 (congrArg V.str z)
          have e0 : holdsD sd w a b = (inD a sd || inD b sd) := by
            unfold holdsD
            rw [if_neg ew, if_neg ew2]
          rw [e0] at q
          repeat walk_at "rd"
          refine r_inT hy hs l1 l0 ?_
          repeat walk_at "rd"
          refine r_if (fun c2 => ?_) (fun c2 => ?_)
          · rw [c2] at q
            exact q
          · repeat walk_at "rd"
            refine r_inT hz hs l2 l0 ?_
            rw [c2] at q
            exact q
structure RulC (K : PySem.W.Frag) (mg : Str → Option Value) : Prop where
  cl : Cls K (cR K)
  n1 : NoAttr K (cR K) "_names"
  n2 : NoAttr K (cR K) "_clauses"
  g : mg "Rules" = some (.ref (cR K))
def rulesBad (dn dc : PyData) : Option PyData := match namesBad dn with
  | some i => some (rulesE "names" i)
  | none => match dn with
    | .tuple nd => (clausesBad nd dc).map (rulesE "clauses")
    | _ => none
def okN (d : PyData) : Prop := lv 7 d = true ∧ ∀ ds, d = .tuple ds → ds.length ≤ 60 ∧ ∀ x ∈ ds, smallS x
def okC (d : PyData) : Prop := lv 8 d = true ∧ ∀ ds, d = .tuple ds → ds.length ≤ 60
def spInit (K : PySem.W.Frag) (G : List Addr) (L : List (Addr × Str)) : Sp := fun vs H Q E => ∃ (x dx : Addr) (nv cv : V) (dn dc : PyData), vs = [.ref x, nv, cv] ∧ H x = some (.ins (cR K) dx []) ∧ Dp K H nv dn ∧ Dp K H cv dc ∧ okN dn ∧ okC dc ∧ TBS G L H ∧
  (∀ D, rulesBad dn dc = some D → ∀ cls dd H', Go G L H H' → Told K cls dd H' D → E cls dd H') ∧ (rulesBad dn dc = none → ∀ Hm, Go G L H Hm → Q .non (upd Hm x (.ins (cR K) dx (rfs nv cv))))
theorem scInit : FnScope ["self", "names", "clauses"] ["self", "names", "clauses"] (defScope (sM 0)) := C8.fnScope_by (by decide +kernel)
theorem ok_init {f : Addr} {fd : FuncData} (F : Fun K "__init__" "Rules.__init__" (sM 0) f fd) (R : RulC K mg) (N : Fd (L2.CX P w) P w K mg base "check_names" 3 (spChkNames K G L)) (C : Fd (L2.CX P w) P w K mg base "check_clauses" 3 (spChkClauses K G L)) :
    FnOk P w K mg base (L2.CX P w) 4 f fd ["self", "names", "clauses"] (spInit K G L) := by
  refine F.okX scInit (fun vs H Q E h => ?_) (fun cdv A outer s H vs Q E hr h => ?_)
  · obtain ⟨x, dx, nv, cv, dn, dc, e, _⟩ := h
    rw [e]
    rfl
  · obtain ⟨x, dx, nv, cv, dn, dc, e, hx, hn, hc, on, oc, ht, qE, q⟩ := h
    subst e
    refine ⟨_, pss_cons (ps_expr (pe_fd N hr (passes_call (takes_of rfl rfl rfl rfl) fun _ _ _ _ z => z) (pa_cons (pv 1) pa_nil)))
      (pss_cons (ps_expr (pe_fd C hr (passes_call (takes_of rfl rfl rfl rfl) fun _ _ _ _ z => z) (pa_cons (pv 1) (pa_cons (pv 2) pa_nil))))
      (pss_cons (ps_fld (pv 0) (pv 1) rfl) (pss_one (ps_fld (pv 0) (pv 2) rfl)))), ?_⟩
    repeat walk_at "rd"
    refine ⟨nv, dn, rfl, hn, on.1, ht, on.2, fun i hi cls dd H' g t => qE _ (by unfold rulesBad; rw [hi]) cls dd H' g t, fun hi H1 g1 => ?_⟩
    have hz : ∃ nd, dn = .tuple nd := by
      cases dn with
      | tuple nd => exact ⟨nd, rfl⟩
      | _ => cases hi
    obtain ⟨nd, rfl⟩ := hz
    have er : rulesBad (.tuple nd) dc = (clausesBad nd dc).map (rulesE "clauses") := by
      unfold rulesBad
      rw [hi]
    repeat walk_at "rd"
    refine ⟨nv, cv, nd, dc, rfl, Dp.go g1.1 hn, Dp.go g1.1 hc, lv_succ on.1, oc.1, oc.2, fun i hc' cls dd H' g t => qE _ (by rw [er, hc']; rfl) cls dd H' (g1.trans g) t, fun hc' H2 g2 => ?_⟩
    have g3 := g1.trans g2
    have hx2 : H2 x = some (.ins (cR K) dx []) := g3.1 x _ hx fun _ z => by cases z
    repeat walk_at "rd"
    refine ⟨_, rfl, .ref x, rfl, x, _, dx, [], rfl, hx2, R.cl, R.n1, (by show 0 < 1000; decide), ?_⟩
    refine ⟨_, rfl, .ref x, rfl, x, _, dx, _, rfl, upd_same, R.cl, R.n2, (by show 1 < 1000; decide), ?_⟩
    have z := q (by rw [er, hc']; rfl) H2 g3
    rw [upd_upd]
    exact z
end
section
variable {P : Program} {w : World} {K : PySem.W.Frag} {mg : Str → Option Value} {base : Heap} {G : List Addr} {L : List (Addr × Str)}
/-- Rules(..) may be called -/
structure Mkr (P : Program) (w : World) (K : PySem.W.Frag) (mg : Str → Option Value) (base : Heap) (G : List Addr) (L : List (Addr × Str)) : Prop where
  rc : RulC K mg
  ex : ∃ (f : Addr) (fd : FuncData) (ps : List Str), Mk K (cR K) f ∧ FnOk P w K mg base (L2.CX P w) 4 f fd ps (spInit K G L) ∧ Binds K fd ps []
theorem pe_rules {X : Cx} {j : Nat} {E : XK} {p pos : Pos} {e : Expr} {es : List Expr} {t : TA} (M : Mkr X.prog X.w X.K X.mg X.base G L) (hr : Room j X.A) (hx : Passes (L2.CX X.prog X.w) X E) (ha : PA X (e :: es) t) (hk : 5 ≤ j := by decide) (hg : Gl X "Rules" := by rfl)
    (he : starEach (e :: es) X.env = (false, eval e X.env) :: starEach es X.env := by rfl) (hpl : (backTo pos (starEach es X.env)).any (·.1) = false := by rfl) :
    PE X (.Call (.Name "Rules" p) (e :: es) [] pos) (tMake (cR X.K) (spInit X.K G L) [] E t) := by
  obtain ⟨f, fd, ps, h1, F, b⟩ := M.ex
  exact pe_make h1 F (hr.mono hk) hg M.rc.g b .nil hx ha (by decide) he hpl
/-- what Rules(..) asks -/
def aRules (K : PySem.W.Frag) (G : List Addr) (L : List (Addr × Str)) (E : XK) (Q : VK) : List V → Hp → Prop := fun vs H1 => ∃ nv cv dn dc, vs = [nv, cv] ∧ Dp K H1 nv dn ∧ Dp K H1 cv dc ∧ okN dn ∧ okC dc ∧ TBS G L H1 ∧
  (∀ D, rulesBad dn dc = some D → ∀ cls dd H', Go G L H1 H' → Told K cls dd H' D → E cls dd H') ∧ (rulesBad dn dc = none → ∀ x dx H', Go G L H1 H' → H' x = some (.ins (cR K) dx (rfs nv cv)) → Q (.ref x) H')
theorem mk_rules {H1 : Hp} {vs : List V} {E : XK} {Q : VK} (h : aRules K G L E Q vs H1) : ∀ x dx, H1 x = none → H1 dx = none → dx ≠ x → spInit K G L (.ref x :: (vs ++ [])) (upd (upd H1 dx (.own x)) x (.ins (cR K) dx [])) (fun v H2 => v = .non ∧ Q (.ref x) H2) E := by
  obtain ⟨nv, cv, dn, dc, ev, hn, hc, on, oc, ht, qE, q⟩ := h
  subst ev
  intro x dx nx ndx nex
  have g0 : Go G L H1 (upd (upd H1 dx (.own x)) x (.ins (cR K) dx [])) := (Go.new ndx).trans (Go.new (by rw [upd_ne nex.symm]; exact nx))
  refine ⟨x, dx, nv, cv, dn, dc, rfl, upd_same, Dp.go g0.1 hn, Dp.go g0.1 hc, on, oc, g0.2 ht, fun D hD cls dd H' g t => qE D hD cls dd H' (g0.trans g) t, fun hb Hm g => ⟨rfl, q hb x dx _ ?_ upd_same⟩⟩
  have g1 := g0.trans g
  have hx : Hm x = some (.ins (cR K) dx []) := g.1 x _ upd_same fun _ z => by cases z
  refine ⟨fun b o e nt => by rw [upd_ne (ne_of_none e nx)]; exact g1.1 b o e nt, fun t => ?_⟩
  have t1 := g1.2 t
  have k : ∀ b o, (∀ z, o ≠ .ins (cR K) dx z) → Hm b = some o → upd Hm x (.ins (cR K) dx (rfs nv cv)) b = some o := fun b o n e => by
    rw [upd_ne (fun z => by rw [z, hx] at e; exact n _ (Option.some.inj e).symm)]
    exact e
  refine ⟨fun p hp => ?_, fun p hp => ?_⟩
  · obtain ⟨ps, e, _⟩ := t1.1 p hp
    exact tabG_keep (t1.1 p hp) fun o eo => k p o (fun z q => by rw [q, e] at eo; cases eo) eo
  · obtain ⟨ps, e, _⟩ := t1.2 p hp
    exact tabS_keep (t1.2 p hp) (fun o eo => k _ o (fun z q => by rw [q, e] at eo; cases eo) eo) fun c hc => k c _ (fun z q => by
      have q' : HO.ext _ = HO.ins (cR K) dx z := q
      cases q') hc
theorem r_catT {H : Hp} {Q : VK} {a b : Addr} {xs ys : List V} (h1 : Tp H a xs) (h2 : Tp H b ys) (hl : xs.length + ys.length ≤ sizeLine) (q : ∀ p H', (∀ b o, H b = some o → H' b = some o) → Tp H' p (xs ++ ys) → Q (.ref p) H') : rCatA K (.ref a) (.ref b) H Q := by
  refine ⟨a, b, xs, ys, rfl, rfl, h1.seq, h2.seq, hl, fun e => q b H (fun _ _ e => e) (by rw [e]; exact h2), fun _ e => q a H (fun _ _ e => e) (by rw [e, List.append_nil]; exact h1), fun _ _ p hp => q p _ (fun b o e => by rw [upd_ne (ne_of_none e hp)]; exact e) (.inl upd_same)⟩
theorem RulesAt.kt {H H' : Hp} {x : Addr} {ns : List Str} {cd : List PyData} (h : RulesAt K H x ns cd) (k : KT H H') : RulesAt K H' x ns cd := by
  obtain ⟨dx, an, ac, xs, h1, h2, h3, h4⟩ := h
  exact ⟨dx, an, ac, xs, k x _ (fun _ z => by cases z) (fun _ z => by cases z) h1, h2.kt k, h3.kt k, h4.kt k⟩
theorem lv_strs {n : Nat} {ns : List Str} (h : ∀ z ∈ ns, PyData.strOk z = true) : lv (n + 1) (.tuple (ns.map PyData.str)) = true := lv_tup fun d hd => by
  obtain ⟨z, hz, e⟩ := List.mem_map.mp hd
  rw [← e]
  cases n <;> exact h z hz
theorem lv_up {n m : Nat} {d : PyData} (h : lv n d = true) (hm : n ≤ m) : lv m d = true := by
  induction hm with
  | refl => exact h
  | step _ ih => exact lv_succ ih
theorem OkR.on {ns : List Str} {cd : List PyData} (h : OkR ns cd) : okN (.tuple (ns.map PyData.str)) := ⟨lv_strs h.gs.1, fun ds e => by
  cases e
  refine ⟨by rw [List.length_map]; exact h.gs.2, fun x hx => ?_⟩
  obtain ⟨z, hz, e⟩ := List.mem_map.mp hx
  rw [← e]
  exact h.sm z hz⟩
theorem scanC_none {nd : List PyData} : ∀ {ds : List PyData} {i : Nat}, (∀ d ∈ ds, clauseOk nd d = true) → i + ds.length ≤ 40 → scanC nd i ds = none
  | [], _, _, _ => rfl
  | d :: ds, i, h, hl => by
    rw [List.length_cons] at hl
    show (if decide ((40 : Int) ≤ (i : Nat)) || !clauseOk nd d then some i else scanC nd (i + 1) ds) = none
    rw [h d (by simp), decide_eq_false (by omega)]
    exact scanC_none (fun d hd => h d (List.mem_cons_of_mem _ hd)) (by omega)
theorem scanC_full {nd : List PyData} : ∀ {ds : List PyData} {i : Nat}, (∀ d ∈ ds, clauseOk nd d = true) → i ≤ 40 → 40 < i + ds.length → scanC nd i ds = some 40
  | [], i, _, h1, h2 => by simp at h2; omega
  | d :: ds, i, h, h1, h2 => by
    rw [List.length_cons] at h2
    show (if decide ((40 : Int) ≤ (i : Nat)) || !clauseOk nd d then some i else scanC nd (i + 1) ds) = _
    rw [h d (by simp)]
    by_cases hi : i = 40
    · subst hi
      rfl
    · rw [decide_eq_false (by omega)]
      exact scanC_full (fun d hd => h d (List.mem_cons_of_mem _ hd)) (by omega) (by omega)
theorem OkR.rb {ns : List Str} {cd ce : List PyData} (h : OkR ns cd) (hc : ∀ d ∈ ce, clauseOk (ns.map PyData.str) d = true) : rulesBad (.tuple (ns.map PyData.str)) (.tuple ce) = if ce.length ≤ 40 then none else some (rulesE "clauses" 40) := by
  unfold rulesBad
  rw [h.nb]
  show (scanC (ns.map PyData.str) 0 ce).map (rulesE "clauses") = _
  by_cases hl : ce.length ≤ 40
  · rw [scanC_none hc (by omega), if_pos hl]
    rfl
  · rw [scanC_full hc (by omega) (by omega), if_neg hl]
    rfl
end
section
variable {P : Program} {w : World} {K : PySem.W.Frag} {mg : Str → Option Value} {base : Heap} {G : List Addr} {L : List (Addr × Str)}
/-- an own error without __init__ -/
structure Er0 (K : PySem.W.Frag) (mg : Str → Option Value) (x : Str) : Prop where
  q : PySem.W.excIn K (He.ga K x) He.veBase "ValueError.__new__" = true
  g : mg x = some (.ref (He.ga K x))
  k : PySem.W.keepIn K (.ref (He.ga K x)) = true
  b : PySem.W.subIn K (.ref (He.ga K x)) (.type "BaseException") = some true
  t : PySem.W.typeIn K (.ref (He.ga K x)) = some (.type "type")
theorem pmk_er0 {X : Cx} {x m : Str} {j : Nat} {p p2 pos : Pos} (T : Er0 X.K X.mg x) (hg : Gl X x := by rfl) (hdb : (x == ("__debug__" : Str)) = false := by decide) : PMk X (.Call (.Name x p) [.Constant (.str m) j p2] [] pos) (fun _ H Q => Q (.ref (He.ga X.K x)) none H) :=
  pmk_own PySem.F.excBase_ValueError T.q T.g T.k (raises_own T.b T.t) hg hdb
/-- a method of Rules -/
structure Fm (P : Program) (w : World) (K : PySem.W.Frag) (mg : Str → Option Value) (base : Heap) (m : Str) (k : Nat) (sp : Sp) : Prop where
  c : Cls K (cR K)
  ex : ∃ (f : Addr) (fd : FuncData) (ps : List Str), Meth K (cR K) m f ∧ FnOk P w K mg base (L2.CX P w) k f fd ps sp ∧ Binds K fd ps []
theorem pe_fm {X : Cx} {m : Str} {k j : Nat} {sp : Sp} {E : XK} {o e : Expr} {es : List Expr} {apos pos : Pos} {ta : TE} {t : TA} {pl : Sem Bool} (c : Fm X.prog X.w X.K X.mg X.base m k sp) (hr : Room j X.A) (he : PE X o ta) (hx : Passes (L2.CX X.prog X.w) X E) (ha : PA X (e :: es) t) (hk : k ≤ j := by decide)
    (hc : eval (.Call (.Attribute o m apos) (e :: es) [] pos) X.env = (do
      let ov ← eval o X.env
      standAt apos.atName
      let (f, first) ← holding [ov] (getMethod ov m pl)
      callWith pos f first (backTo pos (starEach (e :: es) X.env)) (backToKw pos (keywordEach [] X.env))) := by rfl)
    (hs : starEach (e :: es) X.env = (false, eval e X.env) :: starEach es X.env := by rfl) (hpl : (backTo pos (starEach es X.env)).any (·.1) = false := by rfl) :
    PE X (.Call (.Attribute o m apos) (e :: es) [] pos) (tMeth (cR X.K) m sp [] E ta t) := by
  obtain ⟨f, fd, ps, h1, F, b⟩ := c.ex
  exact pe_meth he c.c h1 F (hr.mono hk) b .nil hx ha hs hpl hc
theorem r_fm {σ : L2.St} {H : Hp} {m : Str} {sp : Sp} {E : XK} {ta : TE} {t : TA} {Q : VK} {x : Addr} {ns : List Str} {cd : List PyData} (hx : ∀ R : VK, R (.ref x) H → ta σ H R) (hR : RulesAt K H x ns cd) (hn : ∀ nv cv, (rfs nv cv).lookup m = none) (h : t σ H fun vs H2 => sp (.ref x :: (vs ++ [])) H2 Q E) : tMeth (cR K) m sp [] E ta t σ H Q := by
  obtain ⟨dx, an, ac, xs, h1, _⟩ := hR
  exact hx _ ⟨x, dx, _, rfl, h1, hn _ _, h⟩
/-- self._names, self._clauses -/
theorem r_fnames {H : Hp} {Q : VK} {x : Addr} {ns : List Str} {cd : List PyData} (R : RulC K mg) (h : RulesAt K H x ns cd) (q : ∀ an, NT H an (ns.map V.str) → Q (.ref an) H) : rFld K "_names" (.ref x) H Q := by
  obtain ⟨dx, an, ac, xs, h1, h2, _⟩ := h
  exact ⟨x, _, dx, _, .ref an, rfl, h1, R.cl, R.n1, rfl, q an h2⟩
theorem r_fclauses {H : Hp} {Q : VK} {x : Addr} {ns : List Str} {cd : List PyData} (R : RulC K mg) (h : RulesAt K H x ns cd) (q : ∀ ac xs, Tp H ac xs → Ims H xs cd → Q (.ref ac) H) : rFld K "_clauses" (.ref x) H Q := by
  obtain ⟨dx, an, ac, xs, h1, _, h3, h4⟩ := h
  exact ⟨x, _, dx, _, .ref ac, rfl, h1, R.cl, R.n2, rfl, q ac xs h3 h4⟩
end
section
variable {P : Program} {w : World} {K : PySem.W.Frag} {mg : Str → Option Value} {base : Heap} {G : List Addr} {L : List (Addr × Str)}
def brk (sd : List PyData) : PyData → Bool
  | .tuple [.str w, a, b] => !holdsD sd w a b
  | _ => false
def brokenFrom (sd : List PyData) : Nat → List PyData → List Nat
  | _, [] => []
  | i, d :: ds => if brk sd d then i :: brokenFrom sd (i + 1) ds else brokenFrom sd (i + 1) ds
def spBroken (K : PySem.W.Frag) (G : List Addr) (L : List (Addr × Str)) : Sp := fun vs H Q E => ∃ (x : Addr) (v : V) (ns : List Str) (cd : List PyData) (d : PyData), vs = [.ref x, v] ∧ RulesAt K H x ns cd ∧ OkR ns cd ∧ Dp K H v d ∧ lv 7 d = true ∧ (∀ ds, d = .tuple ds → ds.length ≤ 60) ∧
  (∀ i, stateBad ns d = some i → ∀ cls dd H', Go G L H H' → Told K cls dd H' (.tuple [.str "invalid", .int (i : Nat)]) → E cls dd H') ∧
  (∀ ds, d = .tuple ds → stateBad ns d = none → ∀ H' l, (∀ o, (∀ ps, o ≠ .tbl ps) → H l ≠ some o) → Go G L H H' → H' l = some (.lst ((brokenFrom ds 0 cd).map fun i => V.int (i : Nat))) → Q (.ref l) H')
theorem lv_str {n : Nat} {z : Str} (h : PyData.strOk z = true) : lv n (.str z) = true := by
  cases n <;> exact h
def iOr (u v : TI) : TI := fun σ H R => u σ H R ∨ v σ H R
theorem pi_or {X : Cx} {tg iter : Expr} {u v : TI} (a : PI X tg iter u) (b : PI X tg iter v) : PI X tg iter (iOr u v) := ⟨fun pins s σ H R I h => by
  rcases h with h | h
  · exact a.run pins s σ H R I h
  · exact b.run pins s σ H R I h⟩
theorem Sq2.go {H H' : Hp} {b : Bool} {a : Addr} {xs : List V} (g : Go G L H H') (h : Sq2 H b a xs) : Sq2 H' b a xs := by
  cases b
  · exact Tp.kt h g.kt
  · exact g.lst h
theorem lcB {σ : L2.St} {H : Hp} {a : Addr} {xs : List V} {Q : VK} {te : TE} {g : TG} {tt : TT} {el : TE} {vs : List Nat} (b : Bool) (he : ∀ R : VK, R (.ref a) H → te σ H R) (hq : Sq2 H b a xs) (Pv : Addr → Nat → Hp → Prop)
    (h0 : ∀ D, H D = none → Pv D 0 (upd H D (.lst []))) (hG : ∀ D i H', H D = none → i ≤ xs.length → Pv D i H' → Sq2 H' b a xs)
    (hs : ∀ D i x H1, H D = none → xs[i]? = some x → Pv D i H1 → g x (wipe σ vs) H1 fun σ2 H2 => wipe σ2 vs = wipe σ vs ∧ tt σ2 H2 fun b H3 =>
      if b = true then el σ2 H3 fun y H4 => ∃ acc, H4 D = some (.lst acc) ∧ acc.length < sizeLine ∧ Pv D (i + 1) (upd H4 D (.lst (acc ++ [y]))) else Pv D (i + 1) H3) (hd : ∀ D H', H D = none → Pv D xs.length H' → Q (.ref D) H') : tLc (iOr (iTup K te) (iList K te)) g tt el vs σ H Q := by
  cases b
  · exact .inl (lcT (K := K) he (Tp.seq hq) Pv h0 (fun D i H' hD hi p => Tp.seq (hG D i H' hD hi p)) hs hd)
  · exact .inr (lcL (K := K) he (.of hq) Pv h0 (fun D i H' hD hi p => .of (hG D i H' hD hi p)) hs hd)
/-- enumerate of a list | of a tuple, in a comprehension -/
theorem lcEL {σ : L2.St} {H : Hp} {Q : VK} {te : TE} {g : TG} {tt : TT} {el : TE} {vs : List Nat} {a : Addr} {xs : List V} (he : ∀ R : VK, R (.ref a) H → te σ H R) (hq : SqL K H a xs) (Pv : Addr → Nat → Hp → Prop)
    (h0 : ∀ D, H D = none → Pv D 0 (upd H D (.lst []))) (hG : ∀ D i H', H D = none → i ≤ xs.length → Pv D i H' → SqL K H' a xs)
    (hs : ∀ D i x T H1, H D = none → xs[i]? = some x → H1 T = none → Pv D i H1 → g (.ref T) (wipe σ vs) (upd H1 T (.tup [.int (i : Nat), x])) fun σ2 H2 => wipe σ2 vs = wipe σ vs ∧ tt σ2 H2 fun b H3 =>
      if b = true then el σ2 H3 fun y H4 => ∃ acc, H4 D = some (.lst acc) ∧ acc.length < sizeLine ∧ Pv D (i + 1) (upd H4 D (.lst (acc ++ [y]))) else Pv D (i + 1) H3) (hd : ∀ D H', H D = none → Pv D xs.length H' → Q (.ref D) H') : tLc (iEnum K (tCons te tNil)) g tt el vs σ H Q := by
  refine r_lcI (fun R z => he _ ⟨a, xs, rfl, hq, z⟩) walk_enum Pv h0 hG ?_ hd
  rintro D i x H1 H2 hD hi p ⟨T, x1, y, ev, hT, eH, e1, e2⟩
  cases e1
  rw [ev, eH]
  exact hs D i y T H1 hD e2 hT p
theorem lcEB {σ : L2.St} {H : Hp} {a : Addr} {xs : List V} {Q : VK} {te : TE} {g : TG} {tt : TT} {el : TE} {vs : List Nat} (b : Bool) (he : ∀ R : VK, R (.ref a) H → te σ H R) (hq : Sq2 H b a xs) (Pv : Addr → Nat → Hp → Prop)
    (h0 : ∀ D, H D = none → Pv D 0 (upd H D (.lst []))) (hG : ∀ D i H', H D = none → i ≤ xs.length → Pv D i H' → Sq2 H' b a xs)
    (hs : ∀ D i x T H1, H D = none → xs[i]? = some x → H1 T = none → Pv D i H1 → g (.ref T) (wipe σ vs) (upd H1 T (.tup [.int (i : Nat), x])) fun σ2 H2 => wipe σ2 vs = wipe σ vs ∧ tt σ2 H2 fun b H3 =>
      if b = true then el σ2 H3 fun y H4 => ∃ acc, H4 D = some (.lst acc) ∧ acc.length < sizeLine ∧ Pv D (i + 1) (upd H4 D (.lst (acc ++ [y]))) else Pv D (i + 1) H3) (hd : ∀ D H', H D = none → Pv D xs.length H' → Q (.ref D) H') : tLc (iOr (iEnumT K (tCons te tNil)) (iEnum K (tCons te tNil))) g tt el vs σ H Q := by
  cases b
  · exact .inl (lcET (K := K) he (Tp.seq hq) Pv h0 (fun D i H' hD hi p => Tp.seq (hG D i H' hD hi p)) hs hd)
  · exact .inr (lcEL (K := K) he (.of hq) Pv h0 (fun D i H' hD hi p => .of (hG D i H' hD hi p)) hs hd)
def spAmong (K : PySem.W.Frag) (G : List Addr) (L : List (Addr × Str)) : Sp := fun vs H Q _ => ∃ (b : Bool) (ac : Addr) (xs : List V) (cd ds : List PyData) (v : V), vs = [.ref ac, v] ∧ Sq2 H b ac xs ∧ Ims H xs cd ∧ Dp K H v (.tuple ds) ∧ lv 7 (.tuple ds) = true ∧ cd.length ≤ 1000 ∧ (∀ d ∈ cd, ClS d) ∧
  ∀ H' l, Go G L H H' → H l = none → H' l = some (.lst ((brokenFrom ds 0 cd).map fun i => V.int (i : Nat))) → Q (.ref l) H'
abbrev nAmong : List Str := ["clauses", "state", "index", "clause"]
theorem scAmong : FnScope nAmong ["clauses", "state"] (defScope sAmong) := C8.fnScope_by (by decide +kernel)
theorem ok_among {f : Addr} {fd : FuncData} (F : Fun K "broken_among" "broken_among" sAmong f fd) (zE : mg "enumerate" = none) (FF : Fd CX0 P w K mg base "fulfils" 1 (spFul K)) :
    FnOk P w K mg base CX0 2 f fd ["clauses", "state"] (spAmong K G L) := by
  refine F.ok scAmong (fun vs H Q E h => ?_) (fun cdv A outer s H vs Q E hr h => ?_)
  · obtain ⟨b, ac, xs, cd, ds, v, e, _⟩ := h
    rw [e]
    rfl
  · obtain ⟨b, ac, xs, cd, ds, v, e, hac, hxs, hd, l7, hcl, hcs, q⟩ := h
    subst e
    refine ⟨_, pss_one (ps_ret (pe_lc (own := [("index", 2), ("clause", 3)]) (g := gTup K 2 (gCons (gName 2) (gCons (gName 3) gNil))) (wi := iOr (iEnumT K (tCons (tVar 0) tNil)) (iEnum K (tCons (tVar 0) tNil))) rfl scAmong.nd (pi_or (pi_enumT rfl zE (pa_cons (pv 0) pa_nil)) (pi_enum rfl zE (pa_cons (pv 0) pa_nil)))
        (blkOk_by (own := [("index", 2), ("clause", 3)]) (N := nAmong) (sc := defScope sAmong) (by decide +kernel))
        (fun _ _ _ _ _ => pg_tup rfl (pgs_cons (pg_name (i := 2) scAmong.nd rfl (.inl rfl)) (pgs_cons (pg_name (i := 3) scAmong.nd rfl (.inl rfl)) pgs_nil)))
        (fun _ _ _ _ _ => pts_one (pt_not (pt_val (pe_fd (E := E0) FF hr pass0 (pa_cons (pv 1) (pa_cons (pv 3) pa_nil)))))) (fun _ _ _ _ _ => pv 2))), ?_⟩
    have hlx := hxs.length
    repeat walk_at "rd"
    refine lcEB (a := ac) (xs := xs) b (fun R' z => ⟨_, rfl, z⟩) hac
      (fun D i H' => ∃ acc : List Nat, Go G L H H' ∧ H' D = some (.lst (acc.map fun i => V.int (i : Nat))) ∧ acc.length ≤ i ∧ brokenFrom ds 0 cd = acc ++ brokenFrom ds i (cd.drop i)) ?_ ?_ ?_ ?_
    · intro D hD
      exact ⟨[], Go.new hD, upd_same, Nat.le_refl _, rfl⟩
    · rintro D i H' hD _ ⟨acc, g, _⟩
      exact hac.go g
    · rintro D i y T2 H2 hD ey hT ⟨acc, g, hDl, hal, hb2⟩
      have g3 : Go G L H (upd H2 T2 (.tup [.int (i : Nat), y])) := g.trans (Go.new hT)
      have hDl3 : (upd H2 T2 (.tup [.int (i : Nat), y])) D = some (.lst (acc.map fun i => V.int (i : Nat))) := by rw [upd_ne (ne_of_none hDl hT)]; exact hDl
      refine r_pair (.of upd_same) ⟨rfl, ?_⟩
      generalize upd H2 T2 (.tup [.int (i : Nat), y]) = H3 at g3 hDl3
      obtain ⟨dy, hdy, hy⟩ := hxs.get ey
      obtain ⟨hil, e1⟩ := List.getElem?_eq_some_iff.mp hdy
      have hdrop : cd.drop i = dy :: cd.drop (i + 1) := by
        rw [← e1]
        exact List.drop_eq_getElem_cons hil
      have hmem := List.mem_of_getElem? hdy
      obtain ⟨w', a', b', rfl, hw', ha', hb'⟩ := hcs dy hmem
      repeat walk_at "rd"
      refine ⟨v, y, ds, w', _, _, rfl, Dp.go g3.1 hd, (hy.kt g3.kt).dp, lv_succ l7, lv_str ha', lv_str hb', ?_⟩
      repeat walk_at "rd"
      rw [hdrop] at hb2
      refine r_if (fun c => ?_) (fun c => ?_)
      · repeat walk_at "rd"
        refine ⟨_, hDl3, ?_, acc ++ [i], g3.updNew hD hDl3, ?_, ?_, ?_⟩
        · rw [List.length_map, sizeLine_eq]
          omega
        · rw [upd_same, List.map_append]
          rfl
        · rw [List.length_append]
          show acc.length + 1 ≤ i + 1
          omega
        · rw [hb2]
          have e : brokenFrom ds i (.tuple [.str w', .str a', .str b'] :: cd.drop (i + 1)) = i :: brokenFrom ds (i + 1) (cd.drop (i + 1)) := if_pos c
          rw [e, List.append_assoc]
          rfl
      · refine ⟨acc, g3, hDl3, by omega, ?_⟩
        rw [hb2]
        have e : brokenFrom ds i (.tuple [.str w', .str a', .str b'] :: cd.drop (i + 1)) = brokenFrom ds (i + 1) (cd.drop (i + 1)) := if_neg (by rw [show brk ds (.tuple [.str w', .str a', .str b']) = false from c]; decide)
        rw [e]
    · rintro D H' hD ⟨acc, g, hDl, _, hb2⟩
      have e : brokenFrom ds xs.length (cd.drop xs.length) = [] := by
        rw [hlx, List.drop_length]
        rfl
      rw [e, List.append_nil] at hb2
      exact q H' D g hD (by rw [hb2]; exact hDl)
theorem scBroken : FnScope ["self", "state"] ["self", "state"] (defScope (sM 6)) := C8.fnScope_by (by decide +kernel)
theorem ok_broken {f : Addr} {fd : FuncData} (F : Fun K "broken_clauses" "Rules.broken_clauses" (sM 6) f fd) (R : RulC K mg) (C : Fd (L2.CX P w) P w K mg base "check_state" 3 (spChkState K G L)) (AM : Fd CX0 P w K mg base "broken_among" 2 (spAmong K G L)) :
    FnOk P w K mg base (L2.CX P w) 4 f fd ["self", "state"] (spBroken K G L) := by
  refine F.okX scBroken (fun vs H Q E h => ?_) (fun cdv A outer s H vs Q E hr h => ?_)
  · obtain ⟨x, v, ns, cd, d, e, _⟩ := h
    rw [e]
    rfl
  · obtain ⟨x, v, ns, cd, d, e, hR, ok, hd, l7, hl, qE, q⟩ := h
    subst e
    refine ⟨_, pss_cons (ps_expr (pe_fd C hr (passes_call (takes_of rfl rfl rfl rfl) fun _ _ _ _ z => z) (pa_cons (pe_fld (pv 0) rfl) (pa_cons (pv 1) pa_nil))))
      (pss_one (ps_ret (pe_fd (E := E0) AM hr pass0 (pa_cons (pe_fld (pv 0) rfl) (pa_cons (pv 1) pa_nil))))), ?_⟩
    repeat walk_at "rd"
    refine r_fnames R hR fun an han => ?_
    repeat walk_at "rd"
    refine ⟨an, v, ns, d, rfl, han, hd, ok.gs, l7, hl, qE, fun hb H1 g1 => ?_⟩
    have hz : ∃ ds, d = .tuple ds := by
      cases d with
      | tuple ds => exact ⟨ds, rfl⟩
      | _ => cases hb
    obtain ⟨ds, rfl⟩ := hz
    repeat walk_at "rd"
    refine r_fclauses R (hR.kt g1.kt) fun ac xs hac hxs => ?_
    repeat walk_at "rd"
    exact ⟨false, ac, xs, cd, ds, v, rfl, hac, hxs, Dp.go g1.1 hd, l7, by have := ok.cl; omega, ok.cls, fun H' l g2 nl e => q ds rfl hb H' l (fun o ho z => by have z2 := g1.1 l o z ho; rw [nl] at z2; cases z2) (g1.trans g2) e⟩
end
section
variable {P : Program} {w : World} {K : PySem.W.Frag} {mg : Str → Option Value} {base : Heap} {G : List Addr} {L : List (Addr × Str)}
structure Fp (P : Program) (w : World) (K : PySem.W.Frag) (mg : Str → Option Value) (base : Heap) (m f : Str) : Prop where
  c : Cls K (cR K)
  ex : ∃ (p g : Addr) (fd : FuncData), PropOf K (cR K) m p g ∧ FnOk P w K mg base CX0 1 g fd ["self"] (getSp (cR K) f) ∧ Binds K fd ["self"] []
theorem pe_fp {X : Cx} {m f : Str} {j : Nat} {e : Expr} {pos : Pos} {ta : TE} (c : Fp X.prog X.w X.K X.mg X.base m f) (hr : Room j X.A) (he : PE X e ta) (hk : 2 ≤ j := by decide) (hab : attributeBase e m X.env (eval e X.env) = eval e X.env := by rfl) :
    PE X (.Attribute e m pos) (tProp (cR X.K) (getSp (cR X.K) f) [] E0 ta) := by
  obtain ⟨p, g, fd, h1, F, b⟩ := c.ex
  exact pe_prop he c.c h1 F (hr.mono hk) b .nil pass0 hab
theorem scGet (i : Nat) (h : i = 1 ∨ i = 2) : FnScope ["self"] ["self"] (defScope (sM i)) := by
  rcases h with rfl | rfl <;> exact C8.fnScope_by (by decide +kernel)
theorem ok_names {g : Addr} {fd : FuncData} (F : Fun K "names" "Rules.names" (sM 1) g fd) (R : RulC K mg) : FnOk P w K mg base CX0 1 g fd ["self"] (getSp (cR K) "_names") := by
  obtain ⟨oc, od, kV, doc, pm, an, cdv, ct, osl, efd, lk, hcd⟩ := F.ex
  subst efd
  exact fn_getter (f := "_names") lk hcd (scGet 1 (.inl rfl)) rfl rfl R.cl R.n1
theorem ok_clauses {g : Addr} {fd : FuncData} (F : Fun K "clauses" "Rules.clauses" (sM 2) g fd) (R : RulC K mg) : FnOk P w K mg base CX0 1 g fd ["self"] (getSp (cR K) "_clauses") := by
  obtain ⟨oc, od, kV, doc, pm, an, cdv, ct, osl, efd, lk, hcd⟩ := F.ex
  subst efd
  exact fn_getter (f := "_clauses") lk hcd (scGet 2 (.inr rfl)) rfl rfl R.cl R.n2
theorem r_pnames {σ : L2.St} {H : Hp} {Q : VK} {ta : TE} {x : Addr} {ns : List Str} {cd : List PyData} (hx : ∀ R : VK, R (.ref x) H → ta σ H R) (h : RulesAt K H x ns cd) (q : ∀ an, NT H an (ns.map V.str) → Q (.ref an) H) : tProp (cR K) (getSp (cR K) "_names") [] E0 ta σ H Q := by
  obtain ⟨dx, an, ac, xs, h1, h2, _⟩ := h
  exact hx _ ⟨x, dx, _, rfl, h1, x, dx, _, .ref an, rfl, h1, rfl, q an h2⟩
theorem r_pclauses {σ : L2.St} {H : Hp} {Q : VK} {ta : TE} {x : Addr} {ns : List Str} {cd : List PyData} (hx : ∀ R : VK, R (.ref x) H → ta σ H R) (h : RulesAt K H x ns cd) (q : ∀ ac xs, Tp H ac xs → Ims H xs cd → Q (.ref ac) H) : tProp (cR K) (getSp (cR K) "_clauses") [] E0 ta σ H Q := by
  obtain ⟨dx, an, ac, xs, h1, _, h3, h4⟩ := h
  exact hx _ ⟨x, dx, _, rfl, h1, x, dx, _, .ref ac, rfl, h1, rfl, q ac xs h3 h4⟩
end
section
variable {P : Program} {w : World} {K : PySem.W.Frag} {mg : Str → Option Value} {base : Heap} {G : List Addr} {L : List (Addr × Str)}
theorem r_par {σ : L2.St} {H : Hp} {D : Ends} {i j : Nat} {ta : TA} (h : ta σ H fun vs H1 => ∃ v w, vs = [v, w] ∧ D.nx ((σ.set i (some v)).set j (some w)) H1) : tPar i j ta D σ H := h
end
section
variable {P : Program} {w : World} {K : PySem.W.Frag} {mg : Str → Option Value} {base : Heap} {G : List Addr} {L : List (Addr × Str)}
theorem Row.kt {H H' : Hp} {r : Rid} (h : Row K H r) (g : GoR G L r.r H H') : KT H H' := by
  obtain ⟨_, h⟩ := h.lst
  exact g.kt h
theorem Row.ev {H H' : Hp} {r : Rid} (h : Row K H r) (g : Ev r.r H H') (hr : ∀ o, H r.r = some o → H' r.r = some o) : Row K H' r := by
  obtain ⟨i, s, l, sc, hn, h, hi⟩ := h
  exact .mk' sc hn g (hr _ h) hi
/-- the script of h0, the counts of h -/
theorem Row.re {H0 H H' : Hp} {r : Rid} (h0 : Row K H0 r) (h : Row K H r) (g : Ev r.r H0 H') (hr : H' r.r = H r.r) : Row K H' r := by
  obtain ⟨_, _, _, sc, hn, _, _⟩ := h0
  obtain ⟨i, s, l, _, _, e, hi⟩ := h
  exact .mk' sc hn g (hr.trans e) hi
theorem Row.go {H H' : Hp} {r : Rid} (h : Row K H r) (g : Go G L H H') : Row K H' r :=
  h.ev (ev_of g.1) fun o e => g.1 r.r o e (by
    obtain ⟨xs, z⟩ := h.lst
    rw [z] at e
    cases e
    intro ps q
    cases q)
/-- a call of _law_taken -/
theorem r_taken {H : Hp} {Q : VK} {r : Rid} {m : Int} {E : XK} (hR : Row K H r) (m0 : 0 < m) (m1 : m < 1000000) (q : ∀ (v : Nat) (H' : Hp), (v : Int) < m → GoR G L r.r H H' → Row K H' r → Q (.int (v : Nat)) H') : spTaken K G L ([.ref r.r, .int m] ++ []) H Q E := by
  refine ⟨r, m, rfl, hR, m0, m1, fun v H' h0 h1 g hR' => ?_⟩
  obtain ⟨n, rfl⟩ := Int.eq_ofNat_of_zero_le h0
  exact q n H' h1 g hR'
def spClause (K : PySem.W.Frag) (G : List Addr) (L : List (Addr × Str)) : Sp := fun vs H Q _ => ∃ (r : Rid) (an : Addr) (ns : List Str), vs = [.ref r.r, .ref an] ∧ Row K H r ∧ Tp H an (ns.map V.str) ∧ ns ≠ [] ∧ ns.length ≤ 60 ∧
  ∀ v d H', ClD ns d → Im H' v d → GoR G L r.r H H' → Row K H' r → Q v H'
end
section
variable {P : Program} {w : World} {K : PySem.W.Frag} {mg : Str → Option Value} {base : Heap} {G : List Addr} {L : List (Addr × Str)}
theorem u64 {k : Nat} {A : Around} (r : Room k A) : A.units + 64 < cLine := by
  have z := r.un
  omega
theorem lv_lst {n : Nat} {ds : List PyData} (h : ∀ d ∈ ds, lv n d = true) : lv (n + 1) (.list ds) = true := by
  have h' : ds.all (lv n) = true := List.all_eq_true.mpr h
  simpa only [lv] using h'
theorem r_neD {H : Hp} {Q : VK} {x y : V} {d e : PyData} (h1 : Dp K H x d) (h2 : Dp K H y e) (s1 : lv 8 d = true) (s2 : lv 8 e = true) (q : Q (.bl (!PyData.eqv d e)) H) : rNeD K x y H Q := ⟨d, e, h1, h2, shaped_of s1, shaped_of s2, q⟩
theorem r_eqD {H : Hp} {Q : VK} {x y : V} {d e : PyData} (h1 : Dp K H x d) (h2 : Dp K H y e) (s1 : lv 8 d = true) (s2 : lv 8 e = true) (q : Q (.bl (PyData.eqv d e)) H) : rEqD K x y H Q := ⟨d, e, h1, h2, shaped_of s1, shaped_of s2, q⟩
theorem r_append {H : Hp} {Q : VK} {p : Addr} {xs : List V} {y : V} (hp : H p = some (.lst xs)) (hl : xs.length ≤ 5000) (q : Q .non (upd H p (.lst (xs ++ [y])))) : rAppend (.ref p) [y] H Q :=
  ⟨p, xs, y, rfl, rfl, hp, Nat.lt_of_le_of_lt hl (by decide), q⟩
theorem Nw.back {H H' : Hp} {r D : Addr} (g : GoR G L r H H') (n : Nw H' D) (hr : D ≠ r) : Nw H D := fun o h e => n o h (g.1 D o hr h e)
theorem GoR.updNw {H H' : Hp} {r D : Addr} {xs ys : List V} (g : GoR G L r H H') (n : Nw H D) (h : H' D = some (.lst xs)) : GoR G L r H (L2.upd H' D (.lst ys)) :=
  ⟨fun b o nr nt e => by rw [upd_ne (fun z => by subst z; exact n o nt e)]; exact g.1 b o nr nt e, fun t => (GoR.upd (G := G) (L := L) h).2 (g.2 t)⟩
end
section
variable {P : Program} {w : World} {K : PySem.W.Frag} {mg : Str → Option Value} {base : Heap} {G : List Addr} {L : List (Addr × Str)}
/-- tuple(list[:40]) -/
theorem r_slL {H : Hp} {Q : VK} {a : Addr} {xs : List V} {lo hi : Option Int} (h : H a = some (.lst xs)) (q : ∀ p H', (∀ b o, H b = some o → H' b = some o) → H' p = some (.lst (cutV xs lo hi)) → Q (.ref p) H') : rSlL K (.ref a) lo hi H Q :=
  ⟨a, xs, rfl, .of h, fun p hp => q p _ (fun b o e => by rw [upd_ne (ne_of_none e hp)]; exact e) upd_same⟩
theorem r_tupL2 {H : Hp} {Q : VK} {p : Addr} {ys : List V} (h : H p = some (.lst ys)) (q : ∀ l H', (∀ b o, H b = some o → H' b = some o) → NT H' l ys → Q (.ref l) H') : cTup K [.ref p] H Q :=
  r_tupL (.of h) fun l o hl h1 h2 => q l _ (fun b ob e => by rw [upd_ne (ne_of_none e hl)]; exact e) (.of h1 h2)
end
section
variable {P : Program} {w : World} {K : PySem.W.Frag} {mg : Str → Option Value} {base : Heap} {G : List Addr} {L : List (Addr × Str)}
/-- range(e): the number comes with its own heap -/
theorem lcRg {σ : L2.St} {H : Hp} {Q : VK} {te : TE} {g : TG} {tt : TT} {el : TE} {vs : List Nat} (good : Nat → Hp → Prop) (he : ∀ R : VK, (∀ n H0, good n H0 → R (.int (n : Nat)) H0) → te σ H R)
    (body : ∀ n H0, good n H0 → n < 1000000 ∧ ∃ Pv : Addr → Nat → Hp → Prop, (∀ D, H0 D = none → Pv D 0 (upd H0 D (.lst []))) ∧
      (∀ D i H1, H0 D = none → i < n → Pv D i H1 → g (.int (i : Nat)) (wipe σ vs) H1 fun σ2 H2 => wipe σ2 vs = wipe σ vs ∧ tt σ2 H2 fun b H3 =>
        if b = true then el σ2 H3 fun y H4 => ∃ acc, H4 D = some (.lst acc) ∧ acc.length < sizeLine ∧ Pv D (i + 1) (upd H4 D (.lst (acc ++ [y]))) else Pv D (i + 1) H3) ∧ (∀ D H', H0 D = none → Pv D n H' → Q (.ref D) H')) : tLc (iRng1 (tCons te tNil)) g tt el vs σ H Q := by
  refine he _ fun n H0 hg => ?_
  obtain ⟨hn, Pv, h0, hs, hd⟩ := body n H0 hg
  have z := lcR (σ := σ) (te := fun _ _ R => R (.int (n : Nat)) H0) (H := H) (g := g) (tt := tt) (el := el) (vs := vs) (n := n) (H0 := H0) (Q := Q) (fun _ z => z) hn Pv h0 hs hd
  exact z
theorem forRg {σ : L2.St} {H : Hp} {D : Ends} {te : TE} {g : TG} {tb : TS} (good : Nat → Hp → Prop) (he : ∀ R : VK, (∀ n H0, good n H0 → R (.int (n : Nat)) H0) → te σ H R)
    (body : ∀ n H0, good n H0 → n < 1000000 ∧ ∃ Pv : Nat → L2.St → Hp → Prop, Pv 0 σ H0 ∧
      (∀ i σ H, i < n → Pv i σ H → g (.int (i : Nat)) σ H fun σ2 H2 => tb { D with nx := Pv (i + 1), ct := Pv (i + 1), bk := D.nx } σ2 H2) ∧ (∀ σ H, Pv n σ H → D.nx σ H)) : tFor (iRng1 (tCons te tNil)) g tb D σ H := by
  refine he _ fun n H0 hg => ?_
  obtain ⟨hn, Pv, h0, hs, hd⟩ := body n H0 hg
  have z := forR (σ := σ) (te := fun _ _ R => R (.int (n : Nat)) H0) (H := H) (D := D) (g := g) (tb := tb) (n := n) (H0 := H0) (fun _ z => z) hn Pv h0 hs hd
  exact z
theorem r_yes {σ : L2.St} {H : Hp} {A B : Hp → Prop} (h : A H) : tYes σ H (fun b H3 => if b = true then A H3 else B H3) := by
  show (if true = true then A H else B H)
  rw [if_pos rfl]
  exact h
def cMin : List V → Hp → VK → Prop := fun xs H Q => ∃ i j, xs = [.int i, .int j] ∧ Q (.int (if j < i then j else i)) H
theorem c_min {X : Cx} (hc : X.calm = true) : CallR X (.builtin "min") cMin := call_min2 hc
theorem r_cat {H : Hp} {Q : VK} {a b : Addr} {xs ys : List V} (h1 : H a = some (.lst xs)) (h2 : H b = some (.lst ys)) (hl : xs.length + ys.length ≤ 5000) (q : ∀ p H', (∀ b o, H b = some o → H' b = some o) → H p = none → H' p = some (.lst (xs ++ ys)) → Q (.ref p) H') : rCat (.ref a) (.ref b) H Q :=
  ⟨a, b, xs, ys, rfl, rfl, h1, h2, Nat.le_trans hl (by decide), fun p hp => q p _ (fun b o e => by rw [upd_ne (ne_of_none e hp)]; exact e) hp upd_same⟩
end
section
variable {P : Program} {w : World} {K : PySem.W.Frag} {mg : Str → Option Value} {base : Heap} {G : List Addr} {L : List (Addr × Str)}
/-- of lengths up to 100, to the depth n -/
def ln : Nat → PyData → Bool
  | n + 1, .tuple ds => decide (ds.length ≤ 2000) && ds.all (ln n)
  | n + 1, .list ds => decide (ds.length ≤ 2000) && ds.all (ln n)
  | _, .dict _ => false
  | 0, .tuple _ => false
  | 0, .list _ => false
  | _, .str z => PyData.strOk z
  | _, .none => true
  | _, .bool _ => true
  | _, .int _ => true
end
section
variable {K : PySem.W.Frag} {G : List Addr} {L : List (Addr × Str)}
theorem Told.kt {cls : Value} {d : Option Addr} {H H' : Hp} {D : PyData} (h : Told K cls d H D) (k : KT H H') : Told K cls d H' D := by
  rcases h with ⟨a, p, i, e1, e2, e3, e4⟩ | ⟨a, i, e1, e2, e3, e4⟩ | ⟨e1, e2, e3⟩ | ⟨e1, e2, e3⟩ | ⟨e1, e2, e3⟩ | ⟨a, i, e1, e2, e3, e4⟩ | ⟨a, i, j, e1, e2, e3, e4⟩ | ⟨a, v, e, e1, e2, e3, e4, e5⟩ | ⟨a, v, e, e1, e2, e3, e4, e5⟩
  · exact .inl ⟨a, p, i, e1, e2, k a _ (fun _ z => by cases z) (fun _ z => by cases z) e3, e4⟩
  · exact .inr (.inl ⟨a, i, e1, e2, k a _ (fun _ z => by cases z) (fun _ z => by cases z) e3, e4⟩)
  · exact .inr (.inr (.inl ⟨e1, e2, e3⟩))
  · exact .inr (.inr (.inr (.inl ⟨e1, e2, e3⟩)))
  · exact .inr (.inr (.inr (.inr (.inl ⟨e1, e2, e3⟩))))
  · subst e1 e2 e4
    exact .ill (k a _ (fun _ z => by cases z) (fun _ z => by cases z) e3)
  · subst e1 e2 e4
    exact .step (k a _ (fun _ z => by cases z) (fun _ z => by cases z) e3)
  · subst e1 e2 e5
    exact .switch (k a _ (fun _ z => by cases z) (fun _ z => by cases z) e3) (e4.kt k)
  · subst e1 e2 e5
    exact .noway (k a _ (fun _ z => by cases z) (fun _ z => by cases z) e3) (e4.kt k)
/-- isinstance(e, c) -/
def rIsG (K : PySem.W.Frag) (cls : Value) (d : Option Addr) (a : Addr) : List V → Hp → VK → Prop := fun xs H Q => ∃ D, cls = .ref D ∧ ExcC K D ∧ rIsE K D a xs H Q ∧ (d = none ∨ ∃ dd fs, d = some dd ∧ H dd = some (.xd fs))
theorem call_isG {X : Cx} {a : Addr} {cls : Value} {d : Option Addr} {oe : Obj} {pn : List (Addr × Obj)} (hz : Zc cls d oe) (hf : ∃ vs, oe.data = .fields vs) : CallR (X.suite a ((a, oe) :: pn)) (.builtin "isinstance") (rIsG X.K cls d a) := by
  intro pins s σ H xs us Q I r h
  obtain ⟨D, rfl, C, h1, h2⟩ := h
  rcases h2 with rfl | ⟨dd, fs, rfl, h2⟩
  · exact call_isE C hz hf pins s σ H xs us Q I r h1
  · exact call_isD C hz hf pins s σ H xs us Q I r ⟨h1, fs, h2⟩
/-- e.f -/
def tXfG (K : PySem.W.Frag) (a : Addr) (cls : Value) (d : Option Addr) (f : Str) (te : TE) : TE := fun σ H Q => ∃ C, XfC K C ∧ PySem.W.findIn K (.ref C) f = some none ∧ tXf a cls d C f te σ H Q
theorem pe_xfG {X : Cx} {a : Addr} {oe : Obj} {cls : Value} {d : Option Addr} {pn : List (Addr × Obj)} {e : Expr} {te : TE} {pos : Pos} {n : Str}
    (hz : Zc cls d oe) (hf : ∃ vs, oe.data = .fields vs) (he : PE (X.suite a ((a, oe) :: pn)) e te) (hb : attributeBase e n X.env (eval e X.env) = eval e X.env := by rfl) :
    PE (X.suite a ((a, oe) :: pn)) (.Attribute e n pos) (tXfG X.K a cls d n te) :=
  ⟨fun pins s σ H Q I ⟨_, T, hno, h⟩ => (pe_xf T hno hz hf he hb).run pins s σ H Q I h⟩
theorem r_xf {σ : L2.St} {H : Hp} {Q : VK} {a dd C : Addr} {f : Str} {te : TE} {fs : List (Str × V)} {v : V} (T : XfC K C) (n : PySem.W.findIn K (.ref C) f = some none) (he : ∀ R : VK, R (.ref a) H → te σ H R) (hd : H dd = some (.xd fs)) (hl : fs.lookup f = some v) (q : Q v H) : tXfG K a (.ref C) (some dd) f te σ H Q :=
  ⟨C, T, n, he _ ⟨rfl, rfl, dd, fs, v, rfl, hd, hl, q⟩⟩
/-- a list's method, in a suite -/
theorem pe_bmU {X : Cx} {a : Addr} {pn : List (Addr × Obj)} {o e : Expr} {es : List Expr} {to : TE} {t : TA} {name : Str} {apos cpos : Pos} {id : String} {r : V → List V → Hp → VK → Prop} (pa : PlainAttrs "list") (slot : Slot "list" name id) (hty : typeOf (.builtin id) = pure (.type "method_descriptor")) (hm : MtR (X.suite a pn) id r) (ho : PE (X.suite a pn) o to) (ha : PA (X.suite a pn) (e :: es) t)
    (hbase : attributeBase o name (X.suite a pn).env (eval o (X.suite a pn).env) = eval o (X.suite a pn).env := by rfl)
    (hfew : ((backTo cpos (starEach (e :: es) (X.suite a pn).env)).all (fun x => !x.1) && (backToKw cpos (keywordEach [] (X.suite a pn).env)).all (fun x => x.1.isSome)
      && decide ((e :: es).length + ([] : List Keyword).length + (if ([] : List Keyword).isEmpty then 0 else 1) < 30)) = true := by rfl)
    (hline : (apos.endLine == cpos.line) = true := by rfl) (hs : starEach (e :: es) (X.suite a pn).env = (false, eval e (X.suite a pn).env) :: starEach es (X.suite a pn).env := by rfl) (hplain : (backTo cpos (starEach es (X.suite a pn).env)).any (·.1) = false := by rfl) :
    PE (X.suite a pn) (.Call (.Attribute o name apos) (e :: es) [] cpos) (tBM X.K "list" r to t) := pe_bm (X := X.suite a pn) pa slot hty hm ho ha hbase hfew hline hs hplain
/-- as many slots as names -/
def tLen (n : Nat) (t : TS) : TS := fun D σ H => σ.length = n → t D σ H
theorem pss_len {X : Cx} {b : List Stmt} {t : TS} {n : Nat} (hn : X.N.length = n) (h : PSs X b t) : PSs X b (tLen n t) := ⟨fun pins s σ H D I q => h.run pins s σ H D I (q (I.len.trans hn))⟩
end
theorem passN {X : Cx} : Passes (L2.CX X.prog X.w) X E0 := fun _ _ _ _ _ _ _ h => by
  obtain ⟨_, _, _, _, _, _, _, _, _, _, _, _, h⟩ := h
  exact h.elim
section
variable {P : Program} {w : World} {K : PySem.W.Frag} {mg : Str → Option Value} {base : Heap} {G : List Addr} {L : List (Addr × Str)}
theorem eqv_same {n : Nat} {d : PyData} (h : lv n d = true) : PyData.eqv d d = true := PySem.SeqAt.eqv_refl d (lv_ok n d h).1
end
def smS : PyData → Bool
  | .str z => decide (z.length ≤ 100)
  | _ => true
def okNb (ds : List PyData) : Bool := decide (ds.length ≤ 60) && (ds.all (lv 6) && ds.all smS)
theorem okN_of {ds : List PyData} (h : okNb ds = true) : okN (.tuple ds) := by
  unfold okNb at h
  rw [Bool.and_eq_true, Bool.and_eq_true, List.all_eq_true, List.all_eq_true] at h
  obtain ⟨h1, h2, h3⟩ := h
  refine ⟨lv_tup h2, fun es e => ?_⟩
  cases e
  refine ⟨of_decide_eq_true h1, fun x hx => ?_⟩
  have h4 := h3 x hx
  cases x with
  | str z => exact Nat.le_trans (of_decide_eq_true h4) (by decide)
  | _ => trivial
section
variable {P : Program} {w : World} {K : PySem.W.Frag} {mg : Str → Option Value} {base : Heap} {G : List Addr} {L : List (Addr × Str)}
def lamQ (x : Str) : Str := x ++ ".<locals>." ++ "<lambda>"
section
variable {X : Cx} {A : Around} {outer : List Env} {s : Shared} {H : Hp} {E : XK} {sc : Scope} {fL c' : Addr} {j : Nat} {e : Expr} {es : List Expr} {t : TA}
end
theorem Nw.backG {H H' : Hp} {D : Addr} (g : Go G L H H') (n : Nw H' D) : Nw H D := fun o h e => n o h (g.1 D o e h)
theorem Go.updNw {H H' : Hp} {D : Addr} {xs ys : List V} (g : Go G L H H') (n : Nw H D) (h : H' D = some (.lst xs)) : Go G L H (L2.upd H' D (.lst ys)) :=
  ⟨fun b o e nt => by rw [upd_ne (fun z => by subst z; exact n o nt e)]; exact g.1 b o e nt, fun t => (GoR.upd (G := G) (L := L) h).2 (g.2 t)⟩
def Case (K : PySem.W.Frag) (H : Hp) (p : Addr) (v : V) : Prop := ∃ (a : Addr) (s m : V) (part : Str) (i : Nat) (dn dc : PyData), v = .ref a ∧ (part = "names" ∨ part = "clauses") ∧ okN dn ∧ okC dc ∧ rulesBad dn dc = some (rulesE part i) ∧
  ∀ H', Ev p H H' → H' a = some (.tup [s, m, .str part, .int (i : Nat)]) ∧ Dp K H' s dn ∧ Dp K H' m dc
theorem Case.ev {H H1 : Hp} {p : Addr} {v : V} (h : Case K H p v) (e : Ev p H H1) : Case K H1 p v := by
  obtain ⟨a, s, m, part, i, dn, dc, h1, h2, h3, h4, h5, h6⟩ := h
  exact ⟨a, s, m, part, i, dn, dc, h1, h2, h3, h4, h5, fun H' e' => h6 H' (e.trans e')⟩
/-- made before the list -/
theorem Case.old {H H1 : Hp} {p a : Addr} {s m : V} {part : Str} {i : Nat} {dn dc : PyData} (np : H p = none) (e : ∀ b o, H b = some o → H1 b = some o) (ha : H a = some (.tup [s, m, .str part, .int (i : Nat)])) (hs : Dp K H s dn) (hm : Dp K H m dc) (hp : part = "names" ∨ part = "clauses") (on : okN dn) (oc : okC dc) (hb : rulesBad dn dc = some (rulesE part i)) : Case K H1 p (.ref a) :=
  ⟨a, s, m, part, i, dn, dc, rfl, hp, on, oc, hb, fun H' e' => by
    have x : LamX.ExtN H H' := fun b o eb nt => e' b o (ne_of_none eb np) nt (e b o eb)
    exact ⟨x a _ ha fun ps z => (by cases z), Dp.go x hs, Dp.go x hm⟩⟩
/-- made while the list stands -/
theorem Case.im {H : Hp} {p a : Addr} {xs : List V} {s m : V} {part : Str} {i : Nat} {dn dc : PyData} (hp : H p = some (.lst xs)) (ha : H a = some (.tup [s, m, .str part, .int (i : Nat)])) (hs : Im H s dn) (hm : ∀ H', Ev p H H' → Dp K H' m dc) (hpt : part = "names" ∨ part = "clauses") (on : okN dn) (oc : okC dc) (hb : rulesBad dn dc = some (rulesE part i)) : Case K H p (.ref a) :=
  ⟨a, s, m, part, i, dn, dc, rfl, hpt, on, oc, hb, fun H' e' => ⟨e' a _ (fun z => by subst z; rw [hp] at ha; cases ha) (fun ps z => by cases z) ha, (hs.kt (e'.kt hp)).dp, hm H' e'⟩⟩
theorem keep_new {H : Hp} {p : Addr} {o : HO} (hp : H p = none) : ∀ b ob, H b = some ob → upd H p o b = some ob := fun b ob e => by rw [upd_ne (ne_of_none e hp)]; exact e
theorem new_facts {H H' : Hp} {p : Addr} {o : HO} (h : upd H p o = H') (hp : H p = none) : (∀ b ob, H b = some ob → H' b = some ob) ∧ H' p = some o := by
  subst h
  exact ⟨keep_new hp, upd_same⟩
theorem forTg {σ : L2.St} {H : Hp} {D : Ends} {te : TE} {g : TG} {tb : TS} (good : Addr → Hp → Prop) (he : ∀ R : VK, (∀ a H0, good a H0 → R (.ref a) H0) → te σ H R)
    (body : ∀ a H0, good a H0 → ∃ xs, SqT K H0 a xs ∧ ∃ Pv : Nat → L2.St → Hp → Prop, Pv 0 σ H0 ∧ (∀ i σ H, i ≤ xs.length → Pv i σ H → SqT K H a xs) ∧
      (∀ i x σ H, xs[i]? = some x → Pv i σ H → g x σ H fun σ2 H2 => tb { D with nx := Pv (i + 1), ct := Pv (i + 1), bk := D.nx } σ2 H2) ∧ (∀ σ H, Pv xs.length σ H → D.nx σ H)) : tFor (iTup K te) g tb D σ H := by
  refine he _ fun a H0 hg => ?_
  obtain ⟨xs, hq, Pv, h0, hG, hs, hd⟩ := body a H0 hg
  have z := forT (σ := σ) (te := fun _ _ R => R (.ref a) H0) (H := H0) (D := D) (g := g) (tb := tb) (fun _ z => z) hq Pv h0 hG hs hd
  exact z
theorem forLg {σ : L2.St} {H : Hp} {D : Ends} {te : TE} {g : TG} {tb : TS} (good : Addr → Hp → Prop) (he : ∀ R : VK, (∀ a H0, good a H0 → R (.ref a) H0) → te σ H R)
    (body : ∀ a H0, good a H0 → ∃ xs, SqL K H0 a xs ∧ ∃ Pv : Nat → L2.St → Hp → Prop, Pv 0 σ H0 ∧ (∀ i σ H, i ≤ xs.length → Pv i σ H → SqL K H a xs) ∧
      (∀ i x σ H, xs[i]? = some x → Pv i σ H → g x σ H fun σ2 H2 => tb { D with nx := Pv (i + 1), ct := Pv (i + 1), bk := D.nx } σ2 H2) ∧ (∀ σ H, Pv xs.length σ H → D.nx σ H)) : tFor (iList K te) g tb D σ H := by
  refine he _ fun a H0 hg => ?_
  obtain ⟨xs, hq, Pv, h0, hG, hs, hd⟩ := body a H0 hg
  have z := forL (σ := σ) (te := fun _ _ R => R (.ref a) H0) (H := H0) (D := D) (g := g) (tb := tb) (fun _ z => z) hq Pv h0 hG hs hd
  exact z
abbrev Kp (H H' : Hp) : Prop := ∀ b ob, H b = some ob → H' b = some ob
theorem kp_t {H H1 H2 : Hp} (a : Kp H H1) (b : Kp H1 H2) : Kp H H2 := fun c o e => b c o (a c o e)
theorem kp_kt {H H' : Hp} (a : Kp H H') : KT H H' := fun b o _ _ e => a b o e
theorem kp_ev {H H' : Hp} {r : Addr} (a : Kp H H') : Ev r H H' := fun b o _ _ e => a b o e
theorem r_un {r : V → Hp → VK → Prop} {ta : TE} {σ : L2.St} {H : Hp} {Q : VK} (h : ta σ H fun x H1 => r x H1 Q) : tUn r ta σ H Q := h
/-- Rules(..) that is made -/
theorem mk_rulesR {H1 : Hp} {nv cv : V} {dn dc : PyData} {E : XK} {Qx : Addr → Hp → Prop} (hn : Dp K H1 nv dn) (hc : Dp K H1 cv dc) (on : okN dn) (oc : okC dc) (ht : TBS G L H1) (hb : rulesBad dn dc = none) (q : ∀ x dx H', Go G L H1 H' → H' x = some (.ins (cR K) dx (rfs nv cv)) → Qx x H') :
    ∀ x dx, H1 x = none → H1 dx = none → dx ≠ x → spInit K G L (.ref x :: ([nv, cv] ++ [])) (upd (upd H1 dx (.own x)) x (.ins (cR K) dx [])) (fun v H2 => v = .non ∧ Qx x H2) E :=
  mk_rules (Q := fun v H2 => match v with | .ref x => Qx x H2 | _ => False) ⟨nv, cv, dn, dc, rfl, hn, hc, on, oc, ht, fun D hD => (by rw [hb] at hD; cases hD), fun _ x dx H' g h => q x dx H' g h⟩
def cMax : List V → Hp → VK → Prop := fun xs H Q => ∃ i j, xs = [.int i, .int j] ∧ Q (.int (if j > i then j else i)) H
theorem c_max {X : Cx} (hc : X.calm = true) : CallR X (.builtin "max") cMax := call_max2 hc
end
theorem sub_find {z : Str} {xs : List Str} : ∀ {l : List Str}, (z :: xs).Sublist l → z ∈ l ∧ xs.Sublist (l.drop (l.idxOf z + 1)) := by
  intro l
  induction l with
  | nil => intro h; cases h
  | cons y l ih =>
    intro h
    by_cases e : y = z
    · subst e
      refine ⟨List.mem_cons_self, ?_⟩
      have e0 : (y :: l).idxOf y = 0 := by simp
      rw [e0]
      show xs.Sublist l
      cases h with
      | cons _ h => exact (List.sublist_cons_self y xs).trans h
      | cons_cons _ h => exact h
    · have h' : (z :: xs).Sublist l := by
        cases h with
        | cons _ h => exact h
        | cons_cons _ h => exact absurd rfl e
      obtain ⟨a, b⟩ := ih h'
      refine ⟨List.mem_cons_of_mem _ a, ?_⟩
      have e0 : (y :: l).idxOf z = l.idxOf z + 1 := by
        rw [List.idxOf_cons]
        have hb : (y == z) = false := by simpa using e
        rw [hb]
        rfl
      rw [e0]
      exact b
theorem idx_gone {z : Str} : ∀ {l : List Str}, l.Nodup → z ∉ l.drop (l.idxOf z + 1) := by
  intro l
  induction l with
  | nil => intro _ h; cases h
  | cons y l ih =>
    intro hn
    rw [List.nodup_cons] at hn
    by_cases e : y = z
    · subst e
      have e0 : (y :: l).idxOf y = 0 := by simp
      rw [e0]
      exact hn.1
    · have e0 : (y :: l).idxOf z = l.idxOf z + 1 := by
        rw [List.idxOf_cons]
        have hb : (y == z) = false := by simpa using e
        rw [hb]
        rfl
      rw [e0]
      exact ih hn.2
theorem scan_sub : ∀ (xs later : List Str) (i : Nat), xs.Sublist later → ∃ later', (∀ z ∈ later', z ∈ later) ∧ (later.Nodup → ∀ z ∈ xs, z ∉ later') ∧ ∀ ds, scanS later i (xs.map PyData.str ++ ds) = scanS later' (i + xs.length) ds
  | [], later, i, _ => ⟨later, fun z h => h, fun _ z h => (by cases h), fun ds => rfl⟩
  | z :: xs, later, i, h => by
    obtain ⟨h1, h2⟩ := sub_find h
    obtain ⟨l', a, b, c⟩ := scan_sub xs _ (i + 1) h2
    refine ⟨l', fun y hy => List.mem_of_mem_drop (a y hy), fun hn y hy => ?_, fun ds => ?_⟩
    · rcases List.mem_cons.mp hy with e | e
      · subst e
        exact fun z => idx_gone hn (a _ z)
      · exact b (hn.sublist (List.drop_sublist _ _)) y e
    · show (if z ∈ later then scanS (later.drop (later.idxOf z + 1)) (i + 1) (xs.map PyData.str ++ ds) else some i) = _
      rw [if_pos h1, c ds, List.length_cons]
      congr 1
      omega
section
variable {ns ss : List Str}
theorem st_none (h : ss.Sublist ns) : stateBad ns (.tuple (ss.map PyData.str)) = none := by
  obtain ⟨l', _, _, c⟩ := scan_sub ss ns 0 h
  show scanS ns 0 (ss.map PyData.str) = none
  have z := c []
  rw [List.append_nil] at z
  rw [z]
  rfl
end
section
variable {P : Program} {w : World} {K : PySem.W.Frag} {mg : Str → Option Value} {base : Heap} {G : List Addr} {L : List (Addr × Str)}
def invD (i : Nat) : PyData := .tuple [.str "invalid", .int (i : Nat)]
/-- told != ("invalid", i) -/
theorem r_neI {H : Hp} {Q : VK} {v w : V} {D : PyData} (h1 : Dp K H v D) (h2 : Dp K H w D) (l : lv 8 D = true) (q : Q (.bl false) H) : rNeD K v w H Q := r_neD h1 h2 l l (by rw [eqv_same l]; exact q)
end
section
variable {P : Program} {w : World} {K : PySem.W.Frag} {mg : Str → Option Value} {base : Heap} {G : List Addr} {L : List (Addr × Str)}
theorem scr_of {H : Hp} {r a : Addr} {ns : List Int} (hr : H r = none) (h : SqL K H a (ns.map V.int)) : Scr K H r a ns := fun H' e => by
  rcases h with (h | ⟨ob, h⟩) | h
  · exact .inl (.inl (e a _ (ne_of_none h hr) (fun ps z => by cases z) h))
  · exact .inl (.inr ⟨ob, e a _ (ne_of_none h hr) (fun ps z => by cases z) h⟩)
  · exact .inr h
section
variable {X : Cx} {s0 : Shared} {H0 : Hp} {bs : Scope} {cl : List (Str × Addr)} {C0 : Addr} {fp : List Addr}
end
end
section
variable {P : Program} {w : World} {K : PySem.W.Frag} {mg : Str → Option Value} {base : Heap} {G : List Addr} {L : List (Addr × Str)}
/-- what stands behind the making of an error with an index -/
def mkISk (K : PySem.W.Frag) (C : Addr) (Q : XK) : List V → Hp → Prop := fun vs H1 => ∃ (i : Nat), vs = [.int (i : Nat)] ∧ i ≤ 99 ∧ ∀ d Hx, (∀ b o, H1 b = some o → Hx b = some o) → Hx d = some (.xd [("index", .int (i : Nat))]) → Q (.ref C) (some d) Hx
theorem mkIS_fin {x : Str} {Q : XK} {vs : List V} {H1 : Hp} (h : mkISk K (He.ga K x) Q vs H1) : vs.length ≤ 1000 ∧ ∀ a, H1 a = none → spIS K (He.ga K x) (.ref a :: (vs ++ [])) (upd H1 a (exo a (He.ga K x) none))
    (fun v H2 => v = .non ∧ ∃ (d : Addr) (fs : List (Str × V)), H2 a = some (exo a (He.ga K x) (some d)) ∧ H2 d = some (exd d fs) ∧ H1 d = none ∧ Q (.ref (He.ga K x)) (some d) (upd (del H2 a) d (.xd fs))) (fun _ _ _ => False) := by
  have z := r_mkIS (K := K) (σ := []) (H := H1) (ta := fun _ _ R => R vs H1) (x := x) (Q := Q) h fun _ _ k q => k _ _ q
  exact z
theorem r_mk {C : Addr} {sp : Sp} {dvs : List V} {ta : TA} {σ : L2.St} {H : Hp} {Q : XK} (h : ta σ H fun vs H1 => vs.length ≤ 1000 ∧ ∀ a, H1 a = none → sp (.ref a :: (vs ++ dvs)) (upd H1 a (exo a C none))
    (fun v H2 => v = .non ∧ ∃ (d : Addr) (fs : List (Str × V)), H2 a = some (exo a C (some d)) ∧ H2 d = some (exd d fs) ∧ H1 d = none ∧ Q (.ref C) (some d) (upd (del H2 a) d (.xd fs))) (fun _ _ _ => False)) : tMkO C sp dvs ta σ H Q := h
theorem broken_lt (sd : List PyData) : ∀ (ds : List PyData) (i j : Nat), j ∈ brokenFrom sd i ds → j < i + ds.length
  | [], _, _, h => by cases h
  | d :: ds, i, j, h => by
    have e : brokenFrom sd i (d :: ds) = if brk sd d then i :: brokenFrom sd (i + 1) ds else brokenFrom sd (i + 1) ds := rfl
    rw [e] at h
    rw [List.length_cons]
    by_cases c : brk sd d = true
    · rw [if_pos c] at h
      rcases List.mem_cons.mp h with e | h
      · omega
      · have z := broken_lt sd ds (i + 1) j h
        omega
    · rw [if_neg c] at h
      have z := broken_lt sd ds (i + 1) j h
      omega
def illD (i : Nat) : PyData := .tuple [.str "illegal", .int (i : Nat)]
def spChkLegal (K : PySem.W.Frag) (G : List Addr) (L : List (Addr × Str)) : Sp := fun vs H Q E => ∃ (x : Addr) (v : V) (ns : List Str) (cd : List PyData) (d : PyData), vs = [.ref x, v] ∧ RulesAt K H x ns cd ∧ OkR ns cd ∧ Dp K H v d ∧ lv 7 d = true ∧ (∀ ds, d = .tuple ds → ds.length ≤ 60) ∧
  (∀ i, stateBad ns d = some i → ∀ cls dd H', Go G L H H' → Told K cls dd H' (invD i) → E cls dd H') ∧
  (∀ ds, d = .tuple ds → stateBad ns d = none → ∀ j rest, brokenFrom ds 0 cd = j :: rest → ∀ cls dd H', Go G L H H' → Told K cls dd H' (illD j) → E cls dd H') ∧
  (∀ ds, d = .tuple ds → stateBad ns d = none → brokenFrom ds 0 cd = [] → ∀ H', Go G L H H' → Q .non H')
theorem scChkLegal : FnScope ["rules", "state", "broken"] ["rules", "state"] (defScope sChkLegal) := C8.fnScope_by (by decide +kernel)
theorem ok_chkLegal {f : Addr} {fd : FuncData} (F : Fun K "check_legal" "check_legal" sChkLegal f fd) (B : Fm P w K mg base "broken_clauses" 4 (spBroken K G L)) (T : Err P w K mg base "IllegalState" (spIS K (He.ga K "IllegalState"))) :
    FnOk P w K mg base (L2.CX P w) 5 f fd ["rules", "state"] (spChkLegal K G L) := by
  refine F.okX scChkLegal (fun vs H Q E h => ?_) (fun cdv A outer s H vs Q E hr h => ?_)
  · obtain ⟨x, v, ns, cd, d, e, _⟩ := h
    rw [e]
    rfl
  · obtain ⟨x, v, ns, cd, d, e, hR, ok, hd, l7, hl, qE, qI, q⟩ := h
    subst e
    refine ⟨_, pss_cons (ps_set (i := 2) scChkLegal.nd rfl (Or.inl rfl) (pe_fm B hr (pv 0) (passes_call (takes_of rfl rfl rfl rfl) fun _ _ _ _ z => z) (pa_cons (pv 1) pa_nil)))
      (pss_one (ps_if (pt_truth (pv 2) (by intro _; rfl)) (pss_one (ps_raise rfl (takes_of rfl rfl rfl rfl) (pmk_err T hr (pa_cons (pe_ix ix_list (pv 2) pe_int (fun _ _ => rfl)) pa_nil)))) pss_nil)), ?_⟩
    repeat walk_at "rd"
    refine r_fm (x := x) (fun R z => ⟨_, rfl, z⟩) hR (fun _ _ => rfl) ?_
    repeat walk_at "rd"
    refine ⟨x, v, ns, cd, d, rfl, hR, ok, hd, l7, hl, qE, fun ds ed hb H' l _ g hl' => ?_⟩
    repeat walk_at "rd"
    refine ⟨_, .inl ⟨_, .of hl', rfl⟩, ?_⟩
    cases hbr : brokenFrom ds 0 cd with
    | nil =>
      rw [hbr] at hl'
      repeat walk_at "rd"
      exact q ds ed hb hbr H' g
    | cons j rest =>
      rw [hbr] at hl'
      rw [if_pos (by rfl)]
      repeat walk_at "rd"
      refine r_mk ?_
      repeat walk_at "rd"
      refine r_ixL (i := 0) (.of hl') (v := .int (j : Nat)) (atI_nat (j := 0) rfl) ?_
      repeat walk_at "rd"
      have hj := broken_lt ds cd 0 j (by rw [hbr]; exact List.mem_cons_self)
      have hcl := ok.cl
      refine mkIS_fin ⟨j, rfl, by omega, fun dd Hx k hx => ?_⟩
      exact qI ds ed hb j rest hbr _ _ Hx (g.trans (Go.same k)) (.ill hx)
theorem in_strs (z : Str) (s : List Str) : ((s.map PyData.str).any fun y => PyData.eqv y (.str z)) = decide (z ∈ s) := inD_strs z s
theorem filter_take {α : Type} {p : α → Bool} {l : List α} {i : Nat} {x : α} (h : l[i]? = some x) : (l.take (i + 1)).filter p = if p x then (l.take i).filter p ++ [x] else (l.take i).filter p := by
  rw [List.take_succ, h]
  show List.filter p (l.take i ++ [x]) = _
  rw [List.filter_append, List.filter_cons, List.filter_nil]
  by_cases c : p x = true
  · rw [if_pos c, if_pos c]
  · rw [if_neg c, if_neg c, List.append_nil]
end
section
variable {P : Program} {w : World} {K : PySem.W.Frag} {mg : Str → Option Value} {base : Heap} {G : List Addr} {L : List (Addr × Str)}
end
section
variable {P : Program} {w : World} {K : PySem.W.Frag} {mg : Str → Option Value} {base : Heap} {G : List Addr} {L : List (Addr × Str)}
/-- the states of some places -/
def nmsOf (ns : List Str) (ix : List Nat) : List Str := ix.map fun i => ns.getD i ""
def allD (ns : List Str) : List (List Str) := (ordI ns.length).map (nmsOf ns)
theorem nmsOf_sub {ns : List Str} {ix : List Nat} (h : ix.Sublist (List.range ns.length)) : (nmsOf ns ix).Sublist ns := by
  have z := h.map (fun i => ns.getD i "")
  have e : (List.range ns.length).map (fun i => ns.getD i "") = ns := by
    refine List.ext_getElem (by simp) fun i h1 h2 => ?_
    simp at h1
    simp [List.getD_eq_getElem?_getD, h1]
  rw [e] at z
  exact z
theorem allD_sub {ns : List Str} (hn : ns.length ≤ 10) {s : List Str} (hs : s ∈ allD ns) : s.Sublist ns := by
  obtain ⟨ix, hix, rfl⟩ := List.mem_map.mp hs
  exact nmsOf_sub (ordI_sub hn hix)
theorem StsAt.kt {H H' : Hp} {xs : List V} {ss : List (List Str)} (h : StsAt H xs ss) (k : KT H H') : StsAt H' xs ss := Ims.kt k h
theorem StsAt.snoc {H : Hp} {xs : List V} {ss : List (List Str)} {T : Addr} {s : List Str} (h : StsAt H xs ss) (ht : Tp H T (s.map V.str)) : StsAt H (xs ++ [.ref T]) (ss ++ [s]) := by
  unfold StsAt
  rw [List.map_append]
  exact h.app (.cons (.tup ht (ims_strs s)) .nil)
theorem ord_len : ∀ n < 11, (ordI n).length ≤ 2000 ∧ ∀ r < 11, r ≤ n → (((List.range r).flatMap (seqC n)).length + (seqC n r).length ≤ 2000) := by decide +kernel
end
section
variable {P : Program} {w : World} {K : PySem.W.Frag} {mg : Str → Option Value} {base : Heap} {G : List Addr} {L : List (Addr × Str)}
def legalD (ns : List Str) (cd : List PyData) : List (List Str) := (allD ns).filter fun s => decide (brokenFrom (s.map PyData.str) 0 cd = [])
theorem allD_len {ns : List Str} (hn : ns.length ≤ 10) : (allD ns).length ≤ 2000 := by
  unfold allD
  rw [List.length_map]
  exact (ord_len _ (by omega)).1
theorem strs_lv {ns : List Str} {s : List Str} (gs : goodS ns) (h : s.Sublist ns) : lv 7 (.tuple (s.map PyData.str)) = true ∧ ∀ ds, PyData.tuple (s.map PyData.str) = .tuple ds → ds.length ≤ 60 := by
  refine ⟨lv_strs fun z hz => gs.1 z (h.subset hz), fun ds e => ?_⟩
  cases e
  rw [List.length_map]
  exact Nat.le_trans h.length_le gs.2
theorem r_lgd {sp : SpG} {ta : TA} {σ : L2.St} {H : Hp} {Q : VK} (h : ta σ H fun vs H1 => sp (vs ++ []) H1 (fun out H2 => ∀ p, H2 p = none → Q (.ref p) (upd H2 p (.lst out))) E0) : tListG (tCallG sp [] E0 ta) σ H Q := h
end
section
variable {P : Program} {w : World} {K : PySem.W.Frag} {mg : Str → Option Value} {base : Heap} {G : List Addr} {L : List (Addr × Str)}
theorem kt_upd {H : Hp} {D : Addr} {xs ys : List V} (h : H D = some (.lst xs)) : KT H (upd H D (.lst ys)) := fun b o n1 n2 hb => by
  rw [upd_ne (fun e => by rw [e, h] at hb; exact n1 _ (Option.some.inj hb).symm)]
  exact hb
theorem ims_strs_eq {H : Hp} : ∀ {s : List Str} {vs : List V}, Ims H vs (s.map PyData.str) → vs = s.map V.str
  | [], _, .nil => rfl
  | z :: s, _, .cons h t => by
    cases h
    rw [ims_strs_eq t]
    rfl
theorem sts_get {H : Hp} {xs : List V} {ss : List (List Str)} {i : Nat} {x : V} (h : StsAt H xs ss) (hx : xs[i]? = some x) : ∃ T s, ss[i]? = some s ∧ x = .ref T ∧ Tp H T (s.map V.str) := by
  obtain ⟨d, hd, hi⟩ := h.get hx
  rw [List.getElem?_map] at hd
  cases hs : ss[i]? with
  | none => rw [hs] at hd; cases hd
  | some s =>
    rw [hs] at hd
    obtain rfl : d = .tuple (s.map PyData.str) := (Option.some.inj hd).symm
    cases hi with
    | tup h1 h2 => exact ⟨_, s, rfl, rfl, by rw [← ims_strs_eq h2]; exact h1⟩
theorem genI_ok : ∀ n < 9, (genI n).length ≤ 300 ∧ (genI n).all (fun ix => ix.all (decide <| · < n)) = true := by decide +kernel
theorem nms_snoc {ns : List Str} {ix : List Nat} {i : Nat} {z : Str} (h : ns[i]? = some z) : nmsOf ns (ix ++ [i]) = nmsOf ns ix ++ [z] := by
  unfold nmsOf
  rw [List.map_append]
  simp [List.getD_eq_getElem?_getD, h]
theorem rowD_nms (ns : List Str) (ix : List Nat) : rowD (fun i => ns.getD i "") ix = .tuple [.int ((nmsOf ns ix).length : Nat), .tuple (ix.map fun i => .int (i : Nat)), .tuple ((nmsOf ns ix).map PyData.str)] := by
  unfold rowD nmsOf
  rw [List.map_map, List.length_map]
  rfl
theorem ims_zip {H : Hp} : ∀ {vs : List V} {ds : List PyData}, Ims H vs ds → ∀ p ∈ vs.zip ds, Im H p.1 p.2
  | _, _, .nil, p, h => by cases h
  | _, _, .cons a t, p, h => by
    rcases List.mem_cons.mp h with e | h
    · rw [e]; exact a
    · exact ims_zip t p h
theorem ims_of {H : Hp} : ∀ {ps : List (V × PyData)}, (∀ p ∈ ps, Im H p.1 p.2) → Ims H (ps.map Prod.fst) (ps.map Prod.snd)
  | [], _ => .nil
  | p :: ps, h => .cons (h p List.mem_cons_self) (ims_of fun q hq => h q (List.mem_cons_of_mem _ hq))
theorem broken_nil {sd : List PyData} : ∀ (cd : List PyData) (i : Nat), brokenFrom sd i cd = [] ↔ cd.filter (brk sd) = []
  | [], _ => by simp [brokenFrom]
  | d :: cd, i => by
    have e : brokenFrom sd i (d :: cd) = if brk sd d then i :: brokenFrom sd (i + 1) cd else brokenFrom sd (i + 1) cd := rfl
    rw [e, List.filter_cons]
    by_cases c : brk sd d = true
    · rw [if_pos c, if_pos c]
      simp
    · rw [if_neg c, if_neg c]
      exact broken_nil cd (i + 1)
theorem depth_ints2 (l : List Nat) : PyData.depthAll (l.map fun i => PyData.int (i : Nat)) = 0 := by
  induction l with
  | nil => simp [PyData.depthAll]
  | cons x l ih => simp only [List.map_cons, PyData.depthAll, PyData.depth, ih]; rfl
theorem depth_strs2 (nm : Nat → Str) (l : List Nat) : PyData.depthAll (l.map fun i => PyData.str (nm i)) = 0 := by
  induction l with
  | nil => simp [PyData.depthAll]
  | cons x l ih => simp only [List.map_cons, PyData.depthAll, PyData.depth, ih]; rfl
theorem depth_row (nm : Nat → Str) (l : List Nat) : (rowD nm l).depth ≤ 8 := by
  unfold rowD
  simp only [PyData.depth, PyData.depthAll, depth_ints2, depth_strs2]
  decide
theorem eqv_nilL (ds : List PyData) : PyData.eqv (.list ds) (.list []) = decide (ds = []) := by
  cases ds with
  | nil => simp [PyData.eqv, PyData.eqvAll]
  | cons d ds => simp [PyData.eqv, PyData.eqvAll]
theorem cl_lv {ns : List Str} {d : PyData} (hok : ∀ z ∈ ns, PyData.strOk z = true) (h : ClD ns d) : lv 6 d = true := by
  obtain ⟨w, a, b, rfl, hw, ha, hb⟩ := h
  refine lv_tup fun x hx => ?_
  rcases List.mem_cons.mp hx with e | hx
  · rw [e]
    rcases hw with rfl | rfl | rfl <;> decide +kernel
  · rcases List.mem_cons.mp hx with e | hx
    · rw [e]; exact lv_str (hok a ha)
    · rw [List.mem_singleton.mp hx]; exact lv_str (hok b hb)
theorem qs_snd {vs : List V} {n : Nat} {nm : Nat → Str} (hn : n ≤ 8) (hl : vs.length = (genI n).length) : ((vs.zip ((genI n).map (rowD nm))).mergeSort (PySem.W.dataLe false Prod.snd)).map Prod.snd = (ordI n).map (rowD nm) := by
  rw [PySem.W.sort_maps (r := PySem.W.dataLe false Prod.snd) (s := PySem.W.dataLe false id) Prod.snd (fun _ _ _ _ => rfl), List.map_snd_zip (by rw [List.length_map]; omega), ← PySem.W.sort_maps (r := leI) (rowD nm) (fun a _ b _ => (rowD_le nm a b).symm), sort_gen hn]
theorem u12 {k : Nat} {A : Around} (r : Room k A) : A.units + 12 < cLine := by
  have z := u64 r
  omega
def rTix (K : PySem.W.Frag) : V → List V → Hp → VK → Prop := fun x xs H Q => ∃ p, ∃ ys : List Str, ∃ z j, x = .ref p ∧ xs = [.str z] ∧ SqT K H p (ys.map V.str) ∧ ys[j]? = some z ∧ (∀ m, m < j → ys[m]? ≠ some z) ∧ Q (.int (j : Nat)) H
theorem mt_tix {X : Cx} : MtR X "tuple.index" (rTix X.K) := mt_tup_index
end
theorem legal_iff {ns : List Str} {cd : List PyData} {s : List Str} : s ∈ legalD ns cd ↔ s ∈ allD ns ∧ ∀ d ∈ cd, brk (s.map PyData.str) d = false := by
  unfold legalD
  rw [List.mem_filter, decide_eq_true_eq, broken_nil, List.filter_eq_nil_iff]
  constructor
  · rintro ⟨h1, h2⟩
    exact ⟨h1, fun d hd => by simpa using h2 d hd⟩
  · rintro ⟨h1, h2⟩
    exact ⟨h1, fun d hd => by simpa using h2 d hd⟩
def tFr (sp : Sp) (E : XK) (t : TA) : TE := fun σ H Q => t σ H fun vs H1 => sp vs H1 Q E
theorem r_fr {sp : Sp} {E : XK} {t : TA} {σ : L2.St} {H : Hp} {Q : VK} (h : t σ H fun vs H1 => sp vs H1 Q E) : tFr sp E t σ H Q := h
/-- a step, generators' lists first -/
local macro_rules | `(tactic| walk_at "rl") => `(tactic| first | (with_reducible refine r_lgd ?_) | (with_reducible refine r_fr ?_) | walk_at "rd")
theorem StsAt.dps {K : PySem.W.Frag} {H : Hp} {xs : List V} {ss : List (List Str)} (h : StsAt H xs ss) : DpAll K H xs (ss.map fun s => .tuple (s.map PyData.str)) := Ims.dp h
section
variable {P : Program} {w : World} {K : PySem.W.Frag} {mg : Str → Option Value} {base : Heap} {G : List Addr} {L : List (Addr × Str)}
theorem r_slN {K : PySem.W.Frag} {H : Hp} {Q : VK} {a : Addr} {xs : List V} {lo hi : Option Int} (h : H a = some (.lst xs)) (q : ∀ p H', H p = none → (∀ b o, H b = some o → H' b = some o) → H' p = some (.lst (cutV xs lo hi)) → Q (.ref p) H') : rSlL K (.ref a) lo hi H Q :=
  ⟨a, xs, rfl, .of h, fun p hp => q p _ hp (new_facts rfl hp).1 upd_same⟩
theorem r_repL {H : Hp} {Q : VK} {a : Addr} {n : Nat} {xs : List V} (h : H a = some (.lst xs)) (hn : n ≤ 1000) (hl : xs.length * n ≤ 5000) (q : ∀ p H', H p = none → (∀ b o, H b = some o → H' b = some o) → H' p = some (.lst (List.replicate n xs).flatten) → Q (.ref p) H') : rRep (.ref a) (.int (n : Nat)) H Q :=
  ⟨a, (n : Nat), xs, rfl, rfl, h, by omega, by omega, Nat.le_trans (by simpa using hl) (by decide), fun p hp => q p _ hp (new_facts rfl hp).1 upd_same⟩
/-- what the law's def is asked, how it answers -/
def spLaw (K : PySem.W.Frag) (G : List Addr) (L : List (Addr × Str)) : Sp := fun vs H Q _ => ∃ (a : Addr) (ns : List Int), vs = [.ref a] ∧ ns.length ≤ 63 ∧ SqL K H a (ns.map V.int) ∧ TBS G L H ∧ ∀ H', Q (.bl true) H'
end
section
variable {P : Program} {w : World} {K : PySem.W.Frag} {mg : Str → Option Value} {base : Heap} {G : List Addr} {L : List (Addr × Str)}
theorem scNext : FnScope ["_law_dice_here", "_law_many", "_law_found", "_law_cell"] ["_law_dice_here", "_law_many"] (defScope sNext) := C8.fnScope_by (by decide +kernel)
theorem ok_next {f : Addr} {fd : FuncData} (F : Fun K "_law_next" "_law_next" sNext f fd) (zI : mg "int" = none) (zL : mg "len" = none) : FnOk P w K mg base CX0 1 f fd ["_law_dice_here", "_law_many"] (spTaken K G L) := by
  refine F.ok scNext (fun vs H Q E h => ?_) (fun cdv A outer s H vs Q E hr h => ?_)
  · obtain ⟨r, m, e, _⟩ := h
    rw [e]
    rfl
  · obtain ⟨ρ, m, e, hR, m0, m1, q⟩ := h
    subst e
    obtain ⟨r, a, ns⟩ := ρ
    obtain ⟨i, z, l, sc, hn, hr0, hi⟩ := hR
    dsimp only at sc hn hr0 q
    refine ⟨_, pss_cons (ps_if (pt_cmpR op_gt (pe_ix ix_list (pv 0) pe_int (fun _ _ => rfl)) pe_int (nomark _))
        (pss_cons (ps_set (i := 2) scNext.nd rfl (Or.inl rfl) (pe_op op_mod (pe_callTy c_int rfl zI boot_int (pa_cons (pe_ix ix_list (pv 0) pe_int (fun _ _ => rfl)) pa_nil)) (pv 1)))
        (pss_cons (ps_asg (pe_op op_fdiv (pe_ix ix_list (pv 0) pe_int (fun _ _ => rfl)) (pv 1)) (pg_sub (pv 0) pe_int set_list (fun _ => rfl)))
        (pss_one (ps_ret (pv 2))))) pss_nil)
      (pss_cons (ps_asg (pe_op op_add (pe_ix ix_list (pv 0) pe_int (fun _ _ => rfl)) pe_int) (pg_sub (pv 0) pe_int set_list (fun _ => rfl)))
      (pss_cons (ps_if (pt_cmpR op_le (pe_ix ix_list (pv 0) pe_int (fun _ _ => rfl)) (pe_callB c_len rfl zL boot_len (pa_cons (pe_ix ix_list (pv 0) pe_int (fun _ _ => rfl)) pa_nil)) (nomark _))
        (pss_cons (ps_set (i := 3) scNext.nd rfl (Or.inl rfl) (pe_ix ix_list (pe_ix ix_list (pv 0) pe_int (fun _ _ => rfl)) (pe_op op_sub (pe_ix ix_list (pv 0) pe_int (fun _ _ => rfl)) pe_int) (fun _ _ => rfl)))
        (pss_cons (ps_asg (pe_ifExp (pt_cmpR op_ge (pv 3) (pe_op op_pow pe_int pe_int) (nomark _)) (pe_op op_fdiv (pv 3) (pv 1)) pe_int) (pg_sub (pv 0) pe_int set_list (fun _ => rfl)))
        (pss_one (ps_ret (pe_op op_mod (pe_callTy c_int rfl zI boot_int (pa_cons (pv 3) pa_nil)) (pv 1)))))) pss_nil)
      (pss_cons (ps_asg (pe_op op_mod (pe_callTy c_int rfl zI boot_int (pa_cons (pe_op op_mul (pe_ix ix_list (pv 0) pe_int (fun _ _ => rfl)) pe_int) pa_nil)) pe_int) (pg_sub (pv 0) pe_int set_list (fun _ => rfl)))
      (pss_one (ps_ret (pe_op op_mod (pe_op op_fdiv (pe_ix ix_list (pv 0) pe_int (fun _ _ => rfl)) pe_int) (pv 1))))))), ?_⟩
    repeat walk_at "rd"
    refine r_ixL (SqL.of hr0) (v := .int l) rfl ?_
    repeat walk_at "rd"
    refine r_if (fun c => ?_) (fun c => ?_)
    · repeat walk_at "rd"
      refine r_ixL (SqL.of hr0) (v := .int l) rfl ?_
      repeat walk_at "rd"
      refine r_I m0 ?_
      repeat walk_at "rd"
      refine r_ixL (SqL.of hr0) (v := .int l) rfl ?_
      repeat walk_at "rd"
      refine r_I ⟨m0, by omega⟩ ?_
      repeat walk_at "rd"
      refine r_set2 hr0 (j := 3) rfl rfl fun H1 g1 h1 => ?_
      repeat walk_at "rd"
      exact q _ _ (Int.emod_nonneg _ (by omega)) (Int.emod_lt_of_pos _ m0) (g1 G L) (.mk' sc hn (g1 G L).1 h1 hi)
    · repeat walk_at "rd"
      refine r_ixL (SqL.of hr0) (v := .int i) rfl ?_
      repeat walk_at "rd"
      refine r_set2 hr0 (j := 1) rfl rfl fun H1 g1 h1 => ?_
      repeat walk_at "rd"
      refine r_ixL (SqL.of h1) (v := .int (i + 1)) rfl ?_
      repeat walk_at "rd"
      refine r_ixL (SqL.of h1) (v := .ref a) rfl ?_
      have sq1 := sc H1 (g1 G L).1
      repeat walk_at "rd"
      refine r_lenL sq1 ?_
      rw [List.length_map]
      repeat walk_at "rd"
      refine r_if (fun c2 => ?_) (fun c2 => ?_)
      · have hle : i + 1 ≤ ns.length := of_decide_eq_true c2
        obtain ⟨cell, hcell⟩ := at_ints (ns := ns) (i := i + 1 - 1) (by omega) (by omega)
        repeat walk_at "rd"
        refine r_ixL (SqL.of h1) (v := .ref a) rfl ?_
        repeat walk_at "rd"
        refine r_ixL (SqL.of h1) (v := .int (i + 1)) rfl ?_
        repeat walk_at "rd"
        refine r_ixL sq1 hcell ?_
        repeat walk_at "rd"
        refine r_I ⟨by decide, by decide, by decide⟩ ?_
        repeat walk_at "rd"
        refine r_if (fun c3 => ?_) (fun c3 => ?_)
        · repeat walk_at "rd"
          refine r_I ⟨m0, by omega⟩ ?_
          repeat walk_at "rd"
          refine r_set2 h1 (j := 3) rfl rfl fun H3 g3 h3 => ?_
          repeat walk_at "rd"
          refine r_I m0 ?_
          exact q _ _ (Int.emod_nonneg _ (by omega)) (Int.emod_lt_of_pos _ m0) ((g1 G L).trans (g3 G L)) (.mk' sc hn ((g1 G L).trans (g3 G L)).1 h3 (by omega))
        · repeat walk_at "rd"
          refine r_set2 h1 (j := 3) rfl rfl fun H3 g3 h3 => ?_
          repeat walk_at "rd"
          refine r_I m0 ?_
          exact q _ _ (Int.emod_nonneg _ (by omega)) (Int.emod_lt_of_pos _ m0) ((g1 G L).trans (g3 G L)) (.mk' sc hn ((g1 G L).trans (g3 G L)).1 h3 (by omega))
      · repeat walk_at "rd"
        refine r_ixL (SqL.of h1) (v := .int z) rfl ?_
        repeat walk_at "rd"
        refine r_I (.inr (by decide)) ?_
        repeat walk_at "rd"
        refine r_I (by decide) ?_
        repeat walk_at "rd"
        refine r_set2 h1 (j := 2) rfl rfl fun H2 g2 h2 => ?_
        repeat walk_at "rd"
        refine r_ixL (SqL.of h2) rfl ?_
        repeat walk_at "rd"
        refine r_I ⟨by decide, by decide⟩ ?_
        repeat walk_at "rd"
        refine r_I m0 ?_
        exact q _ _ (Int.emod_nonneg _ (by omega)) (Int.emod_lt_of_pos _ m0) ((g1 G L).trans (g2 G L)) (.mk' sc hn ((g1 G L).trans (g2 G L)).1 h2 (by omega))
end
section
variable {P : Program} {w : World} {K : PySem.W.Frag} {mg : Str → Option Value} {base : Heap} {G : List Addr} {L : List (Addr × Str)}
theorem scDice : FnScope ["_law_script", "_law_mixed", "_law_cell"] ["_law_script"] (defScope sDice) := C8.fnScope_by (by decide +kernel)
def spDice (K : PySem.W.Frag) (G : List Addr) (L : List (Addr × Str)) : Sp := fun vs H Q _ => ∃ (a : Addr) (ns : List Int), vs = [.ref a] ∧ ns.length ≤ 63 ∧ SqL K H a (ns.map V.int) ∧ ∀ r H', Go G L H H' → H r = none → Row K H' ⟨r, a, ns⟩ → Q (.ref r) H'
theorem ok_dice {f : Addr} {fd : FuncData} (F : Fun K "_law_dice" "_law_dice" sDice f fd) (zI : mg "int" = none) (zL : mg "len" = none) : FnOk P w K mg base CX0 1 f fd ["_law_script"] (spDice K G L) := by
  refine F.ok scDice (fun vs H Q E h => ?_) (fun cdv A outer s H vs Q E hr h => ?_)
  · obtain ⟨a, ns, e, _⟩ := h
    rw [e]
    rfl
  · obtain ⟨a, ns, e, hn, hS, q⟩ := h
    subst e
    refine ⟨_, pss_cons (ps_set (i := 1) scDice.nd rfl (Or.inl rfl) pe_int)
      (pss_cons (ps_for PassesOwn.never rfl (pi_list (pv 0)) (pg_name (i := 2) scDice.nd rfl (.inl rfl))
        (pss_one (ps_set (i := 1) scDice.nd rfl (Or.inl rfl) (pe_op op_mod (pe_op op_add (pe_op op_add (pe_op op_mul (pv 1) pe_int) (pe_op op_mul (pe_op op_mod (pe_callTy c_int rfl zI boot_int (pa_cons (pv 2) pa_nil)) pe_int) pe_int)) pe_int) pe_int))))
      (pss_one (ps_ret (pe_lst (pa_cons (pv 0) (pa_cons pe_int (pa_cons (pe_op op_mul (pv 1) (pe_callTy c_int rfl zI boot_int (pa_cons (pe_cmpR op_gt (pe_callB c_len rfl zL boot_len (pa_cons (pv 0) pa_nil)) pe_int (nomark _)) pa_nil))) (pa_cons pe_int pa_nil)))))))), ?_⟩
    repeat walk_at "rd"
    refine forL (a := a) (xs := ns.map V.int) (fun R z => ⟨_, rfl, z⟩) hS (fun i σ H' => ∃ (m : Int) (x2 : Option V), σ = [some (.ref a), some (.int m), x2] ∧ H' = H) ?_ ?_ ?_ ?_
    · exact ⟨0, none, rfl, rfl⟩
    · rintro i σ H' _ ⟨m, x2, rfl, rfl⟩
      exact hS
    · rintro i y σ H' hy ⟨m, x2, rfl, rfl⟩
      obtain ⟨z, rfl⟩ : ∃ z : Int, y = .int z := by
        rw [List.getElem?_map] at hy
        cases hz : ns[i]? with
        | none => rw [hz] at hy; cases hy
        | some z => rw [hz] at hy; exact ⟨z, (Option.some.inj hy).symm⟩
      refine r_gN ?_
      repeat walk_at "rd"
      refine r_I (.inr (by decide)) ?_
      repeat walk_at "rd"
      refine r_I (by decide) ?_
      repeat walk_at "rd"
      refine r_I (.inr (by decide)) ?_
      repeat walk_at "rd"
      refine r_I (by decide) ?_
      repeat walk_at "rd"
      exact ⟨_, _, rfl, rfl⟩
    · rintro σ H' ⟨m, x2, rfl, rfl⟩
      repeat walk_at "rd"
      refine r_lenL hS ?_
      repeat walk_at "rd"
      have fin : ∀ k : Int, -(2 ^ 64) < k ∧ k < 2 ^ 64 → rI CMul (fun i j => V.int (i * j)) (V.int m) (V.int k) H' fun x H1 =>
              tCons (tC (V.int 0)) tNil [some (V.ref a), some (V.int m), x2] H1 fun xs H2 =>
                (V.ref a :: V.int 0 :: x :: xs).length ≤ sizeLine ∧
                  ∀ (p : Addr), H2 p = none → Q (V.ref p) (upd H2 p (HO.lst (V.ref a :: V.int 0 :: x :: xs))) := fun k hk => by
        refine r_I (.inr hk) ?_
        repeat walk_at "rd"
        refine ⟨by show 4 ≤ sizeLine; decide, fun p hp => ?_⟩
        generalize hH : upd H' p _ = H1; obtain ⟨k1, e1⟩ := new_facts hH hp; clear hH
        exact q p H1 (Go.same k1) hp ⟨0, _, 0, fun H2 e' => scr_of hp hS H2 ((kp_ev k1).trans e'), hn, e1, Int.le_refl 0⟩
      refine fin _ ?_
      split <;> decide
end
section
variable {P : Program} {w : World} {K : PySem.W.Frag} {mg : Str → Option Value} {base : Heap} {G : List Addr} {L : List (Addr × Str)}
def spKeeps (K : PySem.W.Frag) : Sp := fun vs H Q _ => ∃ sv cv sd w a b, vs = [cv, sv] ∧ Dp K H sv (.tuple sd) ∧ Dp K H cv (.tuple [.str w, a, b]) ∧ lv 8 (.tuple sd) = true ∧ lv 8 a = true ∧ lv 8 b = true ∧ Q (.bl (holdsD sd w a b)) H
theorem scKeeps : FnScope ["_law_clause_here", "_law_state", "_law_word", "_law_first", "_law_second"] ["_law_clause_here", "_law_state"] (defScope sKeeps) := C8.fnScope_by (by decide +kernel)
theorem ok_keeps {f : Addr} {fd : FuncData} (F : Fun K "_law_keeps" "_law_keeps" sKeeps f fd) : FnOk P w K mg base CX0 1 f fd ["_law_clause_here", "_law_state"] (spKeeps K) := by
  refine F.ok scKeeps (fun vs H Q E h => ?_) (fun cdv A outer s H vs Q E hr h => ?_)
  · obtain ⟨sv, cv, sd, w, a, b, e, _⟩ := h
    rw [e]
    rfl
  · obtain ⟨sv, cv, sd, w, a, b, e, hs, hc, l0, l1, l2, q⟩ := h
    subst e
    refine ⟨_, pss_cons (ps_asg (pv 0) (pg_tup rfl (pgs_cons (pg_name (i := 2) scKeeps.nd rfl (.inl rfl)) (pgs_cons (pg_name (i := 3) scKeeps.nd rfl (.inl rfl)) (pgs_cons (pg_name (i := 4) scKeeps.nd rfl (.inl rfl)) pgs_nil)))))
      (pss_cons (ps_if (pt_cmpR op_eq (pv 2) pe_str (nomark _)) (pss_one (ps_ret (pe_or (pe_cmpR (op_notInT (u65 hr)) (pv 3) (pv 1) rfl) (pe_one (pe_cmpR (op_inT (u65 hr)) (pv 4) (pv 1) rfl))))) pss_nil)
      (pss_cons (ps_if (pt_cmpR op_eq (pv 2) pe_str (nomark _)) (pss_one (ps_ret (pe_or (pe_cmpR (op_notInT (u65 hr)) (pv 3) (pv 1) rfl) (pe_one (pe_cmpR (op_notInT (u65 hr)) (pv 4) (pv 1) rfl))))) pss_nil)
      (pss_one (ps_ret (pe_or (pe_cmpR (op_inT (u65 hr)) (pv 3) (pv 1) rfl) (pe_one (pe_cmpR (op_inT (u65 hr)) (pv 4) (pv 1) rfl))))))), ?_⟩
    cases hc with
    | @tup T xs _ hT hxs =>
      have h3 : xs.length = 3 := Dps.length hxs
      obtain ⟨x, y, z, dx, dy, dz, e1, e2, hx, hy, hz⟩ := three_of hxs h3
      cases e2
      subst e1
      cases hx
      refine r_seq (r_asgE (x := .ref T) (fun R z => ⟨_, rfl, z⟩) (g_three hT ?_))
      repeat walk_at "rd"
      refine r_eq rfl ?_
      repeat walk_at "rd"
      refine r_if (fun c1 => ?_) (fun c1 => ?_)
      · have ew : w = "needs" := V.str.inj (of_decide_eq_true c1)
        subst ew
        repeat walk_at "rd"
        refine r_ninT hy hs l1 l0 ?_
        repeat walk_at "rd"
        refine r_if (fun c2 => ?_) (fun c2 => ?_)
        · have e : holdsD sd "needs" a b = true := by
            show (!inD a sd || inD b sd) = true
            rw [c2]
            rfl
          rw [e] at q
          exact q
        · repeat walk_at "rd"
          refine r_inT hz hs l2 l0 ?_
          have e : holdsD sd "needs" a b = inD b sd := by
            show (!inD a sd || inD b sd) = _
            rw [c2]
            rfl
          rw [e] at q
          exact q
      · have ew : w ≠ "needs" := fun z => of_decide_eq_false c1 (congrArg V.str z)
        repeat walk_at "rd"
        refine r_eq rfl ?_
        repeat walk_at "rd"
        refine r_if (fun c3 => ?_) (fun c3 => ?_)
        · have ew2 : w = "excludes" := V.str.inj (of_decide_eq_true c3)
          have e0 : holdsD sd w a b = (!inD a sd || !inD b sd) := by
            unfold holdsD
            rw [if_neg ew, if_pos ew2]
          rw [e0] at q
          repeat walk_at "rd"
          refine r_ninT hy hs l1 l0 ?_
          repeat walk_at "rd"
          refine r_if (fun c2 => ?_) (fun c2 => ?_)
          · rw [c2] at q
            exact q
          · repeat walk_at "rd"
            refine r_ninT hz hs l2 l0 ?_
            rw [c2] at q
            exact q
        · have ew2 : w ≠ "excludes" := fun z => of_decide_eq_false c3 (congrArg V.str z)
          have e0 : holdsD sd w a b = (inD a sd || inD b sd) := by
            unfold holdsD
            rw [if_neg ew, if_neg ew2]
          rw [e0] at q
          repeat walk_at "rd"
          refine r_inT hy hs l1 l0 ?_
          repeat walk_at "rd"
          refine r_if (fun c2 => ?_) (fun c2 => ?_)
          · rw [c2] at q
            exact q
          · repeat walk_at "rd"
            refine r_inT hz hs l2 l0 ?_
            rw [c2] at q
            exact q
theorem scPick : FnScope ["_law_d", "_law_some"] ["_law_d", "_law_some"] (defScope sPick) := C8.fnScope_by (by decide +kernel)
theorem r_ixA {p : Addr} {xs : List V} {i : Nat} {v : V} {H : Hp} {Q : VK} (h : SqA K H p xs) (e : xs[i]? = some v) (q : Q v H) : rIx K (.ref p) (.int (i : Nat)) H Q := by
  rcases h with h | h
  · exact .inl (r_ixL h (atI_nat e) q)
  · exact .inr (.inl (r_ixT h (atI_nat e) q))
def spPick (K : PySem.W.Frag) (G : List Addr) (L : List (Addr × Str)) : Sp := fun vs H Q _ => ∃ (ρ : Rid) (p : Addr) (xs : List V), vs = [.ref ρ.r, .ref p] ∧ Row K H ρ ∧ 0 < xs.length ∧ xs.length < 1000000 ∧ (∀ H', H' = H ∨ GoR G L ρ.r H H' → SqA K H' p xs) ∧
  ∀ (i : Nat) (v : V) (H' : Hp), xs[i]? = some v → GoR G L ρ.r H H' → Row K H' ρ → Q v H'
theorem ok_pick {f : Addr} {fd : FuncData} (F : Fun K "_law_pick" "_law_pick" sPick f fd) (zL : mg "len" = none) (NX : Fd CX0 P w K mg base "_law_next" 1 (spTaken K G L)) : FnOk P w K mg base CX0 2 f fd ["_law_d", "_law_some"] (spPick K G L) := by
  refine F.ok scPick (fun vs H Q E h => ?_) (fun cdv A outer s H vs Q E hr h => ?_)
  · obtain ⟨ρ, p, xs, e, _⟩ := h
    rw [e]
    rfl
  · obtain ⟨ρ, p, xs, e, hR, h0, hl, hs, q⟩ := h
    subst e
    refine ⟨_, pss_one (ps_ret (pe_ix ix_seq (pv 1) (pe_fd (E := E0) NX hr pass0 (pa_cons (pv 0) (pa_cons (pe_callB c_len rfl zL boot_len (pa_cons (pv 1) pa_nil)) pa_nil))) (fun _ _ => rfl))), ?_⟩
    repeat walk_at "rd"
    refine ⟨p, xs, rfl, hs H (.inl rfl), ?_⟩
    repeat walk_at "rd"
    refine r_taken hR (by omega) (by omega) fun v H1 hv g1 hR1 => ?_
    have hv' : v < xs.length := by omega
    exact r_ixA (hs H1 (.inr g1)) (List.getElem?_eq_getElem hv') (q v _ H1 (List.getElem?_eq_getElem hv') g1 hR1)
theorem scClause5 : FnScope ["_law_d", "_law_names_here", "_law_word"] ["_law_d", "_law_names_here"] (defScope sClause5) := C8.fnScope_by (by decide +kernel)
def wordAt5 (n : Nat) : Str := ["needs", "excludes", "either"].getD n "needs"
theorem wordAt5_ok (n : Nat) (h : n < 5) : ∃ m : Nat, m < 3 ∧ atI [V.int 0, .int 0, .int 1, .int 1, .int 2] (n : Nat) = some (.int (m : Nat)) ∧ isWord (wordAt5 m) ∧ atI [V.str "needs", .str "excludes", .str "either"] (m : Nat) = some (.str (wordAt5 m)) := by
  match n, h with
  | 0, _ => exact ⟨0, by decide, rfl, .inl rfl, rfl⟩
  | 1, _ => exact ⟨0, by decide, rfl, .inl rfl, rfl⟩
  | 2, _ => exact ⟨1, by decide, rfl, .inr (.inl rfl), rfl⟩
  | 3, _ => exact ⟨1, by decide, rfl, .inr (.inl rfl), rfl⟩
  | 4, _ => exact ⟨2, by decide, rfl, .inr (.inr rfl), rfl⟩
theorem ok_clause5 {f : Addr} {fd : FuncData} (F : Fun K "_law_clause" "_law_clause" sClause5 f fd) (NX : Fd CX0 P w K mg base "_law_next" 1 (spTaken K G L)) (PK : Fd CX0 P w K mg base "_law_pick" 2 (spPick K G L)) : FnOk P w K mg base CX0 3 f fd ["_law_d", "_law_names_here"] (spClause K G L) := by
  refine F.ok scClause5 (fun vs H Q E h => ?_) (fun cdv A outer s H vs Q E hr h => ?_)
  · obtain ⟨r, an, ns, e, _⟩ := h
    rw [e]
    rfl
  · obtain ⟨r, an, ns, e, hR, ha, hne, hl, q⟩ := h
    subst e
    refine ⟨_, pss_cons (ps_set (i := 2) scClause5.nd rfl (Or.inl rfl) (pe_ix ix_list (pe_lst (pa_cons pe_str (pa_cons pe_str (pa_cons pe_str pa_nil)))) (pe_ix ix_list (pe_lst (pa_cons pe_int (pa_cons pe_int (pa_cons pe_int (pa_cons pe_int (pa_cons pe_int pa_nil)))))) (pe_fd (E := E0) NX hr pass0 (pa_cons (pv 0) (pa_cons pe_int pa_nil))) (fun _ _ => rfl)) (fun _ _ => rfl)))
      (pss_one (ps_ret (pe_tup (pa_cons (pv 2) (pa_cons (pe_fd (E := E0) PK hr pass0 (pa_cons (pv 0) (pa_cons (pv 1) pa_nil))) (pa_cons (pe_fd (E := E0) PK hr pass0 (pa_cons (pv 0) (pa_cons (pv 1) pa_nil))) pa_nil)))))), ?_⟩
    have n0 : 0 < ns.length := List.length_pos_iff.mpr hne
    repeat walk_at "rd"
    refine ⟨(by show 3 ≤ sizeLine; decide), fun p hp => ?_⟩
    generalize hH : upd H p _ = H0; obtain ⟨k0, hp0⟩ := new_facts hH hp; clear hH
    have g0 : Go G L H H0 := Go.same k0
    have hR0 := hR.go g0
    have pr : p ≠ r.r := by
      obtain ⟨xs, z⟩ := hR.lst
      exact (ne_of_none z hp).symm
    repeat walk_at "rd"
    refine ⟨(by show 5 ≤ sizeLine; decide), fun p' hp' => ?_⟩
    generalize hH : upd H0 p' _ = H0'; obtain ⟨k0', hp0'⟩ := new_facts hH hp'; clear hH
    have g0' : Go G L H H0' := g0.trans (Go.same k0')
    have hR0' := hR.go g0'
    have pr' : p' ≠ r.r := by
      obtain ⟨xs, z⟩ := hR0.lst
      exact (ne_of_none z hp').symm
    have hp1 := k0' _ _ hp0
    repeat walk_at "rd"
    refine r_taken hR0' (by decide) (by decide) fun v1 H1 hv1 g1 hR1 => ?_
    obtain ⟨m, hm, w0, w1, w2⟩ := wordAt5_ok v1 (by omega)
    refine r_ixL (.of (g1.lst pr' hp0')) w0 ?_
    refine r_ixL (.of (g1.lst pr hp1)) w2 ?_
    have ha1 := (ha.kt g0'.kt).kt (hR0'.kt g1)
    have seqs : ∀ {H1 : Hp}, Row K H1 r → Tp H1 an (ns.map V.str) → ∀ H', H' = H1 ∨ GoR G L r.r H1 H' → SqA K H' an (ns.map V.str) := fun {H1} hR ha H' h => by
      rcases h with rfl | g
      · exact .inr ha.seq
      · exact .inr (ha.kt (hR.kt g)).seq
    have hst : ∀ {i : Nat} {v : V}, (ns.map V.str)[i]? = some v → ∃ z, z ∈ ns ∧ v = .str z := fun {i v} e => by
      rw [List.getElem?_map] at e
      cases hz : ns[i]? with
      | none => rw [hz] at e; cases e
      | some z => rw [hz] at e; exact ⟨z, List.mem_of_getElem? hz, (Option.some.inj e).symm⟩
    repeat walk_at "rd"
    refine ⟨r, an, ns.map V.str, rfl, hR1, by rw [List.length_map]; exact n0, by rw [List.length_map]; omega, seqs hR1 ha1, fun i2 x2 H2 e2 g2 hR2 => ?_⟩
    obtain ⟨z2, m2, rfl⟩ := hst e2
    have ha2 := ha1.kt (hR1.kt g2)
    repeat walk_at "rd"
    refine ⟨r, an, ns.map V.str, rfl, hR2, by rw [List.length_map]; exact n0, by rw [List.length_map]; omega, seqs hR2 ha2, fun i3 x3 H3 e3 g3 hR3 => ?_⟩
    obtain ⟨z3, m3, rfl⟩ := hst e3
    repeat walk_at "rd"
    refine ⟨(by show 3 ≤ sizeLine; decide), fun p4 hp4 => ?_⟩
    have g4 : Go G L H3 (upd H3 p4 (.tup [.str (wordAt5 m), .str z2, .str z3])) := Go.new hp4
    exact q _ (.tuple [.str (wordAt5 m), .str z2, .str z3]) _ ⟨_, _, _, rfl, w1, m2, m3⟩ (.tup (.inl upd_same) (.cons (.str _) (.cons (.str _) (.cons (.str _) .nil)))) ((((g0'.toR.trans g1).trans g2).trans g3).trans g4.toR) (hR3.go g4)
end
section
variable {X : Cx}
def rMulS : R2 := fun x y H Q => ∃ z n, x = .str z ∧ y = .int n ∧ MulOk z n ∧ Q (.str (Txt.mul z n)) H
theorem op_mulS : OpR X (binaryOp .Mult) rMulS := by
  intro pins s σ H x y v u Q I rx ry h
  obtain ⟨z, n, rfl, rfl, ok, q⟩ := h
  obtain ⟨t, rfl⟩ := rx
  obtain ⟨t', rfl⟩ := ry
  exact SB.mul ok fun t2 k => ⟨.str (Txt.mul z n), H, I.tok _, ⟨_, rfl⟩, q⟩
theorem op_addS : OpR X (binaryOp .Add) (fun x y H Q => ∃ i j, x = .str i ∧ y = .str j ∧ i.length + j.length ≤ sizeLine ∧ Q (.str (i ++ j)) H) := op_add_str
end
def chr1 (c : Nat) : Str := ⟨#[97 + c]⟩
def sufs : List Str := ["", "z", "zzzzz"]
def mkName (c n k s : Nat) : Str := (Txt.mul (chr1 c) (n : Int) ++ chr1 k) ++ sufs.getD s ""
theorem nmB_all : ∀ c < 26, ∀ n < 3, ∀ k < 10, ∀ s < 3, nmB (mkName c n k s) k = true := by decide +kernel
theorem letters_at : ∀ c < 26, letters.cps.toList[c]? = some (97 + c) := by decide +kernel
theorem letters_len : letters.length = 26 := by decide +kernel
theorem mul_ok : ∀ c < 26, ∀ n < 3, MulOk (chr1 c) (n : Nat) ∧ (Txt.mul (chr1 c) ((n : Nat) : Int)).length ≤ 2 := by
  intro c hc n hn
  refine ⟨⟨by match n, hn with | 0, _ => decide | 1, _ => decide | 2, _ => decide, fun h1 h2 => ?_, fun h1 h2 => ?_⟩, ?_⟩
  · match n, hn with
    | 0, _ => exact absurd (by decide) h1
    | 1, _ => cases h2
    | 2, _ => show ¬ (1 : Int) > _; decide
  · match n, hn with
    | 0, _ => exact absurd (by decide) h1
    | 1, _ => cases h2
    | 2, _ => rfl
  · match n, hn with
    | 0, _ => show (0 : Nat) ≤ 2; decide
    | 1, _ => show (1 : Nat) ≤ 2; decide
    | 2, _ => show (2 : Nat) ≤ 2; decide
theorem sufs_at (s : Nat) (h : s < 3) : atI [V.str "", .str "z", .str "zzzzz"] (s : Nat) = some (.str (sufs.getD s "")) ∧ (sufs.getD s "").length ≤ 5 := by
  match s, h with
  | 0, _ => exact ⟨rfl, by decide⟩
  | 1, _ => exact ⟨rfl, by decide⟩
  | 2, _ => exact ⟨rfl, by decide⟩
section
variable {P : Program} {w : World} {K : PySem.W.Frag} {mg : Str → Option Value} {base : Heap} {G : List Addr} {L : List (Addr × Str)}
def spNames (K : PySem.W.Frag) (G : List Addr) (L : List (Addr × Str)) : Sp := fun vs H Q _ => ∃ (ρ : Rid) (m : Nat), vs = [.ref ρ.r, .int (m : Nat)] ∧ Row K H ρ ∧ 0 < m ∧ m ≤ 10 ∧
  ∀ (ns : List Str) (T : Addr) (H' : Hp), 0 < ns.length → ns.length ≤ m → NmsP ns → NT H' T (ns.map V.str) → GoR G L ρ.r H H' → Row K H' ρ → Q (.ref T) H'
abbrev nNms : List Str := ["_law_d", "_law_most", "_law_letters", "_law_found", "_law_k"]
theorem scNames5 : FnScope nNms ["_law_d", "_law_most"] (defScope sNames5) := C8.fnScope_by (by decide +kernel)
theorem nmsP_snoc {ns : List Str} {z : Str} (h : NmsP ns) (hz : nmB z ns.length = true) : NmsP (ns ++ [z]) := fun k y e => by
  by_cases c : k < ns.length
  · rw [List.getElem?_append_left c] at e
    exact h k y e
  · rw [List.getElem?_append_right (by omega)] at e
    have e0 : k - ns.length = 0 := by
      rcases Nat.eq_zero_or_pos (k - ns.length) with z | z
      · exact z
      · rw [List.getElem?_eq_none (by show 1 ≤ _; omega)] at e
        cases e
    rw [e0] at e
    cases e
    rw [show k = ns.length by omega]
    exact hz
theorem ok_names5 {f : Addr} {fd : FuncData} (F : Fun K "_law_names" "_law_names" sNames5 f fd) (zR : mg "range" = none) (zT : mg "tuple" = none) (NX : Fd CX0 P w K mg base "_law_next" 1 (spTaken K G L)) : FnOk P w K mg base CX0 2 f fd ["_law_d", "_law_most"] (spNames K G L) := by
  refine F.ok scNames5 (fun vs H Q E h => ?_) (fun cdv A outer s H vs Q E hr h => ?_)
  · obtain ⟨r, an, e, _⟩ := h
    rw [e]
    rfl
  · obtain ⟨ρ, m, e, hR, m0, m10, q⟩ := h
    subst e
    refine ⟨_, pss_cons (ps_par (i := 2) (j := 3) rfl scNames5.nd rfl rfl (by decide) rfl rfl (pa_cons pe_str (pa_cons (pe_lst pa_nil) pa_nil)) rfl)
      (pss_cons (ps_for PassesOwn.never rfl (pi_range1 rfl zR (pa_cons (pe_op op_add pe_int (pe_fd (E := E0) NX hr pass0 (pa_cons (pv 0) (pa_cons (pv 1) pa_nil)))) pa_nil)) (pg_name (i := 4) scNames5.nd rfl (.inl rfl))
        (pss_one (ps_expr (pe_bm PySem.F.plainAttrs_list PySem.F.slot_list_append PySem.F.type_list_append mt_append (pv 3)
          (pa_cons (pe_op op_addS (pe_op op_addS (pe_op op_mulS (pe_ix ix_str (pv 2) (pe_fd (E := E0) NX hr pass0 (pa_cons (pv 0) (pa_cons pe_int pa_nil))) (fun _ _ => rfl)) (pe_fd (E := E0) NX hr pass0 (pa_cons (pv 0) (pa_cons pe_int pa_nil)))) (pe_ix ix_str (pv 2) (pv 4) (fun _ _ => rfl)))
            (pe_ix ix_list (pe_lst (pa_cons pe_str (pa_cons pe_str (pa_cons pe_str pa_nil)))) (pe_fd (E := E0) NX hr pass0 (pa_cons (pv 0) (pa_cons pe_int pa_nil))) (fun _ _ => rfl))) pa_nil)))))
      (pss_one (ps_ret (pe_callTy c_tup rfl zT (by decide +kernel) (pa_cons (pv 3) pa_nil))))), ?_⟩
    repeat walk_at "rd"
    refine ⟨Nat.zero_le _, fun D hD => ?_⟩
    generalize hH : upd H D _ = H1; obtain ⟨k1, eD⟩ := new_facts hH hD; clear hH
    have g1 : Go G L H H1 := Go.same k1
    have nD : D ≠ ρ.r := by
      obtain ⟨xs, z⟩ := hR.lst
      exact (ne_of_none z hD).symm
    have hR1 := hR.go g1
    repeat walk_at "rd"
    refine ⟨.str letters, .ref D, rfl, ?_⟩
    refine r_seq ?_
    refine forRg (fun n H0 => 1 ≤ n ∧ n ≤ m ∧ GoR G L ρ.r H1 H0 ∧ Row K H0 ρ) (fun R z => ?_) (fun n H0 ⟨hn1, hnm, g0, hR0⟩ => ⟨by omega, fun i σ H' => ∃ (x4 : Option V) (ns : List Str), σ = [some (.ref ρ.r), some (.int (m : Nat)), some (.str letters), some (.ref D), x4] ∧ GoR G L ρ.r H H' ∧ Row K H' ρ ∧ H' D = some (.lst (ns.map V.str)) ∧ ns.length = i ∧ NmsP ns, ?_, ?_, ?_⟩)
    · repeat walk_at "rd"
      refine r_taken hR1 (by omega) (by omega) fun v H2 hv g2 hR2 => ?_
      repeat walk_at "rd"
      rw [show (1 : Int) + (v : Nat) = ((v + 1 : Nat) : Int) by omega]
      exact z (v + 1) H2 ⟨by omega, by omega, g2, hR2⟩
    · exact ⟨none, [], rfl, g1.toR.trans g0, hR0, g0.lst nD eD, rfl, fun k z e => by cases e⟩
    · rintro i σ H' hi ⟨x4, ns, rfl, g, hR', eD', hl, hns⟩
      refine r_gN ?_
      repeat walk_at "rd"
      refine ⟨.inl ⟨rfl, _, .of eD'⟩, ?_⟩
      repeat walk_at "rd"
      refine r_taken hR' (by decide) (by decide) fun v1 H2 hv1 g1' hR2 => ?_
      have h1 : v1 < 26 := by omega
      refine ⟨letters, (v1 : Nat), 97 + v1, rfl, rfl, by rw [letters_len]; decide, atI_nat (letters_at v1 h1), ?_⟩
      repeat walk_at "rd"
      refine r_taken hR2 (by decide) (by decide) fun v2 H3 hv2 g2' hR3 => ?_
      have h2 : v2 < 3 := by omega
      obtain ⟨mo, ml⟩ := mul_ok v1 h1 v2 h2
      refine ⟨chr1 v1, (v2 : Nat), rfl, rfl, mo, ?_⟩
      repeat walk_at "rd"
      refine ⟨letters, (i : Nat), 97 + i, rfl, rfl, by rw [letters_len]; decide, atI_nat (letters_at i (by omega)), ?_⟩
      refine ⟨_, chr1 i, rfl, rfl, ?_, ?_⟩
      · show _ + 1 ≤ sizeLine
        rw [sizeLine_eq]
        omega
      repeat walk_at "rd"
      refine ⟨(by show 3 ≤ sizeLine; decide), fun p3 hp3 => ?_⟩
      generalize hH : upd H3 p3 _ = H4; obtain ⟨k4, e4⟩ := new_facts hH hp3; clear hH
      have g4 : Go G L H3 H4 := Go.same k4
      have n3 : p3 ≠ ρ.r := by
        obtain ⟨xs, z⟩ := hR3.lst
        exact (ne_of_none z hp3).symm
      have hR4 := hR3.go g4
      repeat walk_at "rd"
      refine r_taken hR4 (by decide) (by decide) fun v3 H5 hv3 g5 hR5 => ?_
      have h3 : v3 < 3 := by omega
      obtain ⟨sa, sl⟩ := sufs_at v3 h3
      refine r_ixL (.of (g5.lst n3 e4)) sa ?_
      have hlen : (Txt.mul (chr1 v1) (v2 : Nat) ++ chr1 i).length ≤ 3 := by
        show ((Txt.mul (chr1 v1) (v2 : Nat)).cps ++ (chr1 i).cps).size ≤ 3
        rw [Array.size_append]
        have e1 : (chr1 i).cps.size = 1 := rfl
        have e2 : (Txt.mul (chr1 v1) (v2 : Nat)).cps.size ≤ 2 := ml
        omega
      refine ⟨_, _, rfl, rfl, by rw [sizeLine_eq]; omega, ?_⟩
      repeat walk_at "rd"
      have gA : GoR G L ρ.r H' H5 := ((g1'.trans g2').trans g4.toR).trans g5
      have eD5 := gA.lst nD eD'
      refine r_append eD5 (by rw [List.length_map]; omega) ?_
      have gU : GoR G L ρ.r H (upd H5 D (.lst (ns.map V.str ++ [.str (mkName v1 v2 i v3)]))) := (g.trans gA).updNew hD eD5
      refine ⟨some (.int (i : Nat)), ns ++ [mkName v1 v2 i v3], rfl, gU, ?_, ?_, by rw [List.length_append, hl]; rfl, nmsP_snoc hns (by rw [hl]; exact nmB_all v1 h1 v2 h2 i (by omega) v3 h3)⟩
      · exact hR.re hR5 gU.1 (by rw [upd_ne nD.symm])
      · rw [upd_same, List.map_append]
        rfl
    · rintro σ H' ⟨x4, ns, rfl, g, hR', eD', hl, hns⟩
      repeat walk_at "rd"
      refine r_tupL2 eD' fun T H2 k2 hT => ?_
      have g2 : Go G L H' H2 := Go.same k2
      exact q ns T H2 (by omega) (by omega) hns hT (g.trans g2.toR) (hR'.go g2)
end
theorem NmsP.okNb {ns : List Str} (h : NmsP ns) (h10 : ns.length ≤ 10) : okNb (ns.map PyData.str) = true := by
  unfold FS.okNb
  simp only [Bool.and_eq_true, decide_eq_true_eq, List.length_map, List.all_eq_true, List.mem_map]
  refine ⟨by omega, ?_, ?_⟩
  · rintro x ⟨z, hz, rfl⟩
    exact (h.all hz).2.1
  · rintro x ⟨z, hz, rfl⟩
    have q := (h.all hz).2.2
    exact decide_eq_true (by omega)
theorem NmsP.good {ns : List Str} (h : NmsP ns) (h10 : ns.length ≤ 10) : goodS ns := ⟨fun z hz => (h.all hz).2.1, by omega⟩
theorem NmsP.okR {ns : List Str} {cd : List PyData} (h : NmsP ns) (h0 : 0 < ns.length) (h10 : ns.length ≤ 10) (hc : ∀ d ∈ cd, ClD ns d) (hl : cd.length ≤ 40) : OkR ns cd :=
  ⟨h.good h10, h.names h0 h10, fun z hz => Nat.le_trans (h.all hz).2.2 (by rw [sizeLine_eq]; decide), fun d hd => (hc d hd).ok, hl⟩
theorem NmsP.gn {ns : List Str} (h : NmsP ns) : GoodN ns := ⟨h.nodup, fun _ hz => h.all hz⟩
theorem GoodN.okNb {ns : List Str} (h : GoodN ns) (h10 : ns.length ≤ 10) : okNb (ns.map PyData.str) = true := by
  unfold FS.okNb
  simp only [Bool.and_eq_true, decide_eq_true_eq, List.length_map, List.all_eq_true, List.mem_map]
  refine ⟨by omega, ?_, ?_⟩
  · rintro x ⟨z, hz, rfl⟩
    exact (h.al z hz).2.1
  · rintro x ⟨z, hz, rfl⟩
    have q := (h.al z hz).2.2
    exact decide_eq_true (by omega)
theorem GoodN.good {ns : List Str} (h : GoodN ns) (h10 : ns.length ≤ 10) : goodS ns := ⟨fun z hz => (h.al z hz).2.1, by omega⟩
theorem GoodN.okR {ns : List Str} {cd : List PyData} (h : GoodN ns) (h0 : 0 < ns.length) (h10 : ns.length ≤ 10) (hc : ∀ d ∈ cd, ClD ns d) (hl : cd.length ≤ 40) : OkR ns cd :=
  ⟨h.good h10, h.names h0 h10, fun z hz => Nat.le_trans (h.al z hz).2.2 (by rw [sizeLine_eq]; decide), fun d hd => (hc d hd).ok, hl⟩
theorem r_pnamesW {K : PySem.W.Frag} {σ : L2.St} {H : Hp} {Q : VK} {ta : TE} {x : Addr} {ns : List Str} {cd : List PyData} (hx : ∀ R : VK, R (.ref x) H → ta σ H R) (h : RulesW K H x ns cd) (q : ∀ an, Tp H an (ns.map V.str) → Q (.ref an) H) : tProp (cR K) (getSp (cR K) "_names") [] E0 ta σ H Q := by
  obtain ⟨dx, an, ac, xs, h1, h2, _⟩ := h
  exact hx _ ⟨x, dx, _, rfl, h1, x, dx, _, .ref an, rfl, h1, rfl, q an h2⟩
theorem mk5 {K : PySem.W.Frag} {G : List Addr} {L : List (Addr × Str)} {H1 : Hp} {E : XK} {Qx : Addr → Hp → Prop} {ns : List Str} {cd : List PyData} {T U : Addr} {vs : List V} (gn : GoodN ns) (n0 : 0 < ns.length) (n10 : ns.length ≤ 10) (hcl : ∀ d ∈ cd, ClD ns d) (hl : cd.length ≤ 40)
    (hT : Tp H1 T (ns.map V.str)) (hU : Tp H1 U vs) (hvs : Ims H1 vs cd) (ht : TBS G L H1) (q : ∀ x H', Go G L H1 H' → RulesW K H' x ns cd → (NT H1 T (ns.map V.str) → RulesAt K H' x ns cd) → Qx x H') :
    ∀ x dx, H1 x = none → H1 dx = none → dx ≠ x → spInit K G L (.ref x :: ([.ref T, .ref U] ++ [])) (upd (upd H1 dx (.own x)) x (.ins (cR K) dx [])) (fun v H2 => v = .non ∧ Qx x H2) E := by
  have okR := gn.okR n0 n10 hcl hl
  have hrb : rulesBad (.tuple (ns.map PyData.str)) (.tuple cd) = none := by
    have z := okR.rb fun d hd => (hcl d hd).ok
    rw [if_pos hl] at z
    exact z
  have lvcd : lv 8 (.tuple cd) = true := lv_up (n := 7) (lv_tup fun d hd => cl_lv (fun z hz => (gn.al z hz).2.1) (hcl d hd)) (by decide)
  exact mk_rulesR (dn := .tuple (ns.map PyData.str)) (dc := .tuple cd) (.tup hT.seq (dps_strs _)) (.tup hU.seq hvs.dp) (okN_of (gn.okNb n10)) ⟨lvcd, fun ds e => by cases e; omega⟩ ht hrb fun x dx H6 g6 hx =>
    q x H6 g6 ⟨dx, T, U, vs, hx, hT.kt g6.kt, hU.kt g6.kt, hvs.kt g6.kt⟩ fun hN => ⟨dx, T, U, vs, hx, hN.kt g6.kt, hU.kt g6.kt, hvs.kt g6.kt⟩
theorem lcLs {K : PySem.W.Frag} {σ : L2.St} {H : Hp} {Q : VK} {te : TE} {g : TG} {tt : TT} {el : TE} {vs : List Nat} (good : Addr → List V → Hp → Prop) (he : ∀ R : VK, (∀ a xs H0, good a xs H0 → R (.ref a) H0) → te σ H R)
    (body : ∀ a xs H0, good a xs H0 → SqL K H0 a xs ∧ ∃ Pv : Addr → Nat → Hp → Prop, (∀ D, H0 D = none → Pv D 0 (upd H0 D (.lst []))) ∧ (∀ D i H1, H0 D = none → i ≤ xs.length → Pv D i H1 → SqL K H1 a xs) ∧
      (∀ D i y H1, H0 D = none → xs[i]? = some y → Pv D i H1 → g y (wipe σ vs) H1 fun σ2 H2 => wipe σ2 vs = wipe σ vs ∧ tt σ2 H2 fun b H3 =>
        if b = true then el σ2 H3 fun y H4 => ∃ acc, H4 D = some (.lst acc) ∧ acc.length < sizeLine ∧ Pv D (i + 1) (upd H4 D (.lst (acc ++ [y]))) else Pv D (i + 1) H3) ∧ (∀ D H', H0 D = none → Pv D xs.length H' → Q (.ref D) H')) : tLc (iList K te) g tt el vs σ H Q := by
  refine he _ fun a xs H0 hg => ?_
  obtain ⟨hq, Pv, h0, hG, hs, hd⟩ := body a xs H0 hg
  have z := lcL (σ := σ) (te := fun _ _ R => R (.ref a) H0) (H := H0) (g := g) (tt := tt) (el := el) (vs := vs) (Q := Q) (fun _ z => z) hq Pv h0 hG hs hd
  exact z
section
variable {P : Program} {w : World} {K : PySem.W.Frag} {mg : Str → Option Value} {base : Heap} {G : List Addr} {L : List (Addr × Str)}
theorem r_snocA {H : Hp} {Q : VK} {T p : Addr} {xs : List V} {y : V} (hT : Tp H T xs) (hp : H p = some (.tup [y])) (hl : xs.length ≤ 300) (q : ∀ T' H', (∀ b o, H b = some o → H' b = some o) → Tp H' T' (xs ++ [y]) → Q (.ref T') H') : rCatA K (.ref T) (.ref p) H Q := by
  refine ⟨T, p, xs, [y], rfl, rfl, hT.seq, .of hp, ?_, fun hnil => ?_, fun _ he => (by cases he), fun hnn _ p4 hp4 => ?_⟩
  · rw [sizeLine_eq]
    show xs.length + 1 ≤ _
    omega
  · refine q p H (fun _ _ e => e) ?_
    rw [hnil]
    exact .inl hp
  · exact q p4 _ (fun b o e => by rw [upd_ne (ne_of_none e hp4)]; exact e) (.inl upd_same)
def pairD (ns : List Str) (ix : List Nat) : PyData := .tuple [.tuple (ix.map fun i => .int (i : Nat)), .tuple ((nmsOf ns ix).map PyData.str)]
theorem ims_ints_eq {H : Hp} : ∀ {l : List Nat} {vs : List V}, Ims H vs (l.map fun i => PyData.int (i : Nat)) → vs = l.map fun i => V.int (i : Nat)
  | [], _, .nil => rfl
  | z :: s, _, .cons h t => by
    cases h
    rw [ims_ints_eq t]
    rfl
theorem ims_ints {H : Hp} : ∀ l : List Nat, Ims H (l.map fun i => V.int (i : Nat)) (l.map fun i => PyData.int (i : Nat))
  | [] => .nil
  | x :: l => .cons (.int _) (ims_ints l)
theorem pair_get {H : Hp} {xs : List V} {ns : List Str} {l : List (List Nat)} {i : Nat} {x : V} (h : Ims H xs (l.map (pairD ns))) (hx : xs[i]? = some x) :
    ∃ R T S ix, l[i]? = some ix ∧ x = .ref R ∧ Tp H R [.ref T, .ref S] ∧ Tp H T (ix.map fun i => V.int (i : Nat)) ∧ Tp H S ((nmsOf ns ix).map V.str) := by
  obtain ⟨d, hd, hi⟩ := h.get hx
  rw [List.getElem?_map] at hd
  cases hs : l[i]? with
  | none => rw [hs] at hd; cases hd
  | some ix =>
    rw [hs] at hd
    obtain rfl : d = pairD ns ix := (Option.some.inj hd).symm
    cases hi with
    | @tup R ws _ h1 h2 =>
    cases h2 with
    | @cons v1 _ _ _ i1 h2 =>
    cases h2 with
    | @cons v2 _ _ _ i2 h2 =>
    cases h2
    cases i1 with
    | @tup T us _ hT hu =>
    cases i2 with
    | @tup S us2 _ hS hu2 =>
    rw [ims_ints_eq hu] at hT
    rw [ims_strs_eq hu2] at hS
    exact ⟨R, T, S, ix, rfl, rfl, h1, hT, hS⟩
theorem pair_im {H : Hp} {ns : List Str} {ix : List Nat} {R T S : Addr} (h1 : Tp H R [.ref T, .ref S]) (h2 : Tp H T (ix.map fun i => V.int (i : Nat))) (h3 : Tp H S ((nmsOf ns ix).map V.str)) : Im H (.ref R) (pairD ns ix) :=
  .tup h1 (.cons (.tup h2 (ims_ints ix)) (.cons (.tup h3 (ims_strs _)) .nil))
theorem genI_len : ∀ n < 9, (genI n).all (fun ix => decide (ix.length ≤ 300)) = true := by decide +kernel
abbrev nAll : List Str := ["_law_names_here", "_law_rows", "_law_k", "_law_keys", "_law_state", "_law_row"]
theorem scAll5 : FnScope nAll ["_law_names_here"] (defScope sAll5) := C8.fnScope_by (by decide +kernel)
def spAll5 (K : PySem.W.Frag) (G : List Addr) (L : List (Addr × Str)) : Sp := fun vs H Q _ => ∃ (an : Addr) (ns : List Str), vs = [.ref an] ∧ Tp H an (ns.map V.str) ∧ ns.length ≤ 8 ∧
  ∀ l xs H', Nw H l → Go G L H H' → H' l = some (.lst xs) → StsAt H' xs (allD ns) → Q (.ref l) H'
theorem ok_all5 {f : Addr} {fd : FuncData} (F : Fun K "_law_all" "_law_all" sAll5 f fd) (zL : mg "len" = none) (zR : mg "range" = none) (zS : mg "sorted" = none) : FnOk P w K mg base CX0 1 f fd ["_law_names_here"] (spAll5 K G L) := by
  refine F.ok scAll5 (fun vs H Q E h => ?_) (fun cdv A outer s H vs Q E hr h => ?_)
  · obtain ⟨an, ns, e, _⟩ := h
    rw [e]
    rfl
  · obtain ⟨an, ns, e, hn, hlen, q⟩ := h
    subst e
    refine ⟨_, pss_cons (ps_set (i := 1) scAll5.nd rfl (Or.inl rfl) (pe_lst (pa_cons (pe_tup (pa_cons (pe_tup pa_nil) (pa_cons (pe_tup pa_nil) pa_nil))) pa_nil)))
      (pss_cons (ps_for PassesOwn.never rfl (pi_range1 rfl zR (pa_cons (pe_callB (r := cLen K) c_len rfl zL boot_len (pa_cons (pv 0) pa_nil)) pa_nil)) (pg_name (i := 2) scAll5.nd rfl (.inr rfl))
        (pss_one (ps_set (i := 1) scAll5.nd rfl (Or.inl rfl) (pe_op op_cat (pv 1) (pe_lc (own := [("_law_keys", 3), ("_law_state", 4)]) (g := gTup K 2 (gCons (gName 3) (gCons (gName 4) gNil))) (tt := tYes) rfl scAll5.nd (pi_list (pv 1))
          (blkOk_by (own := [("_law_keys", 3), ("_law_state", 4)]) (N := nAll) (sc := defScope sAll5) (by decide +kernel)) (fun _ _ _ _ _ => pg_tup rfl (pgs_cons (pg_name (i := 3) scAll5.nd rfl (.inl rfl)) (pgs_cons (pg_name (i := 4) scAll5.nd rfl (.inl rfl)) pgs_nil))) (fun _ _ _ _ _ => pts_nil)
          (fun _ _ _ _ _ => pe_tup (pa_cons (pe_op (r := rCatA K) op_catA (pv 3) (pe_tup (pa_cons (pv 2) pa_nil))) (pa_cons (pe_op (r := rCatA K) op_catA (pv 4) (pe_tup (pa_cons (pe_ix (r := rIxT K) ix_tup (pv 0) (pv 2) (fun _ _ => rfl)) pa_nil))) pa_nil))))))))
      (pss_one (ps_ret (pe_lc (own := [("_law_row", 5)]) (g := gName 5) (tt := tYes) rfl scAll5.nd (pi_list (pe_callB (cr_sortedD (u12 hr)) rfl zS (by decide +kernel) (pa_cons (pe_lc (own := [("_law_keys", 3), ("_law_state", 4)]) (g := gTup K 2 (gCons (gName 3) (gCons (gName 4) gNil))) (tt := tYes) rfl scAll5.nd (pi_list (pv 1))
          (blkOk_by (own := [("_law_keys", 3), ("_law_state", 4)]) (N := nAll) (sc := defScope sAll5) (by decide +kernel)) (fun _ _ _ _ _ => pg_tup rfl (pgs_cons (pg_name (i := 3) scAll5.nd rfl (.inl rfl)) (pgs_cons (pg_name (i := 4) scAll5.nd rfl (.inl rfl)) pgs_nil))) (fun _ _ _ _ _ => pts_nil)
          (fun _ _ _ _ _ => pe_tup (pa_cons (pe_callB (r := cLen K) c_len rfl zL boot_len (pa_cons (pv 3) pa_nil)) (pa_cons (pv 3) (pa_cons (pv 4) pa_nil))))) pa_nil)))
        (blkOk_by (own := [("_law_row", 5)]) (N := nAll) (sc := defScope sAll5) (by decide +kernel)) (fun _ _ _ _ _ => pg_name (i := 5) scAll5.nd rfl (.inl rfl)) (fun _ _ _ _ _ => pts_nil)
        (fun _ _ _ _ _ => pe_ix (r := rIxT K) ix_tup (pv 5) pe_int (fun _ _ => rfl)))))), ?_⟩
    repeat walk_at "rd"
    refine ⟨Nat.zero_le _, fun p0 hp0 => ?_⟩
    generalize hH : upd H p0 _ = H1; obtain ⟨k1, e1⟩ := new_facts hH hp0; clear hH
    repeat walk_at "rd"
    refine ⟨Nat.zero_le _, fun p1 hp1 => ?_⟩
    generalize hH : upd H1 p1 _ = H2; obtain ⟨k2, e2⟩ := new_facts hH hp1; clear hH
    repeat walk_at "rd"
    refine ⟨by show 2 ≤ sizeLine; decide, fun p2 hp2 => ?_⟩
    generalize hH : upd H2 p2 _ = H3; obtain ⟨k3, e3⟩ := new_facts hH hp2; clear hH
    refine r_nil ⟨by show 1 ≤ sizeLine; decide, fun p3 hp3 => ?_⟩
    generalize hH : upd H3 p3 _ = H4; obtain ⟨k4, e4⟩ := new_facts hH hp3; clear hH
    have g4 : Go G L H H4 := (((Go.same k1).trans (Go.same k2)).trans (Go.same k3)).trans (Go.same k4)
    have im0 : Im H4 (.ref p2) (pairD ns []) := pair_im (.inl (k4 _ _ e3)) (.inl (k4 _ _ (k3 _ _ (k2 _ _ e1)))) (.inl (k4 _ _ (k3 _ _ e2)))
    clear k1 k2 k3 k4 e1 e2 e3 hp0 hp1 hp2 hp3
    refine r_gN ?_
    refine r_seq ?_
    refine forRg (fun n H0 => n = ns.length ∧ H0 = H4) (fun R z => ?_) (fun n H0 ⟨hn0, hH0⟩ => ⟨by omega, fun i σ H' => ∃ (r : Addr) (x2 : Option V) (xs : List V), σ = [some (.ref an), some (.ref r), x2, none, none, none] ∧ Go G L H H' ∧ H' r = some (.lst xs) ∧ Ims H' xs ((genI i).map (pairD ns)), ?_, ?_, ?_⟩)
    · repeat walk_at "rd"
      refine r_lenT (hn.kt g4.kt).seq ?_
      rw [List.length_map]
      exact z _ _ ⟨rfl, rfl⟩
    · subst hH0
      exact ⟨p3, none, [.ref p2], rfl, g4, e4, .cons im0 .nil⟩
    · rintro i σ H' hi ⟨r, x2, xs, rfl, g, hr0, hxs⟩
      have hil : i < ns.length := by omega
      have hz : ns[i]? = some ns[i] := List.getElem?_eq_getElem hil
      generalize ns[i] = z at hz
      have hxl := hxs.length
      rw [List.length_map] at hxl
      have hg3 := (genI_ok i (by omega)).1
      refine r_gN ?_
      dsimp only
      repeat walk_at "rd"
      refine lcL (a := r) (xs := xs) (fun R z => ⟨_, rfl, z⟩) (.of hr0) (fun D j H2 => ∃ ys, Go G L H' H2 ∧ H2 D = some (.lst ys) ∧ Ims H2 ys (((genI i).map fun ix => pairD ns (ix ++ [i])).take j)) ?_ ?_ ?_ ?_
      · intro D hD
        exact ⟨[], Go.new hD, upd_same, .nil⟩
      · rintro D j H2 hD _ ⟨ys, g', _⟩
        exact .of (g'.lst hr0)
      · rintro D j x H2 hD hx ⟨ys, g', hDl, hys⟩
        obtain ⟨R, T, S, ix, hix, rfl, hR, hT, hS⟩ := pair_get hxs hx
        have hixl : ix.length ≤ 300 := by
          have z3 := genI_len i (by omega)
          rw [List.all_eq_true] at z3
          exact of_decide_eq_true (z3 ix (List.mem_of_getElem? hix))
        have hyl : ys.length ≤ 300 := by
          have z := hys.length
          rw [List.length_take, List.length_map] at z
          omega
        have eN := nms_snoc (ix := ix) hz
        refine r_pair (hR.kt g'.kt).seq ⟨rfl, r_yes ?_⟩
        repeat walk_at "rd"
        refine ⟨by show 1 ≤ sizeLine; decide, fun p5 hp5 => ?_⟩
        generalize hH : upd H2 p5 _ = H5; obtain ⟨k5, e5⟩ := new_facts hH hp5; clear hH
        refine r_snocA ((hT.kt g'.kt).kt (kp_kt k5)) e5 (by rw [List.length_map]; exact hixl) fun T' H6 k6 hT' => ?_
        have g26 : Go G L H2 H6 := (Go.same k5).trans (Go.same k6)
        repeat walk_at "rd"
        refine r_ixT (((hn.kt g.kt).kt g'.kt).kt g26.kt).seq (atI_nat (by rw [List.getElem?_map, hz]; rfl)) ?_
        repeat walk_at "rd"
        refine ⟨by show 1 ≤ sizeLine; decide, fun p7 hp7 => ?_⟩
        generalize hH : upd H6 p7 _ = H7; obtain ⟨k7, e7⟩ := new_facts hH hp7; clear hH
        refine r_snocA (((hS.kt g'.kt).kt g26.kt).kt (kp_kt k7)) e7 ?_ fun S' H8 k8 hS' => ?_
        · rw [List.length_map]
          unfold nmsOf
          rw [List.length_map]
          exact hixl
        repeat walk_at "rd"
        refine ⟨by show 2 ≤ sizeLine; decide, fun p9 hp9 => ?_⟩
        generalize hH : upd H8 p9 _ = H9; obtain ⟨k9, e9⟩ := new_facts hH hp9; clear hH
        have g29 : Go G L H2 H9 := ((g26.trans (Go.same k7)).trans (Go.same k8)).trans (Go.same k9)
        refine ⟨ys, g29.lst hDl, by rw [sizeLine_eq]; omega, ys ++ [.ref p9], (g'.trans g29).updNew hD (g29.lst hDl), upd_same, ?_⟩
        have e : ((genI i).map fun ix => pairD ns (ix ++ [i])).take (j + 1) = ((genI i).map fun ix => pairD ns (ix ++ [i])).take j ++ [pairD ns (ix ++ [i])] := by
          rw [List.take_succ, List.getElem?_map, hix]
          rfl
        rw [e]
        refine Ims.kt (kt_upd (g29.lst hDl)) ((hys.kt g29.kt).app (.cons (pair_im (.inl e9) ?_ ?_) .nil))
        · rw [List.map_append]
          exact hT'.kt (kp_kt (kp_t k7 (kp_t k8 k9)))
        · rw [eN, List.map_append]
          exact hS'.kt (kp_kt k9)
      · rintro D H3 hD ⟨ys, g', hDl, hys⟩
        have hyl := hys.length
        have e3 : ((genI i).map fun ix => pairD ns (ix ++ [i])).take xs.length = (genI i).map fun ix => pairD ns (ix ++ [i]) := by
          rw [hxl]
          exact List.take_of_length_le (by rw [List.length_map]; exact Nat.le_refl _)
        rw [e3] at hys hyl
        rw [List.length_map] at hyl
        refine r_cat (g'.lst hr0) hDl (by omega) fun p H4 k4 _ e4 => ?_
        refine r_gN ⟨p, _, xs ++ ys, rfl, (g.trans g').trans (Go.same k4), e4, ?_⟩
        have e5 : (genI (i + 1)).map (pairD ns) = (genI i).map (pairD ns) ++ (genI i).map fun ix => pairD ns (ix ++ [i]) := by
          show (genI i ++ (genI i).map (· ++ [i])).map (pairD ns) = _
          rw [List.map_append, List.map_map]
          rfl
        rw [e5]
        exact ((hxs.kt g'.kt).kt (kp_kt k4)).app (hys.kt (kp_kt k4))
    · rintro σ H3 ⟨r, x2, xs, rfl, g3, hr0, hxs⟩
      subst hn0
      have hxl := hxs.length
      rw [List.length_map] at hxl
      have hg3 := (genI_ok ns.length (by omega)).1
      repeat walk_at "rd"
      refine lcLs (fun l xs2 H5 => Go G L H H5 ∧ H5 l = some (.lst xs2) ∧ Ims H5 xs2 ((ordI ns.length).map (rowD fun i => ns.getD i ""))) (fun R z => ?_) ?_
      · repeat walk_at "rd"
        refine lcL (a := r) (xs := xs) (fun R z => ⟨_, rfl, z⟩) (.of hr0) (fun D j H2 => ∃ vs, Go G L H3 H2 ∧ H2 D = some (.lst vs) ∧ Ims H2 vs (((genI ns.length).take j).map (rowD fun i => ns.getD i ""))) ?_ ?_ ?_ ?_
        · intro D hD
          exact ⟨[], Go.new hD, upd_same, .nil⟩
        · rintro D j H2 hD _ ⟨vs, g', _⟩
          exact .of (g'.lst hr0)
        · rintro D j x H2 hD hx ⟨vs, g', hDl, hvs⟩
          obtain ⟨R, T, S, ix, hix, rfl, hR, hT, hS⟩ := pair_get hxs hx
          have hvl : vs.length ≤ 300 := by
            have z := hvs.length
            rw [List.length_map, List.length_take] at z
            omega
          have hT2 := hT.kt g'.kt
          refine r_pair (hR.kt g'.kt).seq ⟨rfl, r_yes ?_⟩
          repeat walk_at "rd"
          refine r_lenT hT2.seq ?_
          repeat walk_at "rd"
          refine ⟨by show 3 ≤ sizeLine; decide, fun p6 hp6 => ?_⟩
          generalize hH : upd H2 p6 _ = H6; obtain ⟨k6, e6⟩ := new_facts hH hp6; clear hH
          have g26 : Go G L H2 H6 := Go.same k6
          refine ⟨vs, g26.lst hDl, by rw [sizeLine_eq]; omega, vs ++ [.ref p6], (g'.trans g26).updNew hD (g26.lst hDl), upd_same, ?_⟩
          have e : ((genI ns.length).take (j + 1)).map (rowD fun i => ns.getD i "") = ((genI ns.length).take j).map (rowD fun i => ns.getD i "") ++ [rowD (fun i => ns.getD i "") ix] := by
            rw [List.take_succ, hix, List.map_append]
            rfl
          rw [e]
          refine Ims.kt (kt_upd (g26.lst hDl)) ((hvs.kt g26.kt).app (.cons ?_ .nil))
          rw [rowD_nms]
          refine .tup (.inl e6) (.cons ?_ (.cons (.tup (hT2.kt g26.kt) (ims_ints ix)) (.cons (.tup ((hS.kt g'.kt).kt g26.kt) (ims_strs _)) .nil)))
          rw [List.length_map]
          have e0 : (nmsOf ns ix).length = ix.length := by unfold nmsOf; rw [List.length_map]
          rw [e0]
          exact .int _
        · rintro D H4 hD ⟨vs, g', hDl, hvs⟩
          rw [hxl, List.take_length] at hvs
          have hvl := hvs.length
          rw [List.length_map] at hvl
          repeat walk_at "rd"
          refine ⟨D, vs.zip ((genI ns.length).map (rowD fun i => ns.getD i "")), rfl, ?_, fun p hp => (ims_zip hvs p hp).dp, ?_, ?_, fun p hp => ?_, fun l hl => ?_⟩
          · rw [List.map_fst_zip (by rw [List.length_map]; omega)]
            exact .of hDl
          · rw [List.map_snd_zip (by rw [List.length_map]; omega)]
            exact PySem.W.AllAlike.of fun a b => rowD_alike _ a b
          · rw [List.map_snd_zip (by rw [List.length_map]; omega)]
            exact PySem.W.Sortable.tuples fun b => ⟨_, _, rfl⟩
          · obtain ⟨ix, _, e⟩ := List.mem_map.mp (List.of_mem_zip hp).2
            rw [← e]
            exact depth_row _ _
          · generalize hqs : (vs.zip ((genI ns.length).map (rowD fun i => ns.getD i ""))).mergeSort (PySem.W.dataLe false Prod.snd) = qs
            have es := qs_snd (nm := fun i => ns.getD i "") hlen hvl
            rw [hqs] at es
            have him : ∀ q ∈ qs, Im H4 q.1 q.2 := fun q hq => by
              rw [← hqs] at hq
              exact ims_zip hvs q (List.mem_mergeSort.mp hq)
            have hi4 := ims_of him
            rw [es] at hi4
            generalize hH : upd H4 l _ = H5; obtain ⟨k5, e5⟩ := new_facts hH hl; clear hH
            exact z l _ H5 ⟨(g3.trans g').trans (Go.same k5), e5, hi4.kt (kp_kt k5)⟩
      · rintro l xs2 H5 ⟨g5, e5, hi5⟩
        have hql : xs2.length = (ordI ns.length).length := by
          have z := hi5.length
          rw [List.length_map] at z
          exact z
        have hol := (ord_len ns.length (by omega)).1
        have eal : (allD ns).length = (ordI ns.length).length := by
          unfold allD
          rw [List.length_map]
        refine ⟨.of e5, fun D j H6 => ∃ ys, Go G L H5 H6 ∧ H6 D = some (.lst ys) ∧ StsAt H6 ys ((allD ns).take j), ?_, ?_, ?_, ?_⟩
        · intro D hD
          exact ⟨[], Go.new hD, upd_same, .nil⟩
        · rintro D j H6 hD _ ⟨ys, g6, _⟩
          exact .of (g6.lst e5)
        · rintro D j x H6 hD hx ⟨ys, g6, hDl, hys⟩
          obtain ⟨d, hd, hix0⟩ := hi5.get hx
          rw [List.getElem?_map] at hd
          cases hix : (ordI ns.length)[j]? with
          | none => rw [hix] at hd; cases hd
          | some ix =>
            rw [hix] at hd
            obtain rfl : d = rowD (fun i => ns.getD i "") ix := (Option.some.inj hd).symm
            rw [rowD_nms] at hix0
            have haj : (allD ns)[j]? = some (nmsOf ns ix) := by
              unfold allD
              rw [List.getElem?_map, hix]
              rfl
            have hyl : ys.length ≤ 2000 := by
              have z := hys.len
              have z3 := allD_len (by omega : ns.length ≤ 10)
              rw [List.length_take] at z
              omega
            cases hix0 with
            | @tup T vs2 _ hT hv2 =>
            cases hv2 with
            | @cons v1 _ _ _ i1 hv2 =>
            cases hv2 with
            | @cons v2 _ _ _ i2 hv2 =>
            cases hv2 with
            | @cons v3 _ _ _ i3 hv2 =>
            cases hv2
            cases i3 with
            | @tup S3 ws _ hS hws =>
            have ews := ims_strs_eq hws
            subst ews
            refine r_gN ⟨rfl, r_yes ?_⟩
            repeat walk_at "rd"
            refine r_ixT (hT.kt g6.kt).seq (atI_nat (j := 2) rfl) ?_
            refine ⟨ys, hDl, by rw [sizeLine_eq]; omega, ys ++ [.ref S3], g6.updNew hD hDl, upd_same, ?_⟩
            have e : (allD ns).take (j + 1) = (allD ns).take j ++ [nmsOf ns ix] := by
              rw [List.take_succ, haj]
              rfl
            rw [e]
            exact (hys.snoc (hS.kt g6.kt)).kt (kt_upd hDl)
        · rintro D H6 hD ⟨ys, g6, hDl, hys⟩
          rw [hql, ← eal, List.take_length] at hys
          exact q D ys H6 (Nw.backG g5 (.of hD)) (g5.trans g6) hDl hys
end
section
variable {K : PySem.W.Frag} {G : List Addr} {L : List (Addr × Str)} {H H' : Hp} {b : Bool} {a r : Addr} {xs : List V}
end
section
variable {P : Program} {w : World} {K : PySem.W.Frag} {mg : Str → Option Value} {base : Heap} {G : List Addr} {L : List (Addr × Str)}
abbrev nLg5 : List Str := ["_law_names_here", "_law_clauses", "_law_found", "_law_state", "_law_clause_here"]
theorem scLegal5 : FnScope nLg5 ["_law_names_here", "_law_clauses"] (defScope sLegal5) := C8.fnScope_by (by decide +kernel)
def spLegal5 (K : PySem.W.Frag) (G : List Addr) (L : List (Addr × Str)) : Sp := fun vs H Q _ => ∃ (an ac : Addr) (b : Bool) (ns : List Str) (cd : List PyData) (xs : List V), vs = [.ref an, .ref ac] ∧ Tp H an (ns.map V.str) ∧ Sq2 H b ac xs ∧ Ims H xs cd ∧ ns.length ≤ 8 ∧ (∀ z ∈ ns, PyData.strOk z = true) ∧ (∀ d ∈ cd, ClD ns d) ∧ cd.length ≤ 200 ∧
  ∀ l ys H', Nw H l → Go G L H H' → H' l = some (.lst ys) → StsAt H' ys (legalD ns cd) → Q (.ref l) H'
theorem ok_legal5 {f : Addr} {fd : FuncData} (F : Fun K "_law_legal" "_law_legal" sLegal5 f fd) (AL : Fd CX0 P w K mg base "_law_all" 1 (spAll5 K G L)) (KE : Fd CX0 P w K mg base "_law_keeps" 1 (spKeeps K)) : FnOk P w K mg base CX0 2 f fd ["_law_names_here", "_law_clauses"] (spLegal5 K G L) := by
  refine F.ok scLegal5 (fun vs H Q E h => ?_) (fun cdv A outer s H vs Q E hr h => ?_)
  · obtain ⟨an, ac, b, ns, cd, xs, e, _⟩ := h
    rw [e]
    rfl
  · obtain ⟨an, ac, b, ns, cd, xs0, e, hn, hac, hxs0, hlen, hok, hcl, hcd, q⟩ := h
    subst e
    refine ⟨_, pss_cons (ps_set (i := 2) scLegal5.nd rfl (Or.inl rfl) (pe_lst pa_nil))
      (pss_cons (ps_for PassesOwn.never rfl (pi_list (pe_fd (E := E0) AL hr pass0 (pa_cons (pv 0) pa_nil))) (pg_name (i := 3) scLegal5.nd rfl (.inr rfl))
        (pss_one (ps_if (pt_cmpR (r := rEqD K) (op_eqD (u64 hr)) (pe_lc (own := [("_law_clause_here", 4)]) (g := gName 4) (wi := iOr (iTup K (tVar 1)) (iList K (tVar 1))) rfl scLegal5.nd (pi_or (pi_tup (pv 1)) (pi_list (pv 1)))
            (blkOk_by (own := [("_law_clause_here", 4)]) (N := nLg5) (sc := defScope sLegal5) (by decide +kernel)) (fun _ _ _ _ _ => pg_name (i := 4) scLegal5.nd rfl (.inl rfl))
            (fun _ _ _ _ _ => pts_one (pt_not (pt_val (pe_fd (E := E0) KE hr pass0 (pa_cons (pv 4) (pa_cons (pv 3) pa_nil)))))) (fun _ _ _ _ _ => pv 4)) (pe_lst pa_nil) rfl)
          (pss_one (ps_expr (pe_bm PySem.F.plainAttrs_list PySem.F.slot_list_append PySem.F.type_list_append mt_append (pv 2) (pa_cons (pv 3) pa_nil)))) pss_nil)))
      (pss_one (ps_ret (pv 2)))), ?_⟩
    repeat walk_at "rd"
    refine ⟨Nat.zero_le _, fun D hD => ?_⟩
    generalize hH : upd H D _ = H1; obtain ⟨k1, eD⟩ := new_facts hH hD; clear hH
    have g1 : Go G L H H1 := Go.same k1
    refine r_gN ?_
    refine r_seq ?_
    refine forLg (fun l H0 => ∃ xs, Nw H1 l ∧ Go G L H1 H0 ∧ H0 l = some (.lst xs) ∧ StsAt H0 xs (allD ns)) (fun R z => ?_) (fun l H0 ⟨xs, nl, g0, hl0, hxs⟩ => ⟨xs, .of hl0, fun i σ H' => ∃ (x3 : Option V) (ys : List V), σ = [some (.ref an), some (.ref ac), some (.ref D), x3, none] ∧ Go G L H H' ∧ H' l = some (.lst xs) ∧ StsAt H' xs (allD ns) ∧ H' D = some (.lst ys) ∧ StsAt H' ys (((allD ns).take i).filter fun s => decide (brokenFrom (s.map PyData.str) 0 cd = [])), ?_, ?_, ?_, ?_⟩)
    · repeat walk_at "rd"
      refine ⟨an, ns, rfl, hn.kt g1.kt, hlen, fun l xs H2 nl g2 hl hxs => z l H2 ⟨xs, nl, g2, hl, hxs⟩⟩
    · exact ⟨none, [], rfl, g1.trans g0, hl0, hxs, g0.lst eD, .nil⟩
    · rintro i σ H' _ ⟨x3, ys, rfl, g, hl, _⟩
      exact .of hl
    · rintro i x σ H' hx ⟨x3, ys, rfl, g, hl, hxs', eD', hys⟩
      obtain ⟨S, s, hs, rfl, hS⟩ := sts_get hxs' hx
      have hsub := allD_sub (by omega : ns.length ≤ 10) (List.mem_of_getElem? hs)
      have hsok : ∀ z ∈ s, PyData.strOk z = true := fun z hz => hok z (hsub.subset hz)
      refine r_gN ?_
      repeat walk_at "rd"
      refine lcB (a := ac) (xs := xs0) b (fun R z => ⟨_, rfl, z⟩) (hac.go g) (fun D3 k H7 => ∃ acc, Go G L H' H7 ∧ H7 D3 = some (.lst acc) ∧ Ims H7 acc ((cd.take k).filter (brk (s.map PyData.str)))) ?_ ?_ ?_ ?_
      · intro D3 hD3
        exact ⟨[], Go.new hD3, upd_same, .nil⟩
      · rintro D3 k H7 hD3 _ ⟨acc, g7, _⟩
        exact (hac.go g).go g7
      · rintro D3 k y H7 hD3 hy ⟨acc, g7, hD3l, hacc⟩
        obtain ⟨dc, hdc, hyc⟩ := hxs0.get hy
        have hmem := List.mem_of_getElem? hdc
        obtain ⟨w', a', b', rfl, hw', ha', hb'⟩ := hcl dc hmem
        have hyc7 := (hyc.kt g.kt).kt g7.kt
        have hal : acc.length ≤ 200 := by
          have z := hacc.length
          have z2 := List.length_filter_le (brk (s.map PyData.str)) (cd.take k)
          rw [List.length_take] at z2
          omega
        refine r_gN ⟨rfl, ?_⟩
        repeat walk_at "rd"
        refine ⟨.ref S, y, s.map PyData.str, w', .str a', .str b', rfl, .tup (hS.kt g7.kt).seq (dps_strs _), hyc7.dp, lv_strs hsok, lv_str (hok a' ha'), lv_str (hok b' hb'), ?_⟩
        repeat walk_at "rd"
        refine r_if (fun c => ?_) (fun c => ?_)
        · repeat walk_at "rd"
          refine ⟨acc, hD3l, by rw [sizeLine_eq]; omega, acc ++ [y], g7.updNew hD3 hD3l, upd_same, ?_⟩
          rw [filter_take hdc, if_pos (show brk _ (.tuple [.str w', .str a', .str b']) = true from c)]
          exact Ims.kt (kt_upd hD3l) (hacc.app (.cons hyc7 .nil))
        · refine ⟨acc, g7, hD3l, ?_⟩
          rw [filter_take hdc, if_neg (by rw [show brk (s.map PyData.str) (.tuple [.str w', .str a', .str b']) = false from c]; decide)]
          exact hacc
      · rintro D3 H7 hD3 ⟨acc, g7, hD3l, hacc⟩
        have hxl0 := hxs0.length
        rw [hxl0, List.take_length] at hacc
        repeat walk_at "rd"
        refine ⟨Nat.zero_le _, fun p8 hp8 => ?_⟩
        generalize hH : upd H7 p8 _ = H8; obtain ⟨k8, e8⟩ := new_facts hH hp8; clear hH
        have g68 : Go G L H' H8 := g7.trans (Go.same k8)
        refine r_eqD (.lst (.of (k8 _ _ hD3l)) (hacc.kt (kp_kt k8)).dp) (.lst (.of e8) .nil) ?_ (by decide) ?_
        · refine lv_lst fun d hd => lv_up (cl_lv hok (hcl d (List.mem_filter.mp hd).1)) (by decide)
        · rw [eqv_nilL]
          have eb : decide (cd.filter (brk (s.map PyData.str)) = []) = decide (brokenFrom (s.map PyData.str) 0 cd = []) := decide_eq_decide.mpr (broken_nil cd 0).symm
          rw [eb]
          have hDl := g68.lst eD'
          have hyl : ys.length ≤ 2000 := by
            have z := hys.len
            have z2 := List.length_filter_le (fun s => decide (brokenFrom (s.map PyData.str) 0 cd = [])) ((allD ns).take i)
            have z3 := allD_len (by omega : ns.length ≤ 10)
            rw [List.length_take] at z2
            omega
          have nlD : l ≠ D := nl.lst eD
          repeat walk_at "rd"
          refine r_if (fun c => ?_) (fun c => ?_)
          · repeat walk_at "rd"
            refine ⟨.inl ⟨rfl, _, .of hDl⟩, ?_⟩
            repeat walk_at "rd"
            refine r_append hDl (by omega) ?_
            refine ⟨_, ys ++ [.ref S], rfl, (g.trans g68).updNew hD hDl, by rw [upd_ne nlD]; exact g68.lst hl, (hxs'.kt g68.kt).kt (kt_upd hDl), upd_same, ?_⟩
            rw [filter_take hs, if_pos c]
            exact ((hys.kt g68.kt).snoc (hS.kt g68.kt)).kt (kt_upd hDl)
          · refine ⟨_, ys, rfl, g.trans g68, g68.lst hl, hxs'.kt g68.kt, hDl, ?_⟩
            rw [filter_take hs, c, if_neg Bool.false_ne_true]
            exact hys.kt g68.kt
    · rintro σ H' ⟨x3, ys, rfl, g, hl, hxs', eD', hys⟩
      rw [hxs.len, List.take_length] at hys
      repeat walk_at "rd"
      exact q D ys H' (.of hD) g eD' hys
end
section
variable {P : Program} {w : World} {K : PySem.W.Frag} {mg : Str → Option Value} {base : Heap} {G : List Addr} {L : List (Addr × Str)}
theorem ord_pos : ∀ n < 9, 0 < (ordI n).length := by decide +kernel
theorem allD_pos {ns : List Str} (h : ns.length ≤ 8) : 0 < (allD ns).length := by
  unfold allD
  rw [List.length_map]
  exact ord_pos ns.length (by omega)
abbrev nRl5 : List Str := ["_law_d", "_law_most", "_law_clauses", "_law_names_here", "_law_some", "_law_wanted", "_law_k", "_law_clause_here"]
theorem scRules5 : FnScope nRl5 ["_law_d", "_law_most", "_law_clauses"] (defScope sRules5) := C8.fnScope_by (by decide +kernel)
def spRules5 (K : PySem.W.Frag) (G : List Addr) (L : List (Addr × Str)) : Sp := fun vs H Q _ => ∃ (ρ : Rid) (m n : Nat), vs = [.ref ρ.r, .int (m : Nat), .int (n : Nat)] ∧ Row K H ρ ∧ TBS G L H ∧ 0 < m ∧ m ≤ 8 ∧ n ≤ 40 ∧
  ∀ (ns : List Str) (cd : List PyData) (p x l : Addr) (lx : List V) (H' : Hp), 0 < ns.length → ns.length ≤ m → NmsP ns → (∀ d ∈ cd, ClD ns d) → cd.length ≤ n → legalD ns cd ≠ [] → Tp H' p [.ref x, .ref l] → RulesAt K H' x ns cd → Nw H l → H' l = some (.lst lx) → StsAt H' lx (legalD ns cd) →
    GoR G L ρ.r H H' → Row K H' ρ → Q (.ref p) H'
theorem ok_rules5 {f : Addr} {fd : FuncData} (F : Fun K "_law_rules" "_law_rules" sRules5 f fd) (zR : mg "range" = none) (zT : mg "tuple" = none) (zI : mg "int" = none) (NX : Fd CX0 P w K mg base "_law_next" 1 (spTaken K G L)) (NM : Fd CX0 P w K mg base "_law_names" 2 (spNames K G L))
    (PK : Fd CX0 P w K mg base "_law_pick" 2 (spPick K G L)) (AL : Fd CX0 P w K mg base "_law_all" 1 (spAll5 K G L)) (CL : Fd CX0 P w K mg base "_law_clause" 3 (spClause K G L)) (KE : Fd CX0 P w K mg base "_law_keeps" 1 (spKeeps K)) (M : Mkr P w K mg base G L) (LG : Fd CX0 P w K mg base "_law_legal" 2 (spLegal5 K G L)) :
    FnOk P w K mg base CX0 6 f fd ["_law_d", "_law_most", "_law_clauses"] (spRules5 K G L) := by
  refine F.ok scRules5 (fun vs H Q E h => ?_) (fun cdv A outer s H vs Q E hr h => ?_)
  · obtain ⟨r, m, n, e, _⟩ := h
    rw [e]
    rfl
  · obtain ⟨ρ, m, n, e, hR, ht, m0, m8, n40, q⟩ := h
    subst e
    refine ⟨_, pss_cons (ps_par (i := 3) (j := 4) rfl scRules5.nd rfl rfl (by decide) rfl rfl (pa_cons (pe_fd (E := E0) NM hr pass0 (pa_cons (pv 0) (pa_cons (pv 1) pa_nil))) (pa_cons (pe_lst pa_nil) pa_nil)) rfl)
      (pss_cons (ps_set (i := 5) scRules5.nd rfl (Or.inl rfl) (pe_fd (E := E0) PK hr pass0 (pa_cons (pv 0) (pa_cons (pe_fd (E := E0) AL hr pass0 (pa_cons (pv 3) pa_nil)) pa_nil))))
      (pss_cons (ps_for PassesOwn.never rfl (pi_range1 rfl zR (pa_cons (pe_fd (E := E0) NX hr pass0 (pa_cons (pv 0) (pa_cons (pe_op op_add (pv 2) pe_int) pa_nil))) pa_nil)) (pg_name (i := 6) scRules5.nd rfl (.inl rfl))
        (pss_cons (ps_set (i := 7) scRules5.nd rfl (Or.inl rfl) (pe_fd (E := E0) CL hr pass0 (pa_cons (pv 0) (pa_cons (pv 3) pa_nil))))
        (pss_one (ps_set (i := 4) scRules5.nd rfl (Or.inl rfl) (pe_op op_cat (pv 4) (pe_op op_rep (pe_lst (pa_cons (pv 7) pa_nil)) (pe_callTy c_int rfl zI boot_int (pa_cons (pe_fd (E := E0) KE hr pass0 (pa_cons (pv 7) (pa_cons (pv 5) pa_nil))) pa_nil))))))))
      (pss_one (ps_ret (pe_tup (pa_cons (pe_rules (E := E0) M hr passN (pa_cons (pv 3) (pa_cons (pe_callTy c_tup rfl zT (by decide +kernel) (pa_cons (pv 4) pa_nil)) pa_nil))) (pa_cons (pe_fd (E := E0) LG hr pass0 (pa_cons (pv 3) (pa_cons (pv 4) pa_nil))) pa_nil))))))), ?_⟩
    refine r_seq (r_par ?_)
    repeat walk_at "rd"
    refine ⟨ρ, m, rfl, hR, m0, by omega, fun ns T H1 n0 nm hns hT g1 hR1 => ?_⟩
    have hn8 : ns.length ≤ 8 := by omega
    have ht1 := g1.2 ht
    repeat walk_at "rd"
    refine ⟨Nat.zero_le _, fun D hD => ?_⟩
    generalize hH : upd H1 D _ = H2; obtain ⟨k2, eD⟩ := new_facts hH hD; clear hH
    have g2 : Go G L H1 H2 := Go.same k2
    refine ⟨.ref T, .ref D, rfl, ?_⟩
    refine r_seq ?_
    repeat walk_at "rd"
    refine ⟨T, ns, rfl, hT.tp.kt g2.kt, hn8, fun l xs H3 nl g3 hl3 hxs3 => ?_⟩
    have hR2 := hR1.go g2
    have nlr : l ≠ ρ.r := by
      obtain ⟨zs, z⟩ := hR2.lst
      exact nl.lst z
    have nDr : D ≠ ρ.r := by
      obtain ⟨zs, z⟩ := hR1.lst
      exact (ne_of_none z hD).symm
    have g13 : Go G L H1 H3 := g2.trans g3
    have hR3 := hR1.go g13
    have hxl := hxs3.len
    have hap := allD_pos hn8
    have hal := allD_len (by omega : ns.length ≤ 10)
    repeat walk_at "rd"
    refine ⟨ρ, l, xs, rfl, hR3, by omega, by omega, fun H' h => ?_, fun i0 v0 H4 e0 g4 hR4 => ?_⟩
    · rcases h with rfl | h
      · exact .inl (.of hl3)
      · exact .inl (.of (h.lst nlr hl3))
    obtain ⟨S, s0, hs0, rfl, hS3⟩ := sts_get hxs3 e0
    have hS4 := hS3.kt (hR3.kt g4)
    have hs0m := List.mem_of_getElem? hs0
    have hs0sub := allD_sub (by omega : ns.length ≤ 10) hs0m
    have hnok : ∀ z ∈ ns, PyData.strOk z = true := fun z hz => (hns.all hz).2.1
    have g14 : GoR G L ρ.r H1 H4 := g13.toR.trans g4
    have hT4 := hT.tp.kt (hR1.kt g14)
    have hNT4 := hT.kt (hR1.kt g14)
    have eD4 : H4 D = some (.lst []) := g4.lst nDr (g3.lst eD)
    have gH4 := g1.trans g14
    clear hl3 hxs3 hS3 hR3 hR2 g13 eD g2 g3 k2 nl
    repeat walk_at "rd"
    refine forRg (fun nn H0 => nn ≤ n ∧ GoR G L ρ.r H4 H0 ∧ Row K H0 ρ) (fun R z => ?_) (fun nn H0 ⟨hn0, g0, hR0⟩ => ⟨by omega, fun i σ H' => ∃ (D' : Addr) (x6 x7 : Option V) (ys : List V) (cd : List PyData), σ = [some (.ref ρ.r), some (.int (m : Nat)), some (.int (n : Nat)), some (.ref T), some (.ref D'), some (.ref S), x6, x7] ∧ GoR G L ρ.r H4 H' ∧ Row K H' ρ ∧ H' D' = some (.lst ys) ∧ Ims H' ys cd ∧ (∀ d ∈ cd, ClD ns d) ∧ (∀ d ∈ cd, brk (s0.map PyData.str) d = false) ∧ cd.length ≤ i ∧ D' ≠ ρ.r, ?_, ?_, ?_⟩)
    · repeat walk_at "rd"
      refine r_taken hR4 (by omega) (by omega) fun v H5 hv g5 hR5 => ?_
      exact z v H5 ⟨by omega, g5, hR5⟩
    · exact ⟨D, none, none, [], [], rfl, g0, hR0, g0.lst nDr eD4, .nil, fun d hd => (by cases hd), fun d hd => (by cases hd), Nat.le_refl _, nDr⟩
    · rintro i σ H' hi ⟨D', x6, x7, ys, cd, rfl, g, hR', eD', hys, hcl, hbr, hcl2, nD'⟩
      refine r_gN ?_
      refine r_seq ?_
      repeat walk_at "rd"
      refine ⟨ρ, T, ns, rfl, hR', hT4.kt (hR4.kt g), List.length_pos_iff.mp n0, by omega, fun v d H5 hd him g5 hR5 => ?_⟩
      obtain ⟨w', a', b', rfl, hw', ha', hb'⟩ := hd
      refine r_gN ?_
      repeat walk_at "rd"
      refine ⟨by show 1 ≤ sizeLine; decide, fun p6 hp6 => ?_⟩
      generalize hH : upd H5 p6 _ = H6; obtain ⟨k6, e6⟩ := new_facts hH hp6; clear hH
      have g6 : Go G L H5 H6 := Go.same k6
      have hR6 := hR5.go g6
      have g46 : GoR G L ρ.r H4 H6 := (g.trans g5).trans g6.toR
      have hS6 := hS4.kt (hR4.kt g46)
      have him6 := him.kt (kp_kt k6)
      repeat walk_at "rd"
      refine ⟨.ref S, v, s0.map PyData.str, w', .str a', .str b', rfl, .tup hS6.seq (dps_strs _), him6.dp, lv_strs fun z hz => hnok z (hs0sub.subset hz), lv_str (hnok a' ha'), lv_str (hnok b' hb'), ?_⟩
      have eD6 : H6 D' = some (.lst ys) := k6 _ _ (g5.lst nD' eD')
      have hys6 := (hys.kt (hR'.kt g5)).kt (kp_kt k6)
      have hyl := hys6.length
      cases hb : holdsD (s0.map PyData.str) w' (.str a') (.str b') with
      | true =>
        repeat walk_at "rd"
        refine ⟨p6, 1, [v], rfl, rfl, e6, by decide, by decide, by show 1 ≤ sizeLine; decide, fun p7 hp7 => ?_⟩
        generalize hH : upd H6 p7 _ = H7; obtain ⟨k7, e7⟩ := new_facts hH hp7; clear hH
        refine r_cat (k7 _ _ eD6) e7 (by show ys.length + 1 ≤ 5000; omega) fun p8 H8 k8 n8 e8 => ?_
        have g68 : Go G L H6 H8 := (Go.same k7).trans (Go.same k8)
        refine r_gN ⟨p8, _, _, ys ++ [v], cd ++ [.tuple [.str w', .str a', .str b']], rfl, g46.trans g68.toR, hR6.go g68, e8, ?_, ?_, ?_, ?_, ?_⟩
        · exact (hys6.kt g68.kt).app (.cons (him6.kt g68.kt) .nil)
        · intro d hd
          rcases List.mem_append.mp hd with z | z
          · exact hcl d z
          · rw [List.mem_singleton.mp z]
            exact ⟨w', a', b', rfl, hw', ha', hb'⟩
        · intro d hd
          rcases List.mem_append.mp hd with z | z
          · exact hbr d z
          · rw [List.mem_singleton.mp z]
            show (!holdsD (s0.map PyData.str) w' (.str a') (.str b')) = false
            rw [hb]
            rfl
        · rw [List.length_append]
          show cd.length + 1 ≤ i + 1
          omega
        · obtain ⟨zs, z⟩ := (hR6.go (Go.same (G := G) (L := L) k7)).lst
          exact (ne_of_none z n8).symm
      | false =>
        repeat walk_at "rd"
        refine ⟨p6, 0, [v], rfl, rfl, e6, by decide, by decide, by show 0 ≤ sizeLine; decide, fun p7 hp7 => ?_⟩
        generalize hH : upd H6 p7 _ = H7; obtain ⟨k7, e7⟩ := new_facts hH hp7; clear hH
        refine r_cat (k7 _ _ eD6) e7 (by show ys.length + 0 ≤ 5000; omega) fun p8 H8 k8 n8 e8 => ?_
        have g68 : Go G L H6 H8 := (Go.same k7).trans (Go.same k8)
        refine r_gN ⟨p8, _, _, ys, cd, rfl, g46.trans g68.toR, hR6.go g68, ?_, hys6.kt g68.kt, hcl, hbr, by omega, ?_⟩
        · rw [e8]
          show some (HO.lst (ys ++ [])) = _
          rw [List.append_nil]
        · obtain ⟨zs, z⟩ := (hR6.go (Go.same (G := G) (L := L) k7)).lst
          exact (ne_of_none z n8).symm
    · rintro σ H' ⟨D', x6, x7, ys, cd, rfl, g, hR', eD', hys, hcl, hbr, hcl2, nD'⟩
      repeat walk_at "rd"
      refine r_tupL2 eD' fun U H6 k6 hU => ?_
      have g6 : Go G L H' H6 := Go.same k6
      have g46 := g.trans g6.toR
      have gH6 := gH4.trans g46
      have okR := hns.okR n0 (by omega) hcl (by omega)
      have hrb : rulesBad (.tuple (ns.map PyData.str)) (.tuple cd) = none := by
        have z := okR.rb fun d hd => (hcl d hd).ok
        rw [if_pos (by omega : cd.length ≤ 40)] at z
        exact z
      have lvcd : lv 8 (.tuple cd) = true := lv_up (n := 7) (lv_tup fun d hd => cl_lv hnok (hcl d hd)) (by decide)
      have hT6 := hT4.kt (hR4.kt g46)
      have hys6 := hys.kt (kp_kt k6)
      repeat walk_at "rd"
      refine mk_rulesR (dn := .tuple (ns.map PyData.str)) (dc := .tuple cd) (.tup hT6.seq (dps_strs _)) (.tup hU.seq hys6.dp) (okN_of (hns.okNb (by omega))) ⟨lvcd, fun ds e => by cases e; omega⟩ (gH6.2 ht) hrb fun x dx H7 g7 hx => ?_
      have RA7 : RulesAt K H7 x ns cd := ⟨dx, T, U, ys, hx, (hNT4.kt (hR4.kt g46)).kt g7.kt, hU.tp.kt g7.kt, hys6.kt g7.kt⟩
      repeat walk_at "rd"
      refine ⟨T, D', true, ns, cd, ys, rfl, hT6.kt g7.kt, g7.lst (k6 _ _ eD'), hys6.kt g7.kt, hn8, hnok, hcl, by omega, fun l2 lx H8 nl2 g8 hl8 hlx8 => ?_⟩
      repeat walk_at "rd"
      refine ⟨by show 2 ≤ sizeLine; decide, fun p9 hp9 => ?_⟩
      generalize hH : upd H8 p9 _ = H9; obtain ⟨k9, e9⟩ := new_facts hH hp9; clear hH
      have g79 : Go G L H7 H9 := g8.trans (Go.same k9)
      have hR7 := (hR'.go g6).go g7
      have nl2r : l2 ≠ ρ.r := by
        obtain ⟨zs, z⟩ := hR7.lst
        exact nl2.lst z
      have gH7 := gH6.trans g7.toR
      refine q ns cd p9 x l2 lx H9 n0 nm hns hcl (by omega) (fun e => ?_) (.inl e9) (RA7.kt g79.kt) (Nw.back gH7 nl2 nl2r) (k9 _ _ hl8) (hlx8.kt (kp_kt k9)) (gH7.trans g79.toR) (hR7.go g79)
      have z : s0 ∈ legalD ns cd := legal_iff.mpr ⟨hs0m, hbr⟩
      rw [e] at z
      cases z
end
section
variable {P : Program} {w : World} {K : PySem.W.Frag} {mg : Str → Option Value} {base : Heap} {G : List Addr} {L : List (Addr × Str)}
theorem r_isB {H : Hp} {Q : VK} {v : V} {n m : String} {b : Bool} (h : Kd K H v n) (e : (n == m || (n == "bool" && m == "int")) = b) (hm : m ∈ ["bool", "int", "str", "tuple", "list"]) (q : Q (.bl b) H) : rIsi K [v, .ty m] H Q := r_isi h hm (by rw [e]; exact q)
end
structure Rz5 (K : PySem.W.Frag) (mg : Str → Option Value) : Prop where
  zI : mg "isinstance" = none
  zV : mg "ValueError" = none
  gS : mg "StepError" = some (.ref (He.ga K "StepError"))
  gC : ∀ x ∈ kinds5, mg x = some (.ref (He.ga K x))
  ec : ∀ x ∈ kinds5, ExcC K (He.ga K x)
  xm : ∀ x ∈ kinds5, PySem.W.exmOne K (.ref (He.ga K x)) (.ref (He.ga K "StepError")) = some true
  kv : ∀ x ∈ kinds5, PySem.W.kitOne K (.ref (He.ga K x)) (.type "ValueError") = some true
  kt : ∀ x ∈ kinds5, ∀ y ∈ kinds5, PySem.W.kitOne K (.ref (He.ga K x)) (.ref (He.ga K y)) = some (decide (x = y))
  xf : ∀ x ∈ kinds5, fldOf x ≠ [] → XfC K (He.ga K x)
  nf : ∀ x ∈ kinds5, ∀ f ∈ fldOf x, PySem.W.findIn K (.ref (He.ga K x)) f = some none
/-- the fields, as data -/
def FldAt (d : Option Addr) (H : Hp) : List Str → List PyData → Prop
  | [], ds => ds = []
  | f :: fs, ds => ∃ dd kv v e es, ds = e :: es ∧ d = some dd ∧ H dd = some (.xd kv) ∧ kv.lookup f = some v ∧ Im H v e ∧ FldAt d H fs es
def Told5 (K : PySem.W.Frag) (cls : Value) (d : Option Addr) (H : Hp) (D : PyData) : Prop := ∃ x ds, x ∈ kinds5 ∧ cls = .ref (He.ga K x) ∧ D = .tuple (.str "error" :: .str x :: ds) ∧ FldAt d H (fldOf x) ds ∧ (d = none ∨ ∃ dd fs, d = some dd ∧ H dd = some (.xd fs))
def hits5 (x : Str) : List Bool := kinds5.map fun y => decide (x = y)
theorem hits5_one : ∀ x ∈ kinds5, (hits5 x).count true = 1 := by decide +kernel
theorem hits5_at : ∀ x ∈ kinds5, (hits5 x)[kinds5.idxOf x]? = some true ∧ ∀ m < kinds5.idxOf x, (hits5 x)[m]? = some false := by decide +kernel
theorem kinds5_at : ∀ x ∈ kinds5, kinds5[kinds5.idxOf x]? = some x ∧ kinds5.idxOf x < 19 := by decide +kernel
theorem kind_cases : ∀ x ∈ kinds5, (fldOf x = (["part", "index"] : List Str) ∧ kinds5.idxOf x = 0) ∨ (fldOf x = (["index", "clause"] : List Str) ∧ kinds5.idxOf x = 1) ∨ (fldOf x = (["row", "word"] : List Str) ∧ kinds5.idxOf x = 2) ∨ (fldOf x = (["name"] : List Str) ∧ kinds5.idxOf x = 3) ∨ (fldOf x = (["offset"] : List Str) ∧ kinds5.idxOf x = 4) ∨
    (fldOf x = (["index"] : List Str) ∧ 5 ≤ kinds5.idxOf x ∧ kinds5.idxOf x < 9) ∨ (fldOf x = ([] : List Str) ∧ 9 ≤ kinds5.idxOf x) := by decide +kernel
theorem nth_ne {j : Nat} {n : Int} (h : (j : Int) ≠ n) : decide (V.int (j : Int) = V.int n) = false := decide_eq_false fun e => h (V.int.inj e)
theorem nth_eq {j : Nat} {n : Int} (h : (j : Int) = n) : decide (V.int (j : Int) = V.int n) = true := decide_eq_true (by rw [h])
/-- what _law_told makes of a call: its value, or what it raised -/
def TR5 (K : PySem.W.Frag) (G : List Addr) (L : List (Addr × Str)) : (XK → Hp → VK → Prop) → Hp → VK → Prop := fun tl H Q => tl (fun cls d H' => ∃ D, Told5 K cls d H' D ∧ ∀ v H2, Go G L H' H2 → Im H2 v D → Q v H2) H Q
section
variable {G : List Addr} {L : List (Addr × Str)}
abbrev nTold : List Str := ["_law_work", "e", "_law_some", "_law_terms", "_law_k", "_law_head"]
theorem scTold : FnScope nTold ["_law_work"] (defScope sTold) := C8.fnScope_by (by decide +kernel)
theorem r_is5 {K : PySem.W.Frag} {H : Hp} {Q : VK} {mg : Str → Option Value} {x y : Str} {d : Option Addr} {a : Addr} (R : Rz5 K mg) (hx : x ∈ kinds5) (hy : y ∈ kinds5) (hd : d = none ∨ ∃ dd fs, d = some dd ∧ H dd = some (.xd fs)) (q : Q (.bl (decide (x = y))) H) : rIsG K (.ref (He.ga K x)) d a [.ref a, .ref (He.ga K y)] H Q :=
  ⟨_, rfl, R.ec x hx, ⟨_, _, _, rfl, fun u h => h, R.kt x hx y hy, q⟩, hd⟩
theorem r_append2 {H : Hp} {Q : VK} {p : Addr} {xs ys : List V} {y : V} (hp : H p = some (.lst xs)) (hl : xs.length ≤ 5000) (e : xs ++ [y] = ys) (q : ∀ H1, H1 = upd H p (.lst ys) → Q .non H1) : rAppend (.ref p) [y] H Q := by
  subst e
  exact r_append hp hl (q _ rfl)
set_option maxHeartbeats 4000000 in
theorem told5_gives {X : Cx} {g : Addr} {cdg : Value} (R : Rz5 X.K X.mg) : GivesQ X nTold "_law_told" (defScope sTold) g cdg (defBody sTold) "_law_work" (TR5 X.K G L) := by
  intro f pre s H Q tl act hc h
  have gC : ∀ x, x ∈ kinds5 → X.mg x = some (.ref (He.ga X.K x)) := R.gC
  refine ⟨_, pss_one (ps_try_as (i := 1) (X := (cxOf C8.CX0 X.prog X.w X.K X.mg X.base nTold "_law_told" (defScope sTold) g cdg X.A X.stack s H C8.E0).nox) (c := .ref (He.ga X.K "StepError"))
      (tb := fun W D σ H => ∃ Ech : XK, (∀ cls d σ' H', Ech cls d H' → W cls d σ' H') ∧ σ[0]? = some (some (.ref f)) ∧ pre H ∧ tl Ech H D.rt)
      rfl rfl scTold.nd rfl rfl ⟨rfl, by decide, .inl R.gS⟩ L2.takes0 (fun W pn xe tk _ => ?_)
      (fun a oe cls d pn hz hf => pss_len (n := 6) rfl (pss_cons (ps_set (i := 2) scTold.nd rfl (Or.inl rfl) (pe_lst (pa_cons (pe_callB (call_isG hz hf) rfl R.zI boot_isinstance (pa_cons (pv 1) (pa_cons (pe_glob (v := .ref (He.ga X.K "InvalidRules")) rfl (gC "InvalidRules" (by decide)) rfl) pa_nil))) (pa_cons (pe_callB (call_isG hz hf) rfl R.zI boot_isinstance (pa_cons (pv 1) (pa_cons (pe_glob (v := .ref (He.ga X.K "IllegalStep")) rfl (gC "IllegalStep" (by decide)) rfl) pa_nil))) (pa_cons (pe_callB (call_isG hz hf) rfl R.zI boot_isinstance (pa_cons (pv 1) (pa_cons (pe_glob (v := .ref (He.ga X.K "NotationError")) rfl (gC "NotationError" (by decide)) rfl) pa_nil))) pa_nil)))))
        (pss_cons (ps_set (i := 2) scTold.nd rfl (Or.inl rfl) (pe_op op_cat (pv 2) (pe_lst (pa_cons (pe_callB (call_isG hz hf) rfl R.zI boot_isinstance (pa_cons (pv 1) (pa_cons (pe_glob (v := .ref (He.ga X.K "UnknownSwitch")) rfl (gC "UnknownSwitch" (by decide)) rfl) pa_nil))) (pa_cons (pe_callB (call_isG hz hf) rfl R.zI boot_isinstance (pa_cons (pv 1) (pa_cons (pe_glob (v := .ref (He.ga X.K "DecodeError")) rfl (gC "DecodeError" (by decide)) rfl) pa_nil))) (pa_cons (pe_callB (call_isG hz hf) rfl R.zI boot_isinstance (pa_cons (pv 1) (pa_cons (pe_glob (v := .ref (He.ga X.K "InvalidState")) rfl (gC "InvalidState" (by decide)) rfl) pa_nil))) pa_nil))))))
        (pss_cons (ps_set (i := 2) scTold.nd rfl (Or.inl rfl) (pe_op op_cat (pv 2) (pe_lst (pa_cons (pe_callB (call_isG hz hf) rfl R.zI boot_isinstance (pa_cons (pv 1) (pa_cons (pe_glob (v := .ref (He.ga X.K "IllegalState")) rfl (gC "IllegalState" (by decide)) rfl) pa_nil))) (pa_cons (pe_callB (call_isG hz hf) rfl R.zI boot_isinstance (pa_cons (pv 1) (pa_cons (pe_glob (v := .ref (He.ga X.K "InvalidStates")) rfl (gC "InvalidStates" (by decide)) rfl) pa_nil))) (pa_cons (pe_callB (call_isG hz hf) rfl R.zI boot_isinstance (pa_cons (pv 1) (pa_cons (pe_glob (v := .ref (He.ga X.K "InvalidOperation")) rfl (gC "InvalidOperation" (by decide)) rfl) pa_nil))) pa_nil))))))
        (pss_cons (ps_set (i := 2) scTold.nd rfl (Or.inl rfl) (pe_op op_cat (pv 2) (pe_lst (pa_cons (pe_callB (call_isG hz hf) rfl R.zI boot_isinstance (pa_cons (pv 1) (pa_cons (pe_glob (v := .ref (He.ga X.K "InvalidClause")) rfl (gC "InvalidClause" (by decide)) rfl) pa_nil))) (pa_cons (pe_callB (call_isG hz hf) rfl R.zI boot_isinstance (pa_cons (pv 1) (pa_cons (pe_glob (v := .ref (He.ga X.K "UnknownClause")) rfl (gC "UnknownClause" (by decide)) rfl) pa_nil))) (pa_cons (pe_callB (call_isG hz hf) rfl R.zI boot_isinstance (pa_cons (pv 1) (pa_cons (pe_glob (v := .ref (He.ga X.K "NoWay")) rfl (gC "NoWay" (by decide)) rfl) pa_nil))) pa_nil))))))
        (pss_cons (ps_set (i := 2) scTold.nd rfl (Or.inl rfl) (pe_op op_cat (pv 2) (pe_lst (pa_cons (pe_callB (call_isG hz hf) rfl R.zI boot_isinstance (pa_cons (pv 1) (pa_cons (pe_glob (v := .ref (He.ga X.K "NoGoal")) rfl (gC "NoGoal" (by decide)) rfl) pa_nil))) (pa_cons (pe_callB (call_isG hz hf) rfl R.zI boot_isinstance (pa_cons (pv 1) (pa_cons (pe_glob (v := .ref (He.ga X.K "TooManyClauses")) rfl (gC "TooManyClauses" (by decide)) rfl) pa_nil))) (pa_cons (pe_callB (call_isG hz hf) rfl R.zI boot_isinstance (pa_cons (pv 1) (pa_cons (pe_glob (v := .ref (He.ga X.K "DifferentNames")) rfl (gC "DifferentNames" (by decide)) rfl) pa_nil))) pa_nil))))))
        (pss_cons (ps_set (i := 2) scTold.nd rfl (Or.inl rfl) (pe_op op_cat (pv 2) (pe_lst (pa_cons (pe_callB (call_isG hz hf) rfl R.zI boot_isinstance (pa_cons (pv 1) (pa_cons (pe_glob (v := .ref (He.ga X.K "TooManySwitches")) rfl (gC "TooManySwitches" (by decide)) rfl) pa_nil))) (pa_cons (pe_callB (call_isG hz hf) rfl R.zI boot_isinstance (pa_cons (pv 1) (pa_cons (pe_glob (v := .ref (He.ga X.K "LastSwitch")) rfl (gC "LastSwitch" (by decide)) rfl) pa_nil))) (pa_cons (pe_callB (call_isG hz hf) rfl R.zI boot_isinstance (pa_cons (pv 1) (pa_cons (pe_glob (v := .ref (He.ga X.K "InvalidName")) rfl (gC "InvalidName" (by decide)) rfl) pa_nil))) pa_nil))))))
        (pss_cons (ps_expr (pe_bmU (X := (cxOf C8.CX0 X.prog X.w X.K X.mg X.base nTold "_law_told" (defScope sTold) g cdg X.A X.stack s H C8.E0).nox) (r := rAppend) PySem.F.plainAttrs_list PySem.F.slot_list_append PySem.F.type_list_append mt_append (pv 2) (pa_cons (pe_callB (call_isG hz hf) rfl R.zI boot_isinstance (pa_cons (pv 1) (pa_cons (pe_glob (v := .ref (He.ga X.K "InvalidCount")) rfl (gC "InvalidCount" (by decide)) rfl) pa_nil))) pa_nil)))
        (pss_cons (ps_set (i := 3) scTold.nd rfl (Or.inl rfl) (pe_lst (pa_cons pe_str (pa_cons pe_str (pa_cons pe_str (pa_cons pe_str (pa_cons pe_str (pa_cons pe_str pa_nil))))))))
        (pss_cons (ps_set (i := 3) scTold.nd rfl (Or.inl rfl) (pe_op op_cat (pv 3) (pe_lst (pa_cons pe_str (pa_cons pe_str (pa_cons pe_str (pa_cons pe_str (pa_cons pe_str pa_nil))))))))
        (pss_cons (ps_set (i := 3) scTold.nd rfl (Or.inl rfl) (pe_op op_cat (pv 3) (pe_lst (pa_cons pe_str (pa_cons pe_str (pa_cons pe_str (pa_cons pe_str (pa_cons pe_str (pa_cons pe_str pa_nil)))))))))
        (pss_cons (ps_set (i := 3) scTold.nd rfl (Or.inl rfl) (pe_op op_cat (pv 3) (pe_lst (pa_cons pe_str (pa_cons pe_str pa_nil)))))
        (pss_cons (ps_set (i := 4) scTold.nd rfl (Or.inl rfl) (pe_ifExp (PW.pt (pw_and (pt_cmpR op_eq (pe_bmU (X := (cxOf C8.CX0 X.prog X.w X.K X.mg X.base nTold "_law_told" (defScope sTold) g cdg X.A X.stack s H C8.E0).nox) (r := rCntB X.K) PySem.F.plainAttrs_list PySem.F.slot_list_count PySem.F.type_list_count mt_lcountB (pv 2) (pa_cons pe_bl pa_nil)) pe_int (nomark _)) (pw_and1 (pt_val (pe_callB (call_isG hz hf) rfl R.zI boot_isinstance (pa_cons (pv 1) (pa_cons (pe_bltn (v := .ty "ValueError") rfl R.zV (by decide +kernel) rfl) pa_nil))))))) (pe_bmU (X := (cxOf C8.CX0 X.prog X.w X.K X.mg X.base nTold "_law_told" (defScope sTold) g cdg X.A X.stack s H C8.E0).nox) (r := rIndex X.K) PySem.F.plainAttrs_list PySem.F.slot_list_index PySem.F.type_list_index mt_index (pv 2) (pa_cons pe_bl pa_nil)) pe_int))
        (pss_cons (ps_set (i := 5) scTold.nd rfl (Or.inl rfl) (pe_tup (pa_cons pe_str (pa_cons (pe_ifExp (pt_cmpR op_lt (pv 4) pe_int (nomark _)) (pe_ix (r := rIxL X.K) ix_list (pv 3) (pv 4) (fun _ _ => rfl)) pe_str) pa_nil))))
        (pss_cons (ps_if (pt_cmpR op_eq (pv 4) pe_int (nomark _)) (pss_one (ps_ret (pe_op (r := rCatA X.K) op_catA (pv 5) (pe_tup (pa_cons (pe_xfG hz hf (pv 1)) (pa_cons (pe_xfG hz hf (pv 1)) pa_nil)))))) pss_nil)
        (pss_cons (ps_if (pt_cmpR op_eq (pv 4) pe_int (nomark _)) (pss_one (ps_ret (pe_op (r := rCatA X.K) op_catA (pv 5) (pe_tup (pa_cons (pe_xfG hz hf (pv 1)) (pa_cons (pe_xfG hz hf (pv 1)) pa_nil)))))) pss_nil)
        (pss_cons (ps_if (pt_cmpR op_eq (pv 4) pe_int (nomark _)) (pss_one (ps_ret (pe_op (r := rCatA X.K) op_catA (pv 5) (pe_tup (pa_cons (pe_xfG hz hf (pv 1)) (pa_cons (pe_xfG hz hf (pv 1)) pa_nil)))))) pss_nil)
        (pss_cons (ps_if (pt_cmpR op_eq (pv 4) pe_int (nomark _)) (pss_one (ps_ret (pe_op (r := rCatA X.K) op_catA (pv 5) (pe_tup (pa_cons (pe_xfG hz hf (pv 1)) pa_nil))))) pss_nil)
        (pss_cons (ps_if (pt_cmpR op_eq (pv 4) pe_int (nomark _)) (pss_one (ps_ret (pe_op (r := rCatA X.K) op_catA (pv 5) (pe_tup (pa_cons (pe_xfG hz hf (pv 1)) pa_nil))))) pss_nil)
        (pss_one (ps_ret (pe_op (r := rCatA X.K) op_catA (pv 5) (pe_ifExp (pt_cmpR op_lt (pv 4) pe_int (nomark _)) (pe_tup (pa_cons (pe_xfG hz hf (pv 1)) pa_nil)) (pe_tup pa_nil))))))))))))))))))))))))), ?_⟩
  · refine ⟨fun pins s' σ H' D I h' => ?_⟩
    obtain ⟨Ech, hW, h1, h2, h3⟩ := h'
    exact (pss_one (ps_ret (act W pn xe Ech _ _ tk hW))).run pins s' σ H' D I ⟨h1, h2, h3⟩
  · refine ⟨_, fun cls d σ' H' h' => ?_, rfl, hc, h⟩
    obtain ⟨D, td, qD⟩ := h'
    obtain ⟨x, ds, hx, rfl, rfl, hfl, hd⟩ := td
    refine ⟨true, R.xm x hx, fun _ a ha hlen => ?_, fun z => by cases z⟩
    have hlen' : σ'.length = 6 := by
      rw [List.length_set] at hlen
      exact hlen
    obtain ⟨s0, s1, s2, s3, s4, s5, rfl⟩ : ∃ s0 s1 s2 s3 s4 s5, σ' = [s0, s1, s2, s3, s4, s5] := by
      match σ', hlen' with
      | [s0, s1, s2, s3, s4, s5], _ => exact ⟨s0, s1, s2, s3, s4, s5, rfl⟩
    clear hlen hlen'
    have gd : ∀ H1, Go G L H' H1 → (d = none ∨ ∃ dd fs, d = some dd ∧ H1 dd = some (.xd fs)) := fun H1 g => by
      rcases hd with z | ⟨dd, fs, z1, z2⟩
      · exact .inl z
      · exact .inr ⟨dd, fs, z1, g.1 dd _ z2 fun ps q => by cases q⟩
    have k0 : Kp H' H' := fun _ _ e => e
    repeat walk_at "rd"
    refine r_is5 R hx (by decide) (gd _ (Go.same k0)) ?_
    repeat walk_at "rd"
    refine r_is5 R hx (by decide) (gd _ (Go.same k0)) ?_
    repeat walk_at "rd"
    refine r_is5 R hx (by decide) (gd _ (Go.same k0)) ?_
    repeat walk_at "rd"
    refine ⟨(by show 3 ≤ sizeLine; decide), fun q0 hq0 => ?_⟩
    generalize hH : upd H' q0 _ = A0; obtain ⟨l0, f0⟩ := new_facts hH hq0; clear hH
    have k0a : Kp H' A0 := kp_t k0 l0
    repeat walk_at "rd"
    refine r_is5 R hx (by decide) (gd _ (Go.same k0a)) ?_
    repeat walk_at "rd"
    refine r_is5 R hx (by decide) (gd _ (Go.same k0a)) ?_
    repeat walk_at "rd"
    refine r_is5 R hx (by decide) (gd _ (Go.same k0a)) ?_
    repeat walk_at "rd"
    refine ⟨(by show 3 ≤ sizeLine; decide), fun q1 hq1 => ?_⟩
    generalize hH : upd A0 q1 _ = A1; obtain ⟨l1, f1⟩ := new_facts hH hq1; clear hH
    have k1a : Kp H' A1 := kp_t k0a l1
    refine r_cat (l1 _ _ f0) f1 (by show 6 ≤ 5000; decide) fun p1 B1 m1 n1 e1 => ?_
    have k1b : Kp H' B1 := kp_t k1a m1
    repeat walk_at "rd"
    refine r_is5 R hx (by decide) (gd _ (Go.same k1b)) ?_
    repeat walk_at "rd"
    refine r_is5 R hx (by decide) (gd _ (Go.same k1b)) ?_
    repeat walk_at "rd"
    refine r_is5 R hx (by decide) (gd _ (Go.same k1b)) ?_
    repeat walk_at "rd"
    refine ⟨(by show 3 ≤ sizeLine; decide), fun q2 hq2 => ?_⟩
    generalize hH : upd B1 q2 _ = A2; obtain ⟨l2, f2⟩ := new_facts hH hq2; clear hH
    have k2a : Kp H' A2 := kp_t k1b l2
    refine r_cat (l2 _ _ e1) f2 (by show 9 ≤ 5000; decide) fun p2 B2 m2 n2 e2 => ?_
    have k2b : Kp H' B2 := kp_t k2a m2
    repeat walk_at "rd"
    refine r_is5 R hx (by decide) (gd _ (Go.same k2b)) ?_
    repeat walk_at "rd"
    refine r_is5 R hx (by decide) (gd _ (Go.same k2b)) ?_
    repeat walk_at "rd"
    refine r_is5 R hx (by decide) (gd _ (Go.same k2b)) ?_
    repeat walk_at "rd"
    refine ⟨(by show 3 ≤ sizeLine; decide), fun q3 hq3 => ?_⟩
    generalize hH : upd B2 q3 _ = A3; obtain ⟨l3, f3⟩ := new_facts hH hq3; clear hH
    have k3a : Kp H' A3 := kp_t k2b l3
    refine r_cat (l3 _ _ e2) f3 (by show 12 ≤ 5000; decide) fun p3 B3 m3 n3 e3 => ?_
    have k3b : Kp H' B3 := kp_t k3a m3
    repeat walk_at "rd"
    refine r_is5 R hx (by decide) (gd _ (Go.same k3b)) ?_
    repeat walk_at "rd"
    refine r_is5 R hx (by decide) (gd _ (Go.same k3b)) ?_
    repeat walk_at "rd"
    refine r_is5 R hx (by decide) (gd _ (Go.same k3b)) ?_
    repeat walk_at "rd"
    refine ⟨(by show 3 ≤ sizeLine; decide), fun q4 hq4 => ?_⟩
    generalize hH : upd B3 q4 _ = A4; obtain ⟨l4, f4⟩ := new_facts hH hq4; clear hH
    have k4a : Kp H' A4 := kp_t k3b l4
    refine r_cat (l4 _ _ e3) f4 (by show 15 ≤ 5000; decide) fun p4 B4 m4 n4 e4 => ?_
    have k4b : Kp H' B4 := kp_t k4a m4
    repeat walk_at "rd"
    refine r_is5 R hx (by decide) (gd _ (Go.same k4b)) ?_
    repeat walk_at "rd"
    refine r_is5 R hx (by decide) (gd _ (Go.same k4b)) ?_
    repeat walk_at "rd"
    refine r_is5 R hx (by decide) (gd _ (Go.same k4b)) ?_
    repeat walk_at "rd"
    refine ⟨(by show 3 ≤ sizeLine; decide), fun q5 hq5 => ?_⟩
    generalize hH : upd B4 q5 _ = A5; obtain ⟨l5, f5⟩ := new_facts hH hq5; clear hH
    have k5a : Kp H' A5 := kp_t k4b l5
    refine r_cat (l5 _ _ e4) f5 (by show 18 ≤ 5000; decide) fun p5 B5 m5 n5 e5 => ?_
    have k5b : Kp H' B5 := kp_t k5a m5
    repeat walk_at "rd"
    refine ⟨.inl ⟨rfl, _, SqL.of e5⟩, ?_⟩
    repeat walk_at "rd"
    refine r_is5 R hx (by decide) (gd _ (Go.same k5b)) ?_
    repeat walk_at "rd"
    refine r_append2 e5 (by show 18 ≤ 5000; decide) (ys := (hits5 x).map V.bl) rfl fun C0 hC0 => ?_
    have nP : H' p5 = none := by
      cases hz : H' p5 with
      | none => rfl
      | some o =>
        have z := k5a _ _ hz
        rw [n5] at z
        cases z
    have g6 : Go G L H' C0 := by
      rw [hC0]
      exact (Go.same k5b).updNew nP e5
    have e6 : C0 p5 = some (.lst ((hits5 x).map V.bl)) := by
      rw [hC0]
      exact upd_same
    clear hC0 e5 n5 k5a k5b nP
    repeat walk_at "rd"
    refine ⟨(by show 6 ≤ sizeLine; decide), fun r0 hr0 => ?_⟩
    generalize hH : upd C0 r0 _ = C1; obtain ⟨j1, t1⟩ := new_facts hH hr0; clear hH
    have e6a := j1 _ _ e6
    have g7 : Go G L H' C1 := g6.trans (Go.same j1)
    repeat walk_at "rd"
    refine ⟨(by show 5 ≤ sizeLine; decide), fun r2 hr2 => ?_⟩
    generalize hH : upd C1 r2 _ = C2; obtain ⟨j2, t2⟩ := new_facts hH hr2; clear hH
    refine r_cat (j2 _ _ t1) t2 (by show 11 ≤ 5000; decide) fun u3 C3 j3 _ t3 => ?_
    have e6b := j3 _ _ (j2 _ _ e6a)
    have g8 : Go G L H' C3 := (g7.trans (Go.same j2)).trans (Go.same j3)
    repeat walk_at "rd"
    refine ⟨(by show 6 ≤ sizeLine; decide), fun r4 hr4 => ?_⟩
    generalize hH : upd C3 r4 _ = C4; obtain ⟨j4, t4⟩ := new_facts hH hr4; clear hH
    refine r_cat (j4 _ _ t3) t4 (by show 17 ≤ 5000; decide) fun u5 C5 j5 _ t5 => ?_
    have e6c := j5 _ _ (j4 _ _ e6b)
    have g9 : Go G L H' C5 := (g8.trans (Go.same j4)).trans (Go.same j5)
    repeat walk_at "rd"
    refine ⟨(by show 2 ≤ sizeLine; decide), fun r6 hr6 => ?_⟩
    generalize hH : upd C5 r6 _ = C6; obtain ⟨j6, t6⟩ := new_facts hH hr6; clear hH
    refine r_cat (j6 _ _ t5) t6 (by show 19 ≤ 5000; decide) fun u7 C7 j7 _ t7 => ?_
    have e6d := j7 _ _ (j6 _ _ e6c)
    have g10 : Go G L H' C7 := (g9.trans (Go.same j6)).trans (Go.same j7)
    have eT : C7 u7 = some (.lst (kinds5.map V.str)) := t7
    clear t1 t2 t3 t4 t5 t6 t7 e6 e6a e6b e6c
    obtain ⟨i1, i2⟩ := hits5_at x hx
    obtain ⟨i3, i4⟩ := kinds5_at x hx
    repeat walk_at "rd"
    refine ⟨.inl ⟨rfl, _, SqL.of e6d⟩, ?_⟩
    repeat walk_at "rd"
    refine ⟨p5, hits5 x, true, rfl, rfl, .of e6d, ?_⟩
    rw [hits5_one x hx]
    repeat walk_at "rd"
    refine r_eq rfl ?_
    rw [show decide (V.int ((1 : Nat) : Int) = V.int 1) = true from decide_eq_true rfl]
    repeat walk_at "rd"
    refine ⟨_, rfl, R.ec x hx, ⟨.ty "ValueError", .type "ValueError", true, rfl, fun u h => h, R.kv x hx, ?_⟩, gd _ g10⟩
    repeat walk_at "rd"
    refine ⟨.inl ⟨rfl, _, SqL.of e6d⟩, ?_⟩
    repeat walk_at "rd"
    refine ⟨p5, (hits5 x).map V.bl, .bl true, kinds5.idxOf x, .bl true, rfl, rfl, .of e6d, rfl, ?_, by rw [List.getElem?_map, i1]; rfl, rfl, fun m z' hm hz => ?_, ?_⟩
    · rw [List.all_eq_true]
      intro z hz
      obtain ⟨b, _, e⟩ := List.mem_map.mp hz
      rw [← e]
      rfl
    · rw [List.getElem?_map, i2 m hm] at hz
      rw [← Option.some.inj hz]
      rfl
    · repeat walk_at "rd"
      refine r_if (fun _ => ?_) (fun c => absurd (of_decide_eq_false c) (by omega))
      repeat walk_at "rd"
      refine r_ixL (.of eT) (v := .str x) (atI_nat (by rw [List.getElem?_map, i3]; rfl)) ?_
      repeat walk_at "rd"
      refine ⟨(by show 2 ≤ sizeLine; decide), fun ph hph => ?_⟩
      generalize hH : upd C7 ph _ = C8; obtain ⟨j8, t8⟩ := new_facts hH hph; clear hH
      have g11 : Go G L H' C8 := g10.trans (Go.same j8)
      clear eT e6d i1 i2 i3
      have fin : ∀ (vs : List V) (es : List PyData) (pt : Addr) (C9 : Hp), Kp C8 C9 → C9 pt = some (.tup vs) → Ims C9 vs es → vs ≠ [] → vs.length ≤ 5 → ds = es → rCatA X.K (.ref ph) (.ref pt) C9 Q := fun vs es pt C9 k e im hne hl he => by
        subst he
        refine ⟨ph, pt, [.str "error", .str x], vs, rfl, rfl, .of (k _ _ t8), .of e, ?_, fun h => (by cases h), fun _ h => absurd h hne, fun _ _ pr hpr => ?_⟩
        · rw [sizeLine_eq]
          show 2 + vs.length ≤ _
          omega
        generalize hH : upd C9 pr _ = C10; obtain ⟨j10, t10⟩ := new_facts hH hpr; clear hH
        exact qD (.ref pr) C10 ((g11.trans (Go.same k)).trans (Go.same j10)) (.tup (.inl t10) (.cons (.str _) (.cons (.str _) (im.kt (kp_kt j10)))))
      repeat walk_at "rd"
      rcases kind_cases x hx with ⟨hf, hj⟩ | ⟨hf, hj⟩ | ⟨hf, hj⟩ | ⟨hf, hj⟩ | ⟨hf, hj⟩ | ⟨hf, hj, hj2⟩ | ⟨hf, hj⟩
      · rw [hf] at hfl
        obtain ⟨dd, kv0, v0, e0, es0, rfl, rfl, x0, k0, im0, hfl⟩ := hfl
        obtain ⟨dd1, kv1, v1, e1, es1, rfl, ed, x1, k1, im1, hfl⟩ := hfl
        obtain rfl : dd = dd1 := Option.some.inj ed
        have hfl0 : _ = [] := hfl
        subst hfl0
        clear gd
        refine r_eq rfl ?_
        rw [nth_eq (by omega)]
        repeat walk_at "rd"
        refine r_xf (R.xf x hx (by rw [hf]; decide)) (R.nf x hx "part" (by rw [hf]; decide)) (fun R z => ⟨_, rfl, z⟩) (g11.1 dd _ x0 fun ps q => by cases q) k0 ?_
        repeat walk_at "rd"
        refine r_xf (R.xf x hx (by rw [hf]; decide)) (R.nf x hx "index" (by rw [hf]; decide)) (fun R z => ⟨_, rfl, z⟩) (g11.1 dd _ x1 fun ps q => by cases q) k1 ?_
        repeat walk_at "rd"
        refine ⟨(by show 2 ≤ sizeLine; decide), fun pt hpt => ?_⟩
        generalize hH : upd C8 pt _ = C9; obtain ⟨j9, t9⟩ := new_facts hH hpt; clear hH
        exact fin [v0, v1] [e0, e1] pt C9 j9 t9 (.cons (im0.kt (g11.trans (Go.same (G := G) (L := L) j9)).kt) (.cons (im1.kt (g11.trans (Go.same (G := G) (L := L) j9)).kt) .nil)) (by simp) (by show 2 ≤ 5; decide) rfl
      · rw [hf] at hfl
        obtain ⟨dd, kv0, v0, e0, es0, rfl, rfl, x0, k0, im0, hfl⟩ := hfl
        obtain ⟨dd1, kv1, v1, e1, es1, rfl, ed, x1, k1, im1, hfl⟩ := hfl
        obtain rfl : dd = dd1 := Option.some.inj ed
        have hfl0 : _ = [] := hfl
        subst hfl0
        clear gd
        refine r_eq rfl ?_
        rw [nth_ne (by omega)]
        repeat walk_at "rd"
        refine r_eq rfl ?_
        rw [nth_eq (by omega)]
        repeat walk_at "rd"
        refine r_xf (R.xf x hx (by rw [hf]; decide)) (R.nf x hx "index" (by rw [hf]; decide)) (fun R z => ⟨_, rfl, z⟩) (g11.1 dd _ x0 fun ps q => by cases q) k0 ?_
        repeat walk_at "rd"
        refine r_xf (R.xf x hx (by rw [hf]; decide)) (R.nf x hx "clause" (by rw [hf]; decide)) (fun R z => ⟨_, rfl, z⟩) (g11.1 dd _ x1 fun ps q => by cases q) k1 ?_
        repeat walk_at "rd"
        refine ⟨(by show 2 ≤ sizeLine; decide), fun pt hpt => ?_⟩
        generalize hH : upd C8 pt _ = C9; obtain ⟨j9, t9⟩ := new_facts hH hpt; clear hH
        exact fin [v0, v1] [e0, e1] pt C9 j9 t9 (.cons (im0.kt (g11.trans (Go.same (G := G) (L := L) j9)).kt) (.cons (im1.kt (g11.trans (Go.same (G := G) (L := L) j9)).kt) .nil)) (by simp) (by show 2 ≤ 5; decide) rfl
      · rw [hf] at hfl
        obtain ⟨dd, kv0, v0, e0, es0, rfl, rfl, x0, k0, im0, hfl⟩ := hfl
        obtain ⟨dd1, kv1, v1, e1, es1, rfl, ed, x1, k1, im1, hfl⟩ := hfl
        obtain rfl : dd = dd1 := Option.some.inj ed
        have hfl0 : _ = [] := hfl
        subst hfl0
        clear gd
        refine r_eq rfl ?_
        rw [nth_ne (by omega)]
        repeat walk_at "rd"
        refine r_eq rfl ?_
        rw [nth_ne (by omega)]
        repeat walk_at "rd"
        refine r_eq rfl ?_
        rw [nth_eq (by omega)]
        repeat walk_at "rd"
        refine r_xf (R.xf x hx (by rw [hf]; decide)) (R.nf x hx "row" (by rw [hf]; decide)) (fun R z => ⟨_, rfl, z⟩) (g11.1 dd _ x0 fun ps q => by cases q) k0 ?_
        repeat walk_at "rd"
        refine r_xf (R.xf x hx (by rw [hf]; decide)) (R.nf x hx "word" (by rw [hf]; decide)) (fun R z => ⟨_, rfl, z⟩) (g11.1 dd _ x1 fun ps q => by cases q) k1 ?_
        repeat walk_at "rd"
        refine ⟨(by show 2 ≤ sizeLine; decide), fun pt hpt => ?_⟩
        generalize hH : upd C8 pt _ = C9; obtain ⟨j9, t9⟩ := new_facts hH hpt; clear hH
        exact fin [v0, v1] [e0, e1] pt C9 j9 t9 (.cons (im0.kt (g11.trans (Go.same (G := G) (L := L) j9)).kt) (.cons (im1.kt (g11.trans (Go.same (G := G) (L := L) j9)).kt) .nil)) (by simp) (by show 2 ≤ 5; decide) rfl
      · rw [hf] at hfl
        obtain ⟨dd, kv0, v0, e0, es0, rfl, rfl, x0, k0, im0, hfl⟩ := hfl
        have hfl0 : _ = [] := hfl
        subst hfl0
        clear gd
        refine r_eq rfl ?_
        rw [nth_ne (by omega)]
        repeat walk_at "rd"
        refine r_eq rfl ?_
        rw [nth_ne (by omega)]
        repeat walk_at "rd"
        refine r_eq rfl ?_
        rw [nth_ne (by omega)]
        repeat walk_at "rd"
        refine r_eq rfl ?_
        rw [nth_eq (by omega)]
        repeat walk_at "rd"
        refine r_xf (R.xf x hx (by rw [hf]; decide)) (R.nf x hx "name" (by rw [hf]; decide)) (fun R z => ⟨_, rfl, z⟩) (g11.1 dd _ x0 fun ps q => by cases q) k0 ?_
        repeat walk_at "rd"
        refine ⟨(by show 1 ≤ sizeLine; decide), fun pt hpt => ?_⟩
        generalize hH : upd C8 pt _ = C9; obtain ⟨j9, t9⟩ := new_facts hH hpt; clear hH
        exact fin [v0] [e0] pt C9 j9 t9 (.cons (im0.kt (g11.trans (Go.same (G := G) (L := L) j9)).kt) .nil) (by simp) (by show 1 ≤ 5; decide) rfl
      · rw [hf] at hfl
        obtain ⟨dd, kv0, v0, e0, es0, rfl, rfl, x0, k0, im0, hfl⟩ := hfl
        have hfl0 : _ = [] := hfl
        subst hfl0
        clear gd
        refine r_eq rfl ?_
        rw [nth_ne (by omega)]
        repeat walk_at "rd"
        refine r_eq rfl ?_
        rw [nth_ne (by omega)]
        repeat walk_at "rd"
        refine r_eq rfl ?_
        rw [nth_ne (by omega)]
        repeat walk_at "rd"
        refine r_eq rfl ?_
        rw [nth_ne (by omega)]
        repeat walk_at "rd"
        refine r_eq rfl ?_
        rw [nth_eq (by omega)]
        repeat walk_at "rd"
        refine r_xf (R.xf x hx (by rw [hf]; decide)) (R.nf x hx "offset" (by rw [hf]; decide)) (fun R z => ⟨_, rfl, z⟩) (g11.1 dd _ x0 fun ps q => by cases q) k0 ?_
        repeat walk_at "rd"
        refine ⟨(by show 1 ≤ sizeLine; decide), fun pt hpt => ?_⟩
        generalize hH : upd C8 pt _ = C9; obtain ⟨j9, t9⟩ := new_facts hH hpt; clear hH
        exact fin [v0] [e0] pt C9 j9 t9 (.cons (im0.kt (g11.trans (Go.same (G := G) (L := L) j9)).kt) .nil) (by simp) (by show 1 ≤ 5; decide) rfl
      · rw [hf] at hfl
        obtain ⟨dd, kv0, v0, e0, es0, rfl, rfl, x0, k0, im0, hfl⟩ := hfl
        have hfl0 : _ = [] := hfl
        subst hfl0
        clear gd
        refine r_eq rfl ?_
        rw [nth_ne (by omega)]
        repeat walk_at "rd"
        refine r_eq rfl ?_
        rw [nth_ne (by omega)]
        repeat walk_at "rd"
        refine r_eq rfl ?_
        rw [nth_ne (by omega)]
        repeat walk_at "rd"
        refine r_eq rfl ?_
        rw [nth_ne (by omega)]
        repeat walk_at "rd"
        refine r_eq rfl ?_
        rw [nth_ne (by omega)]
        repeat walk_at "rd"
        refine r_if (fun _ => ?_) (fun c => absurd (of_decide_eq_false c) (by omega))
        repeat walk_at "rd"
        refine r_xf (R.xf x hx (by rw [hf]; decide)) (R.nf x hx "index" (by rw [hf]; decide)) (fun R z => ⟨_, rfl, z⟩) (g11.1 dd _ x0 fun ps q => by cases q) k0 ?_
        repeat walk_at "rd"
        refine ⟨(by show 1 ≤ sizeLine; decide), fun pt hpt => ?_⟩
        generalize hH : upd C8 pt _ = C9; obtain ⟨j9, t9⟩ := new_facts hH hpt; clear hH
        exact fin [v0] [e0] pt C9 j9 t9 (.cons (im0.kt (g11.trans (Go.same (G := G) (L := L) j9)).kt) .nil) (by simp) (by show 1 ≤ 5; decide) rfl
      · rw [hf] at hfl
        have hfl0 : ds = [] := hfl
        subst hfl0
        refine r_eq rfl ?_
        rw [nth_ne (by omega)]
        repeat walk_at "rd"
        refine r_eq rfl ?_
        rw [nth_ne (by omega)]
        repeat walk_at "rd"
        refine r_eq rfl ?_
        rw [nth_ne (by omega)]
        repeat walk_at "rd"
        refine r_eq rfl ?_
        rw [nth_ne (by omega)]
        repeat walk_at "rd"
        refine r_eq rfl ?_
        rw [nth_ne (by omega)]
        repeat walk_at "rd"
        refine r_if (fun c => absurd (of_decide_eq_true c) (by omega)) (fun _ => ?_)
        repeat walk_at "rd"
        refine ⟨(by show 0 ≤ sizeLine; decide), fun pt hpt => ?_⟩
        generalize hH : upd C8 pt _ = C9; obtain ⟨j9, t9⟩ := new_facts hH hpt; clear hH
        refine ⟨ph, pt, [.str "error", .str x], [], rfl, rfl, .of (j9 _ _ t8), .of t9, by show 2 ≤ sizeLine; decide, fun h => (by cases h), fun _ _ => ?_, fun _ h => absurd rfl h⟩
        exact qD (.ref ph) C9 (g11.trans (Go.same j9)) (.tup (.inl (j9 _ _ t8)) (.cons (.str _) (.cons (.str _) .nil)))
end
section
variable {P : Program} {w : World} {K : PySem.W.Frag} {mg : Str → Option Value} {base : Heap} {G : List Addr} {L : List (Addr × Str)}
end
abbrev sErr5 (i : Nat) : Stmt := inClass (top5 i) 0
section
variable {P : Program} {w : World} {K : PySem.W.Frag} {mg : Str → Option Value} {base : Heap} {G : List Addr} {L : List (Addr × Str)}
theorem scUS : FnScope ["self", "name"] ["self", "name"] (defScope (sErr5 iUS)) := C8.fnScope_by (by decide +kernel)
def spUS (K : PySem.W.Frag) (C : Addr) : Sp := fun vs H Q _ => ∃ a v, vs = [.ref a, v] ∧ H a = some (exo a C none) ∧
  ∀ d, H d = none → d ≠ a → Q .non (upd (upd H d (exd d [("name", v)])) a (exo a C (some d)))
theorem ok_US {f C S : Addr} {fd : FuncData} (F : Fun K "__init__" "UnknownSwitch.__init__" (sErr5 iUS) f fd) (B : BaseC K mg S) (T : OexC K C) (n2 : PySem.W.findIn K (.ref C) "name" = some none) : FnOk P w K mg base CX0 1 f fd ["self", "name"] (spUS K C) := by
  refine F.ok scUS (fun vs H Q E h => ?_) (fun cdv A outer s H vs Q E hr h => ?_)
  · obtain ⟨a, i, e, _⟩ := h
    rw [e]
    rfl
  · obtain ⟨a, v, e, ha, q⟩ := h
    subst e
    refine ⟨_, pss_cons (ps_expr (pe_baseinit rfl B.g B.rd B.fv (pa_cons (pv 0) (pa_cons pe_str pa_nil))))
      (pss_one (ps_ost (pv 0) (pv 1))), ?_⟩
    refine r_seq (r_drop (r_cons (r_var (v := .ref a) rfl (r_cons (r_c (r_nil ?_))))))
    refine ⟨a, C, [_], rfl, (by show 1 ≤ 1000; decide), T, ha, ?_⟩
    repeat walk_at "rd"
    exact r_ostV (y := v) (a := a) rfl rfl T n2 (.inl ⟨ha, fun d hd hne => q d hd hne⟩)
end
section
variable {P : Program} {w : World} {K : PySem.W.Frag} {mg : Str → Option Value} {base : Heap} {G : List Addr} {L : List (Addr × Str)}
theorem mkUS_fin {x : Str} {Q : XK} {u : V} {H1 : Hp} (h : ∀ d Hx, (∀ b o, H1 b = some o → Hx b = some o) → Hx d = some (.xd [("name", u)]) → Q (.ref (He.ga K x)) (some d) Hx) :
    [u].length ≤ 1000 ∧ ∀ a, H1 a = none → spUS K (He.ga K x) (.ref a :: ([u] ++ [])) (upd H1 a (exo a (He.ga K x) none))
      (fun v H2 => v = .non ∧ ∃ (d : Addr) (fs : List (Str × V)), H2 a = some (exo a (He.ga K x) (some d)) ∧ H2 d = some (exd d fs) ∧ H1 d = none ∧ Q (.ref (He.ga K x)) (some d) (upd (del H2 a) d (.xd fs))) (fun _ _ _ => False) := by
  refine ⟨(by show 1 ≤ 1000; decide), fun a ha => ⟨a, u, rfl, upd_same, fun d hd hne => ?_⟩⟩
  have hd' : H1 d = none := by
    rw [upd_ne hne] at hd
    exact hd
  refine ⟨rfl, d, _, upd_same, by rw [upd_ne hne, upd_same], hd', h d _ ?_ upd_same⟩
  intro b o e
  have nd := ne_of_none e hd'
  have na := ne_of_none e ha
  rw [upd_ne nd, del_ne na, upd_ne na, upd_ne nd, upd_ne na]
  exact e
theorem scChkSwitch : FnScope ["names", "name"] ["names", "name"] (defScope sChkSwitch) := C8.fnScope_by (by decide +kernel)
def spChkSwitch (K : PySem.W.Frag) (G : List Addr) (L : List (Addr × Str)) : Sp := fun vs H Q E => ∃ (an : Addr) (v : V) (ns : List Str) (d : PyData), vs = [.ref an, v] ∧ Tp H an (ns.map V.str) ∧ Dp K H v d ∧ lv 8 d = true ∧ (∀ z ∈ ns, PyData.strOk z = true) ∧
  (inD d (ns.map PyData.str) = false → ∀ dd H', (∀ b o, H b = some o → H' b = some o) → H' dd = some (.xd [("name", v)]) → E (.ref (He.ga K "UnknownSwitch")) (some dd) H') ∧ (∀ z, d = .str z → z ∈ ns → Q .non H)
theorem ok_chkSwitch {f : Addr} {fd : FuncData} (F : Fun K "check_switch" "check_switch" sChkSwitch f fd) (T : Err P w K mg base "UnknownSwitch" (spUS K (He.ga K "UnknownSwitch"))) : FnOk P w K mg base (L2.CX P w) 3 f fd ["names", "name"] (spChkSwitch K G L) := by
  refine F.okX scChkSwitch (fun vs H Q E h => ?_) (fun cdv A outer s H vs Q E hr h => ?_)
  · obtain ⟨an, v, ns, d, e, _⟩ := h
    rw [e]
    rfl
  · obtain ⟨an, v, ns, d, e, hn, hd, l8, hok, qE, q⟩ := h
    subst e
    refine ⟨_, pss_one (ps_if (pt_cmpR (op_notInT (u65 hr)) (pv 1) (pv 0) rfl) (pss_one (ps_raise rfl (takes_of rfl rfl rfl rfl) (pmk_err T hr (pa_cons (pv 1) pa_nil)))) pss_nil), ?_⟩
    repeat walk_at "rd"
    refine r_ninT (ds := ns.map PyData.str) hd (.tup hn.seq (dps_strs ns)) l8 (lv_strs hok) ?_
    repeat walk_at "rd"
    refine r_if (fun c => ?_) (fun c => ?_)
    · have c' : inD d (ns.map PyData.str) = false := by simpa using c
      repeat walk_at "rd"
      refine r_mk ?_
      repeat walk_at "rd"
      exact mkUS_fin fun dd Hx k hx => qE c' dd Hx k hx
    · have c' : inD d (ns.map PyData.str) = true := by simpa using c
      obtain ⟨z, hz, hm⟩ := inD_str c'
      exact q z hz hm
end
section
variable {P : Program} {w : World} {K : PySem.W.Frag} {mg : Str → Option Value} {base : Heap} {G : List Addr} {L : List (Addr × Str)}
end
/-- one of these errors -/
def EOf (K : PySem.W.Frag) (ks : List Str) (E : XK) : XK := fun cls d H => (∃ x, x ∈ ks ∧ cls = .ref (He.ga K x)) ∧ E cls d H
/-- none of these is a StopIteration -/
def NoSt (K : PySem.W.Frag) (ks : List Str) : Prop := ∀ x ∈ ks, PySem.W.subIn K (.ref (He.ga K x)) (.type "StopIteration") = some false
theorem NoSt.stop {K : PySem.W.Frag} {ks : List Str} (h : NoSt K ks) (E : XK) : NoStop K (EOf K ks E) := fun cls d H z => by
  obtain ⟨⟨x, hx, rfl⟩, _⟩ := z
  exact h x hx
section
variable {P : Program} {w : World} {K : PySem.W.Frag} {mg : Str → Option Value} {base : Heap} {G : List Addr} {L : List (Addr × Str)}
def optV : Option Nat → V
  | none => .non
  | some i => .int (i : Nat)
def items : PyData → List PyData
  | .tuple ds => ds
  | _ => []
end
theorem r_tM1 {r : V → List V → Hp → VK → Prop} {to te : TE} {σ : L2.St} {H : Hp} {Q : VK} (h : to σ H fun x H1 => (∃ a, x = .str a) ∧ te σ H1 fun y H2 => r x [y] H2 Q) : tM1 r to te σ H Q := h
/-- sep.join of a list or a tuple of texts -/
def rJoin (K : PySem.W.Frag) : V → List V → Hp → VK → Prop := fun x xs H Q => ∃ a p, ∃ ys : List Str, x = .str a ∧ xs = [.ref p] ∧ (SqL K H p (ys.map V.str) ∨ SqT K H p (ys.map V.str)) ∧ (ys.map (·.length)).sum + ys.length * a.length ≤ 16777216 ∧ Q (.str (Txt.join a ys)) H
theorem pe_joinK {X : Cx} {o e : Expr} {to te : TE} {apos pos : Pos} (ho : PE X o to) (he : PE X e te) (hs : starEach [e] X.env = [(false, eval e X.env)] := by rfl) (hbase : attributeBase o "join" X.env (eval o X.env) = eval o X.env := by rfl) (hline : (apos.endLine == pos.line) = true := by rfl) :
    PE X (.Call (.Attribute o "join" apos) [e] [] pos) (tM1 (rJoin X.K) to te) := pe_join ho he hs hbase hline
local macro_rules | `(tactic| walk_at "rs") => `(tactic| first | (with_reducible refine r_tM1 ?_) | (with_reducible refine r_u1 ?_) | walk_at "rd")
section
variable {P : Program} {w : World} {K : PySem.W.Frag} {mg : Str → Option Value} {base : Heap} {G : List Addr} {L : List (Addr × Str)}
theorem RowsW.go {D : Addr} {H H' : Hp} {xs : List V} {wss : List (List Str)} (h : RowsW D H xs wss) (g : Go G L H H') : RowsW D H' xs wss := ⟨h.1, fun i x e => by
  obtain ⟨p, ws, h1, h2, h3, h4⟩ := h.2 i x e
  exact ⟨p, ws, h1, h2, h3, g.lst h4⟩⟩
theorem RowsW.snoc {D p : Addr} {H : Hp} {o : HO} {xs : List V} {wss : List (List Str)} {ws : List Str} (h : RowsW D H xs wss) (n : p ≠ D) (e : H p = some (.lst (ws.map V.str))) : RowsW D (upd H D o) (xs ++ [.ref p]) (wss ++ [ws]) := by
  have hl := h.1
  refine ⟨by rw [List.length_append, List.length_append, h.1]; rfl, fun i x ex => ?_⟩
  by_cases c : i < xs.length
  · rw [List.getElem?_append_left c] at ex
    obtain ⟨q, vs, h1, h2, h3, h4⟩ := h.2 i x ex
    exact ⟨q, vs, h1, by rw [List.getElem?_append_left (by rw [← h.1]; exact c)]; exact h2, h3, by rw [upd_ne h3]; exact h4⟩
  · rw [List.getElem?_append_right (by omega)] at ex
    have e0 : i - xs.length = 0 := by
      rcases Nat.eq_zero_or_pos (i - xs.length) with z | z
      · exact z
      · rw [List.getElem?_eq_none (by show 1 ≤ _; omega)] at ex
        cases ex
    rw [e0] at ex
    refine ⟨p, ws, (Option.some.inj ex).symm, ?_, n, by rw [upd_ne n]; exact e⟩
    rw [List.getElem?_append_right (by omega), ← h.1, e0]
    rfl
end
abbrev sIsNumB : Stmt := sIsNumber
theorem vN_ints (l : List Nat) : vN l = (l.map fun (n : Nat) => (n : Int)).map V.int := by
  unfold vN
  rw [List.map_map]
  rfl
theorem vN_len (l : List Nat) : (vN l).length = l.length := List.length_map ..
theorem vN_app (l m : List Nat) : vN (l ++ m) = vN l ++ vN m := List.map_append
/-- a datum that is a byte -/
def byteD : PyData → Bool
  | .int i => decide (0 ≤ i) && decide (i ≤ 255)
  | _ => false
def natD : PyData → Nat
  | .int i => i.toNat
  | _ => 0
def packD : PyData → Option (List Nat)
  | .list ds => if ds.all byteD then some (ds.map natD) else none
  | _ => none
/-- the bytes of numbers -/
def bytN (l : List Nat) : Array UInt8 := byteArr (l.map fun (n : Nat) => (n : Int))
theorem packD_ok {l : List Nat} (h : ∀ n ∈ l, n ≤ 255) : packD (.list (l.map fun (n : Nat) => PyData.int (n : Nat))) = some l := by
  have h1 : (l.map fun (n : Nat) => PyData.int (n : Nat)).all byteD = true := by
    rw [List.all_eq_true]
    intro d hd
    obtain ⟨n, hn, rfl⟩ := List.mem_map.mp hd
    have z := h n hn
    show (decide ((0 : Int) ≤ (n : Nat)) && decide (((n : Nat) : Int) ≤ 255)) = true
    rw [decide_eq_true (by omega), decide_eq_true (by omega)]
    rfl
  show (if (l.map fun (n : Nat) => PyData.int (n : Nat)).all byteD = true then some ((l.map fun (n : Nat) => PyData.int (n : Nat)).map natD) else none) = some l
  rw [h1, if_pos rfl, List.map_map]
  congr 1
  exact (List.map_congr_left (fun n _ => rfl)).trans (List.map_id l)
theorem bytN_bi {l : List Nat} (h : ∀ n ∈ l, n ≤ 255) : (bi (bytN l)).map V.int = vN l := by
  rw [vN_ints]
  unfold bytN
  rw [bi_make]
  intro n hn
  obtain ⟨m, hm, rfl⟩ := List.mem_map.mp hn
  have z := h m hm
  omega
theorem bytN_size {l : List Nat} : (bytN l).size = l.length := by
  unfold bytN byteArr
  simp
/-- the checksum -/
def ckN (l : List Nat) : Nat := l.foldl (fun t v => (7 * t + v) % 241) 3
theorem ckN_snoc (l : List Nat) (n : Nat) : ckN (l ++ [n]) = (7 * ckN l + n) % 241 := by
  unfold ckN
  rw [List.foldl_append]
  rfl
theorem ckN_lt : ∀ l : List Nat, ckN l < 241 := fun l => by
  rcases List.eq_nil_or_concat l with rfl | ⟨m, n, rfl⟩
  · decide
  · rw [List.concat_eq_append, ckN_snoc]
    exact Nat.mod_lt _ (by decide)
theorem ckN_take {l : List Nat} {i n : Nat} (h : l[i]? = some n) : ckN (l.take (i + 1)) = (7 * ckN (l.take i) + n) % 241 := by
  rw [List.take_succ, h]
  exact ckN_snoc _ _
theorem dps_ints {K : PySem.W.Frag} {H : Hp} : ∀ l : List Nat, DpAll K H (vN l) (l.map fun (n : Nat) => PyData.int (n : Nat))
  | [] => .nil
  | n :: l => .cons (.int _) (dps_ints l)
theorem dps_bytes {K : PySem.W.Frag} {H : Hp} : ∀ {xs : List V} {ds : List PyData}, DpAll K H xs ds → ds.all byteD = true → xs = vN (ds.map natD)
  | _, _, .nil, _ => rfl
  | _, d :: ds, .cons h t, q => by
    rw [List.all_cons, Bool.and_eq_true] at q
    have z := dps_bytes t q.2
    cases h with
    | int i =>
      have h0 : 0 ≤ i := by
        have := q.1
        unfold byteD at this
        rw [Bool.and_eq_true] at this
        exact of_decide_eq_true this.1
      rw [z]
      show V.int i :: _ = V.int ((i.toNat : Nat) : Int) :: _
      rw [Int.toNat_of_nonneg h0]
      rfl
    | non => exact absurd q.1 Bool.false_ne_true
    | bl b => exact absurd q.1 Bool.false_ne_true
    | str x => exact absurd q.1 Bool.false_ne_true
    | lst _ _ => exact absurd q.1 Bool.false_ne_true
    | tup _ _ => exact absurd q.1 Bool.false_ne_true
theorem sqL_goC {K : PySem.W.Frag} {H H' : Hp} {a : Addr} {xs : List V} (e : LamX.ExtN H H') (h : SqL K H a xs) : SqL K H' a xs := by
  rcases h with (h | ⟨o, h⟩) | h
  · exact .inl (.inl (e _ _ h fun _ z => by cases z))
  · exact .inl (.inr ⟨o, e _ _ h fun _ z => by cases z⟩)
  · exact .inr h
section
variable {P : Program} {w : World} {K : PySem.W.Frag} {mg : Str → Option Value} {base : Heap} {G : List Addr} {L : List (Addr × Str)}
theorem scIsNumB : FnScope ["value"] ["value"] (defScope sIsNumB) := C8.fnScope_by (by decide +kernel)
def spNumD (K : PySem.W.Frag) : Sp := fun vs H Q _ => ∃ v d, vs = [v] ∧ Dp K H v d ∧ Q (.bl (tyOf d == "int")) H
theorem ok_isNumB {f : Addr} {fd : FuncData} (F : Fun K "is_number" "is_number" sIsNumB f fd) (zI : mg "isinstance" = none) (z1 : mg "int" = none) (z2 : mg "bool" = none) : FnOk P w K mg base CX0 1 f fd ["value"] (spNumD K) := by
  refine F.ok scIsNumB (fun vs H Q E h => ?_) (fun cdv A outer s H vs Q E hr h => ?_)
  · obtain ⟨v, n, e, _⟩ := h
    rw [e]
    rfl
  · obtain ⟨v, d, e, hd, q⟩ := h
    have hk := Dp.kd hd
    subst e
    refine ⟨_, pss_one (ps_ret (pe_and (pe_callB call_isi rfl zI boot_isinstance (pa_cons (pv 0) (pa_cons (pe_bltn (v := .ty "int") rfl z1 boot_int rfl) pa_nil))) (pe_one (pe_not (pe_callB call_isi rfl zI boot_isinstance (pa_cons (pv 0) (pa_cons (pe_bltn (v := .ty "bool") rfl z2 (by decide +kernel) rfl) pa_nil))))))), ?_⟩
    repeat walk_at "rd"
    refine r_isi (m := "int") hk (by decide) ?_
    repeat walk_at "rd"
    refine r_if (fun c => ?_) (fun c => ?_)
    · repeat walk_at "rd"
      refine r_isi (m := "bool") hk (by decide) ?_
      repeat walk_at "rd"
      have key : ∀ n ∈ ["NoneType", "bool", "int", "str", "tuple", "list"], (n == "int" || (n == "bool" && "int" == "int")) = true → (!(n == "bool" || (n == "bool" && "bool" == "int"))) = (n == "int") := by decide
      rw [key _ hk.1 c]
      exact q
    · have key : ∀ n ∈ ["NoneType", "bool", "int", "str", "tuple", "list"], (n == "int" || (n == "bool" && "int" == "int")) = false → false = (n == "int") := by decide
      rw [key _ hk.1 c]
      exact q
theorem scIsByte : FnScope ["value"] ["value"] (defScope sIsByte) := C8.fnScope_by (by decide +kernel)
def spByte (K : PySem.W.Frag) : Sp := fun vs H Q _ => ∃ v d, vs = [v] ∧ Dp K H v d ∧ Q (.bl (byteD d)) H
theorem ok_isByte {f : Addr} {fd : FuncData} {t255 : Tok} (F : Fun K "_is_byte" "_is_byte" sIsByte f fd) (g255 : mg "GREATEST_BYTE" = some (.int 255 t255)) (INU : Fd CX0 P w K mg base "is_number" 1 (spNumD K)) : FnOk P w K mg base CX0 2 f fd ["value"] (spByte K) := by
  refine F.ok scIsByte (fun vs H Q E h => ?_) (fun cdv A outer s H vs Q E hr h => ?_)
  · obtain ⟨v, n, e, _⟩ := h
    rw [e]
    rfl
  · obtain ⟨v, d, e, hd, q⟩ := h
    subst e
    refine ⟨_, pss_one (ps_ret (pe_and (pe_fd (E := E0) INU hr pass0 (pa_cons (pv 0) pa_nil)) (pe_one (pe_chain op_le op_le pe_int (pv 0) (pe_glob (v := .int 255) rfl g255 ⟨_, rfl⟩))))), ?_⟩
    repeat walk_at "rd"
    refine ⟨v, d, rfl, hd, ?_⟩
    repeat walk_at "rd"
    cases hd with
    | int i =>
      refine r_if (fun c => ?_) (fun c => ?_)
      · repeat walk_at "rd"
        refine r_if (fun c0 => ?_) (fun c0 => ?_)
        · repeat walk_at "rd"
          have e : byteD (.int i) = decide (i ≤ 255) := by
            show (decide (0 ≤ i) && _) = _
            rw [c0, Bool.true_and]
          rw [e] at q
          exact q
        · have e : byteD (.int i) = false := by
            show (decide (0 ≤ i) && _) = _
            rw [c0, Bool.false_and]
          rw [e] at q
          exact q
      · exact absurd c (by simp [tyOf])
    | non => exact r_if (fun c => absurd c (by simp [tyOf])) fun _ => q
    | bl b => exact r_if (fun c => absurd c (by simp [tyOf])) fun _ => q
    | str x => exact r_if (fun c => absurd c (by simp [tyOf])) fun _ => q
    | lst _ _ => exact r_if (fun c => absurd c (by simp [tyOf])) fun _ => q
    | tup _ _ => exact r_if (fun c => absurd c (by simp [tyOf])) fun _ => q
abbrev nPk : List Str := ["values", "value"]
theorem scPackB : FnScope nPk ["values"] (defScope sPackBytes) := C8.fnScope_by (by decide +kernel)
def spPack (K : PySem.W.Frag) (G : List Addr) (L : List (Addr × Str)) : Sp := fun vs H Q E => ∃ v d, vs = [v] ∧ Dp K H v d ∧ (∀ ds, d = .list ds → ds.length ≤ 2000) ∧ (packD d = none → ∀ H', Go G L H H' → E (.ref (He.ga K "InvalidCount")) none H') ∧
  (∀ l, packD d = some l → ∀ H', Go G L H H' → Q (.byt (bytN l)) H')
theorem ok_packB {f : Addr} {fd : FuncData} (F : Fun K "pack_bytes" "pack_bytes" sPackBytes f fd) (zI : mg "isinstance" = none) (zl : mg "list" = none) (zA : mg "all" = none) (zb : mg "bytes" = none) (IBY : Fd CX0 P w K mg base "_is_byte" 2 (spByte K)) (EIC : Er0 K mg "InvalidCount") : FnOk P w K mg base (L2.CX P w) 3 f fd ["values"] (spPack K G L) := by
  refine F.okX scPackB (fun vs H Q E h => ?_) (fun cdv A outer s H vs Q E hr h => ?_)
  · obtain ⟨v, d, e, _⟩ := h
    rw [e]
    rfl
  · obtain ⟨v, d, e, hd, hl, qE, q⟩ := h
    subst e
    refine ⟨_, pss_cons (ps_if (PW.pt (pw_or (pt_not (pt_val (pe_callB call_isi rfl zI boot_isinstance (pa_cons (pv 0) (pa_cons (pe_bltn (v := .ty "list") rfl zl (by decide +kernel) rfl) pa_nil))))) (pw_or1 (pt_not (pt_val (pe_callB (r := rAll K) (cr_all rfl) rfl zA (by decide +kernel) (pa_cons (pe_lc (own := [("value", 1)]) (g := gName 1) (tt := tYes) rfl scPackB.nd (pi_list (pv 0))
            (blkOk_by (own := [("value", 1)]) (N := nPk) (sc := defScope sPackBytes) (by decide +kernel)) (fun _ _ _ _ _ => pg_name (i := 1) scPackB.nd rfl (.inl rfl)) (fun _ _ _ _ _ => pts_nil)
            (fun _ _ _ _ _ => (pe_fd (E := E0) IBY hr pass0 (pa_cons (pv 1) pa_nil)))) pa_nil)))))))
  (pss_one (ps_raise rfl (takes_of rfl rfl rfl rfl) (pmk_er0 EIC))) pss_nil)
(pss_one (ps_ret (pe_bytesOf rfl rfl zb (pv 0)))), ?_⟩
    repeat walk_at "rd"
    refine r_isi (m := "list") (Dp.kd hd) (by decide) ?_
    repeat walk_at "rd"
    have other : (tyOf d == "list" || (tyOf d == "bool" && "list" == "int")) = false → packD d = none := fun c => by
      cases d <;> first | rfl | exact absurd c (by simp [tyOf])
    refine r_if (fun c => ?_) (fun c => ?_)
    · have c' : (tyOf d == "list" || (tyOf d == "bool" && "list" == "int")) = false := by simpa using c
      repeat walk_at "rd"
      exact qE (other c') H (Go.refl H)
    · have c' : (tyOf d == "list" || (tyOf d == "bool" && "list" == "int")) = true := by simpa using c
      repeat walk_at "rd"
      cases hd with
      | @lst a xs ds hs hx =>
        have h2 := hl ds rfl
        have hxl := Dps.length hx
        refine lcL (a := a) (xs := xs) (fun R z => ⟨_, rfl, z⟩) hs (fun D i H1 => Go G L H H1 ∧ H1 D = some (.lst (((ds.take i).map byteD).map V.bl))) ?_ ?_ ?_ ?_
        · intro D hD
          exact ⟨Go.new hD, upd_same⟩
        · rintro D i H1 hD _ ⟨g1, _⟩
          exact sqL_goC g1.1 hs
        · rintro D i y H1 hD hy ⟨g1, eD⟩
          obtain ⟨dy, hdy, hy1⟩ := Dps.get hx hy
          refine r_gN ⟨rfl, r_yes ?_⟩
          repeat walk_at "rd"
          refine ⟨y, dy, rfl, Dp.go g1.1 hy1, ?_⟩
          refine ⟨_, eD, by rw [List.length_map, List.length_map, List.length_take, sizeLine_eq]; omega, g1.updNew hD eD, ?_⟩
          rw [upd_same, List.take_succ, hdy, List.map_append, List.map_append]
          rfl
        · rintro D H1 hD ⟨g1, eD⟩
          rw [hxl, List.take_length] at eD
          repeat walk_at "rd"
          refine ⟨D, ds.map byteD, rfl, .of eD, ?_⟩
          have e1 : (ds.map byteD).all id = ds.all byteD := by
            rw [List.all_map]
            rfl
          rw [e1]
          repeat walk_at "rd"
          refine r_if (fun c2 => ?_) (fun c2 => ?_)
          · have c3 : ds.all byteD = false := by simpa using c2
            repeat walk_at "rd"
            exact qE (by show (if ds.all byteD = true then _ else _) = none; rw [c3]; rfl) H1 g1
          · have c3 : ds.all byteD = true := by simpa using c2
            repeat walk_at "rd"
            have ex := dps_bytes hx c3
            show kByts K (.ref a) H1 Q
            refine Or.inr ⟨a, (ds.map natD).map fun (n : Nat) => (n : Int), rfl, ?_, ?_, ?_⟩
            · rw [← vN_ints, ← ex]
              exact sqL_goC g1.1 hs
            · intro n hn
              obtain ⟨m, hm, rfl⟩ := List.mem_map.mp hn
              obtain ⟨dd, hdd, rfl⟩ := List.mem_map.mp hm
              have z := List.all_eq_true.mp c3 dd hdd
              cases dd with
              | int i =>
                have z2 : (decide (0 ≤ i) && decide (i ≤ 255)) = true := z
                rw [Bool.and_eq_true] at z2
                have z3 := of_decide_eq_true z2.1
                have z4 := of_decide_eq_true z2.2
                show 0 ≤ ((i.toNat : Nat) : Int) ∧ ((i.toNat : Nat) : Int) < 256
                omega
              | _ => exact absurd z Bool.false_ne_true
            · exact q (ds.map natD) (by show (if ds.all byteD = true then _ else _) = _; rw [c3]; rfl) H1 g1
      | non => exact absurd c' (by simp [tyOf])
      | int i => exact absurd c' (by simp [tyOf])
      | bl b => exact absurd c' (by simp [tyOf])
      | str x => exact absurd c' (by simp [tyOf])
      | tup _ _ => exact absurd c' (by simp [tyOf])
theorem scUnpackB : FnScope ["data"] ["data"] (defScope sUnpackBytes) := C8.fnScope_by (by decide +kernel)
def spUnpack (K : PySem.W.Frag) : Sp := fun vs H Q _ => ∃ l : List Nat, vs = [.byt (bytN l)] ∧ (∀ n ∈ l, n ≤ 255) ∧ l.length ≤ 2000 ∧ ∀ p, H p = none → Q (.ref p) (upd H p (.lst (vN l)))
theorem ok_unpackB {f : Addr} {fd : FuncData} (F : Fun K "unpack_bytes" "unpack_bytes" sUnpackBytes f fd) (zl : mg "list" = none) : FnOk P w K mg base CX0 1 f fd ["data"] (spUnpack K) := by
  refine F.ok scUnpackB (fun vs H Q E h => ?_) (fun cdv A outer s H vs Q E hr h => ?_)
  · obtain ⟨l, e, _⟩ := h
    rw [e]
    rfl
  · obtain ⟨l, e, h255, hl, q⟩ := h
    subst e
    refine ⟨_, pss_one (ps_ret (pe_listOfB rfl rfl zl (pv 0))), ?_⟩
    repeat walk_at "rd"
    refine ⟨_, rfl, by rw [bytN_size, sizeLine_eq]; omega, fun p hp => ?_⟩
    rw [bytN_bi h255]
    exact q p hp
abbrev nCk : List Str := ["numbers", "checksum", "number"]
theorem scCheckB : FnScope nCk ["numbers"] (defScope sChecksum) := C8.fnScope_by (by decide +kernel)
def spCheck (K : PySem.W.Frag) : Sp := fun vs H Q _ => ∃ (a : Addr) (l : List Nat), vs = [.ref a] ∧ H a = some (.lst (vN l)) ∧ (∀ n ∈ l, n ≤ 255) ∧ ∀ (_ : True), Q (.int (ckN l : Nat)) H
theorem ok_checkB {f : Addr} {fd : FuncData} (F : Fun K "_checksum" "_checksum" sChecksum f fd) (zi : mg "int" = none) : FnOk P w K mg base CX0 1 f fd ["numbers"] (spCheck K) := by
  refine F.ok scCheckB (fun vs H Q E h => ?_) (fun cdv A outer s H vs Q E hr h => ?_)
  · obtain ⟨a, l, e, _⟩ := h
    rw [e]
    rfl
  · obtain ⟨a, l, e, ha, h255, q⟩ := h
    subst e
    refine ⟨_, pss_cons (ps_set (i := 1) scCheckB.nd rfl (Or.inl rfl) pe_int)
(pss_cons (ps_for PassesOwn.never rfl (pi_list (pv 0)) (pg_name (i := 2) scCheckB.nd rfl (.inl rfl))
  (pss_one (ps_set (i := 1) scCheckB.nd rfl (Or.inl rfl) (pe_op op_mod (pe_callTy c_int rfl zi boot_int (pa_cons (pe_op op_add (pe_op op_mul pe_int (pv 1)) (pv 2)) pa_nil)) pe_int))))
(pss_one (ps_ret (pv 1)))), ?_⟩
    repeat walk_at "rd"
    refine forL (a := a) (xs := vN l) (fun R z => ⟨_, rfl, z⟩) (.of ha) (fun i σ H' => ∃ x2, σ = [some (.ref a), some (.int (ckN (l.take i) : Nat)), x2] ∧ H' = H) ?_ ?_ ?_ ?_
    · exact ⟨none, rfl, rfl⟩
    · rintro i σ H' _ ⟨_, _, rfl⟩
      exact .of ha
    · rintro i y σ H' ey ⟨x2, rfl, rfl⟩
      unfold vN at ey
      rw [List.getElem?_map] at ey
      cases hz : l[i]? with
      | none => rw [hz] at ey; cases ey
      | some n =>
        rw [hz] at ey
        obtain rfl : y = .int (n : Nat) := (Option.some.inj ey).symm
        have h1 := ckN_lt (l.take i)
        have h2 := h255 n (List.mem_of_getElem? hz)
        refine r_gN ?_
        repeat walk_at "rd"
        refine r_I (.inl ⟨by decide, by decide⟩) ?_
        repeat walk_at "rd"
        refine r_I (by decide : (0 : Int) < 241) ?_
        repeat walk_at "rd"
        have e : (7 * ((ckN (l.take i) : Nat) : Int) + ((n : Nat) : Int)) % 241 = ((ckN (l.take (i + 1)) : Nat) : Int) := by
          rw [ckN_take hz]
          omega
        rw [e]
        exact ⟨_, rfl, rfl⟩
    · rintro σ H' ⟨x2, rfl, rfl⟩
      repeat walk_at "rd"
      rw [show (vN l).length = l.length from vN_len l, List.take_length]
      exact q trivial
end
section
variable {P : Program} {w : World} {K : PySem.W.Frag} {mg : Str → Option Value} {base : Heap} {G : List Addr} {L : List (Addr × Str)}
theorem LsAt.go {D : Addr} {H H' : Hp} {vs : List V} {ls : List (List Nat)} (h : LsAt D H vs ls) (g : Go G L H H') : LsAt D H' vs ls := ⟨h.1, fun i v e => by
  obtain ⟨p, l, e1, e2, e3, e4⟩ := h.2 i v e
  exact ⟨p, l, e1, e2, e3, g.lst e4⟩⟩
theorem LsAt.snoc {D : Addr} {H : Hp} {vs : List V} {ls : List (List Nat)} {p : Addr} {l : List Nat} (h : LsAt D H vs ls) (np : p ≠ D) (hp : H p = some (.lst (l.map fun i => V.int (i : Nat)))) : LsAt D H (vs ++ [V.ref p]) (ls ++ [l]) := ⟨by rw [List.length_append, List.length_append, h.1]; rfl, fun i v e => by
  by_cases hi : i < vs.length
  · rw [List.getElem?_append_left hi] at e
    obtain ⟨q, m, e1, e2⟩ := h.2 i v e
    exact ⟨q, m, by rw [List.getElem?_append_left (by rw [← h.1]; exact hi)]; exact e1, e2⟩
  · rw [List.getElem?_append_right (by omega)] at e
    have e0 : i - vs.length = 0 := by
      rcases Nat.eq_zero_or_pos (i - vs.length) with z | z
      · exact z
      · rw [List.getElem?_eq_none (by show 1 ≤ _; omega)] at e
        cases e
    rw [e0] at e
    cases e
    exact ⟨p, l, by rw [List.getElem?_append_right (by rw [← h.1]; omega), ← h.1, e0]; rfl, rfl, np, hp⟩⟩
theorem LsAt.dps {D : Addr} {H : Hp} : ∀ {vs : List V} {ls : List (List Nat)}, LsAt D H vs ls → DpAll K H vs (ls.map fun l => .list (l.map fun i => .int (i : Nat)))
  | [], [], _ => .nil
  | [], l :: ls, h => by have z := h.1; simp at z
  | v :: vs, [], h => by have z := h.1; simp at z
  | v :: vs, l :: ls, h => by
    obtain ⟨p, l', e1, rfl, _, e4⟩ := h.2 0 v rfl
    cases e1
    refine .cons (.lst (.of e4) (Ims.dp (ims_ints l))) (LsAt.dps (D := D) ⟨by have z := h.1; simpa using z, fun i x e => ?_⟩)
    obtain ⟨q, m, f1, f2⟩ := h.2 (i + 1) x (by simpa using e)
    exact ⟨q, m, by simpa using f1, f2⟩
end
section
variable {P : Program} {w : World} {K : PySem.W.Frag} {mg : Str → Option Value} {base : Heap} {G : List Addr} {L : List (Addr × Str)}
theorem told5_to {X : Cx} {g : Addr} {cdg : Value} {q : Str} (R : Rz5 X.K X.mg) : LamX.GivesTo X nTold "_law_told" (defScope sTold) g cdg (defBody sTold) "_law_work" q (TR5 X.K G L) :=
  fun f c' s H Q tl act hc h => told5_gives R f (fun H0 => H0 c' = some (LamX.CodeO c' q)) s H Q tl act hc h
structure TzD (K : PySem.W.Frag) (mg : Str → Option Value) : Prop where
  rz : Rz5 K mg
  ex : ∃ (g : Addr) (fd : FuncData), Fun K "_law_told" "_law_told" sTold g fd ∧ mg "_law_told" = some (.ref g) ∧ Binds K fd ["_law_work"] []
theorem pe_told {X : Cx} {c Pn : Addr} {k j : Nat} {params : Arguments} {body : Expr} {sc : Scope} {t : XK → TE} {p lpos pos : Pos} (C : TzD X.K X.mg) (TB : LamX.TabB X.base X.mg c Pn) (hcode : X.env.code = .ref c) (hr : Room j X.A) (Lm : LamX.LamS X.env.scope sc)
    (hbody : ∀ (A : Around) (outer : List Env) (s : Shared) (H : Hp) (E : XK) (f c' : Addr), Room k (A.deeper (LamX.lamEnv X sc s.heap.objs.size f c')) → PE (LamX.lamCx X A outer s H E sc f c') body (t E))
    (hk : k + 2 ≤ j := by decide) (hg : Gl X "_law_told" := by rfl) (hdef : defaultsOf params X.env = ([], []) := by rfl)
    (hbind : ∀ (q : Str) (cl : List (Str × Addr)) (pm cv ctv : Value), bindArgs (PySem.W.kla_fn "<lambda>" q params body sc cl pm cv ctv) ⟨[], []⟩ = pure [] := by intro _ _ _ _ _; rfl) :
    PE X (.Call (.Name "_law_told" p) [.Lambda params body sc lpos] [] pos) (tLamS Pn (X.env.qual ++ "<lambda>") (TR5 X.K G L) t) := by
  obtain ⟨g, fd, F, hm, b⟩ := C.ex
  obtain ⟨oc, od, kV, doc, pm, an, cdv, ct, osl, efd, lk, hcd⟩ := F.ex
  subst efd
  exact pe_lamS hg hm F.kp lk hcd b scTold rfl (.inl rfl) (told5_to C.rz) TB hcode (hr.mono hk) Lm hdef hbind hbody
theorem r_toldL {σ : L2.St} {H : Hp} {Q : VK} {Pn : Addr} {q : Str} {t : XK → TE} (A : Apart G L) (hp : (Pn, q) ∈ L) (ht : TBS G L H)
    (h : ∀ H1, Go G L H H1 → t (fun cls d H' => ∃ D, Told5 K cls d H' D ∧ ∀ v H2, Go G L H' H2 → Im H2 v D → Q v H2) σ H1 Q) : tLamS Pn q (TR5 K G L) t σ H Q :=
  ⟨ht.2 _ hp, fun H1 e ts => h H1 (Go.but A hp ht e ts)⟩
theorem pe_fdL {X : Cx} {A : Around} {outer : List Env} {s : Shared} {H : Hp} {E : XK} {sc : Scope} {fL c' : Addr} {j : Nat} {x : Str} {k : Nat} {sp : Sp} {e : Expr} {es : List Expr} {t : TA} {p pos : Pos} (c : Fd (L2.CX X.prog X.w) X.prog X.w X.K X.mg X.base x k sp) (hr : Room j (A.deeper (LamX.lamEnv X sc s.heap.objs.size fL c'))) (ha : PA (LamX.lamCx X A outer s H E sc fL c') (e :: es) t) (hk : k ≤ j := by decide) (hg : Gl (LamX.lamCx X A outer s H E sc fL c') x := by rfl)
    (hd : (x == ("__debug__" : Str)) = false := by decide) (he : starEach (e :: es) (LamX.lamCx X A outer s H E sc fL c').env = (false, eval e (LamX.lamCx X A outer s H E sc fL c').env) :: starEach es (LamX.lamCx X A outer s H E sc fL c').env := by rfl) (hpl : (backTo pos (starEach es (LamX.lamCx X A outer s H E sc fL c').env)).any (·.1) = false := by rfl) :
    PE (LamX.lamCx X A outer s H E sc fL c') (.Call (.Name x p) (e :: es) [] pos) (tCall sp [] E t) :=
  pe_fd (X := LamX.lamCx X A outer s H E sc fL c') c hr (passes_call (takes_of rfl rfl rfl rfl) fun _ _ _ _ z => z) ha hk hg hd he hpl
end
section
variable {P : Program} {w : World} {K : PySem.W.Frag} {mg : Str → Option Value} {base : Heap} {G : List Addr} {L : List (Addr × Str)}
def clD (w a b : Str) : PyData := .tuple [.str w, .str a, .str b]
theorem im_cl {H : Hp} {p : Addr} {w a b : Str} (h : H p = some (.tup [.str w, .str a, .str b])) : Im H (.ref p) (clD w a b) := .tup (.inl h) (.cons (.str _) (.cons (.str _) (.cons (.str _) .nil)))
theorem r_extend {H : Hp} {Q : VK} {D b : Addr} {xs zs : List V} (hD : H D = some (.lst xs)) (hb : H b = some (.lst zs)) (hl : xs.length + zs.length ≤ 5000) (q : Q .non (upd H D (.lst (xs ++ zs)))) : rExtend (.ref D) [.ref b] H Q :=
  ⟨D, b, xs, zs, rfl, rfl, hD, hb, Nat.le_trans hl (by decide), q⟩
end
local macro_rules | `(tactic| walk_at "rs") => `(tactic| first | (with_reducible refine r_tM1 ?_) | walk_at "rd")
def rSix : V → List V → Hp → VK → Prop := fun x xs H Q => ∃ a b i rest, x = .str a ∧ xs = [.str b] ∧ Builtin.Str.occurrences a b 0 a.length 1 = i :: rest ∧ Q (.int (i : Nat)) H
theorem mt_six {X : Cx} : MtR X "str.index" rSix := mt_sindex
theorem lcStr {σ : L2.St} {H : Hp} {Q : VK} {te : TE} {g : TG} {tt : TT} {el : TE} {vs : List Nat} {z : Str} (he : ∀ R : VK, R (.str z) H → te σ H R) (Pv : Addr → Nat → Hp → Prop)
    (h0 : ∀ D, H D = none → Pv D 0 (upd H D (.lst [])))
    (hs : ∀ D i c H1, H D = none → z.cps[i]? = some c → Pv D i H1 → g (.str ⟨#[c]⟩) (wipe σ vs) H1 fun σ2 H2 => wipe σ2 vs = wipe σ vs ∧ tt σ2 H2 fun b H3 =>
      if b = true then el σ2 H3 fun y H4 => ∃ acc, H4 D = some (.lst acc) ∧ acc.length < sizeLine ∧ Pv D (i + 1) (upd H4 D (.lst (acc ++ [y]))) else Pv D (i + 1) H3) (hd : ∀ D H', H D = none → Pv D z.cps.size H' → Q (.ref D) H') : tLc (iStr te) g tt el vs σ H Q := by
  refine r_lcI (fun R y => he _ ⟨z, rfl, y⟩) walk_str Pv h0 (fun _ _ _ _ _ _ => trivial) ?_ hd
  rintro D i x H1 H2 hD hi p ⟨eH, c, ec, ex⟩
  rw [eH, ex]
  exact hs D i c H1 hD ec p
/-- a letter's number -/
def lixN (c : Nat) : Nat := letters.cps.toList.idxOf c
theorem lix_occ : ∀ c ∈ letters.cps.toList, Builtin.Str.occurrences letters ⟨#[c]⟩ 0 letters.length 1 = [lixN c] := by decide +kernel
theorem lix_lt : ∀ c ∈ letters.cps.toList, lixN c < 26 := by decide +kernel
theorem idx_at : ∀ {ys : List Str} {z : Str}, z ∈ ys → ys[ys.idxOf z]? = some z ∧ ∀ m, m < ys.idxOf z → ys[m]? ≠ some z
  | [], _, h => by cases h
  | y :: ys, z, h => by
    rw [List.idxOf_cons]
    by_cases c : y = z
    · subst c
      refine ⟨by simp, fun m hm => ?_⟩
      simp at hm
    · have e : (y == z) = false := by simpa using c
      rw [e]
      obtain ⟨a, b⟩ := idx_at (ys := ys) (z := z) ((List.mem_cons.mp h).resolve_left fun q => c q.symm)
      refine ⟨by simpa using a, fun m hm => ?_⟩
      cases m with
      | zero => simpa using c
      | succ m =>
        have hm' : m < ys.idxOf z := by simpa using hm
        simpa using b m hm'
theorem idx_lt {ys : List Str} {z : Str} (h : z ∈ ys) : ys.idxOf z < ys.length := (List.getElem?_eq_some_iff.mp (idx_at h).1).1
def wordsL : List Str := ["needs", "excludes", "either"]
def wordI (w : Str) : Nat := wordsL.idxOf w
theorem word_mem {w : Str} (h : isWord w) : w ∈ wordsL := by
  rcases h with rfl | rfl | rfl <;> decide +kernel
theorem word_lt {w : Str} (h : isWord w) : wordI w < 3 := idx_lt (word_mem h)
/-- the numbers of a name, of names -/
def nmN (z : Str) : List Nat := z.length :: z.cps.toList.map lixN
def nmsN (ns : List Str) : List Nat := ns.length :: ns.flatMap nmN
def clN (ns : List Str) : PyData → List Nat
  | .tuple [.str w, .str a, .str b] => [wordI w, ns.idxOf a, ns.idxOf b]
  | _ => []
def clauN (ns : List Str) (cd : List PyData) : List Nat := cd.length :: cd.flatMap (clN ns)
def stN (s ns : List Str) : Nat := ns.foldl (fun n z => 2 * n + (if z ∈ s then 1 else 0)) 0
theorem stN_snoc (s l : List Str) (z : Str) : stN s (l ++ [z]) = 2 * stN s l + (if z ∈ s then 1 else 0) := by
  unfold stN
  rw [List.foldl_append]
  rfl
theorem stN_lt (s : List Str) : ∀ (n : Nat) (l : List Str), l.length = n → stN s l < 2 ^ n
  | 0, l, h => by
    rw [List.length_eq_zero_iff.mp h]
    show (0 : Nat) < 1
    decide
  | n + 1, l, h => by
    rcases List.eq_nil_or_concat l with rfl | ⟨m, z, rfl⟩
    · cases h
    · rw [List.concat_eq_append] at h ⊢
      rw [List.length_append] at h
      have e := stN_lt s n m (by simpa using h)
      rw [stN_snoc, Nat.pow_succ]
      split <;> omega
def stsN (ns s : List Str) : List Nat := [stN s ns / 256, stN s ns % 256]
def rollN (ns : List Str) (cd : List PyData) (s cs : List Str) : List Nat := (((([70] ++ nmsN ns) ++ clauN ns cd) ++ stsN ns s) ++ [cs.length]) ++ cs.map ns.idxOf
def closedN (l : List Nat) : List Nat := l ++ [ckN l]
theorem lets_of {z : Str} (h : nameOk (.str z) = true) : z.length ≤ 8 ∧ ∀ c ∈ z.cps.toList, c ∈ letters.cps.toList := by
  have h' : (decide (1 ≤ (z.length : Int)) && decide ((z.length : Int) ≤ 8) && z.cps.toList.all fun c => decide (c ∈ letters.cps.toList)) = true := h
  rw [Bool.and_eq_true, Bool.and_eq_true] at h'
  obtain ⟨⟨_, h2⟩, h3⟩ := h'
  have := of_decide_eq_true h2
  exact ⟨by omega, fun c hc => of_decide_eq_true (List.all_eq_true.mp h3 c hc)⟩
theorem nmN_ok {z : Str} (h : nameOk (.str z) = true) : (nmN z).length ≤ 9 ∧ ∀ n ∈ nmN z, n ≤ 255 := by
  obtain ⟨h1, h2⟩ := lets_of h
  refine ⟨?_, fun n hn => ?_⟩
  · show (z.cps.toList.map lixN).length + 1 ≤ 9
    rw [List.length_map, Array.length_toList]
    have : z.cps.size ≤ 8 := h1
    omega
  · rcases List.mem_cons.mp hn with rfl | hn
    · omega
    · obtain ⟨c, hc, rfl⟩ := List.mem_map.mp hn
      have := lix_lt c (h2 c hc)
      omega
theorem flat_len {α : Type} {f : α → List Nat} {k : Nat} : ∀ {l : List α}, (∀ a ∈ l, (f a).length ≤ k) → (l.flatMap f).length ≤ l.length * k
  | [], _ => Nat.zero_le _
  | a :: l, h => by
    have z := flat_len (f := f) (k := k) (l := l) fun b hb => h b (List.mem_cons_of_mem _ hb)
    have z1 := h a List.mem_cons_self
    rw [List.flatMap_cons, List.length_append, List.length_cons, Nat.add_mul]
    omega
theorem nmsN_ok {ns : List Str} (gn : GoodN ns) (h : ns.length ≤ 10) : (nmsN ns).length ≤ 91 ∧ ∀ n ∈ nmsN ns, n ≤ 255 := by
  refine ⟨?_, fun n hn => ?_⟩
  · have z := flat_len (f := nmN) (k := 9) (l := ns) fun z hz => (nmN_ok (gn.al z hz).1).1
    show (ns.flatMap nmN).length + 1 ≤ 91
    omega
  · rcases List.mem_cons.mp hn with rfl | hn
    · omega
    · obtain ⟨z, hz, hn⟩ := List.mem_flatMap.mp hn
      exact (nmN_ok (gn.al z hz).1).2 n hn
theorem clN_eq {ns : List Str} {d : PyData} (h : ClD ns d) : ∃ w a b, d = .tuple [.str w, .str a, .str b] ∧ clN ns d = [wordI w, ns.idxOf a, ns.idxOf b] ∧ isWord w ∧ a ∈ ns ∧ b ∈ ns := by
  obtain ⟨w, a, b, rfl, h1, h2, h3⟩ := h
  exact ⟨w, a, b, rfl, rfl, h1, h2, h3⟩
theorem clauN_ok {ns : List Str} {cd : List PyData} (hc : ∀ d ∈ cd, ClD ns d) (h : ns.length ≤ 10) (hl : cd.length ≤ 40) : (clauN ns cd).length ≤ 121 ∧ ∀ n ∈ clauN ns cd, n ≤ 255 := by
  refine ⟨?_, fun n hn => ?_⟩
  · have z := flat_len (f := clN ns) (k := 3) (l := cd) fun d hd => by
      obtain ⟨w, a, b, _, e, _⟩ := clN_eq (hc d hd)
      rw [e]
      exact Nat.le_refl 3
    show (cd.flatMap (clN ns)).length + 1 ≤ 121
    omega
  · rcases List.mem_cons.mp hn with rfl | hn
    · omega
    · obtain ⟨d, hd, hn⟩ := List.mem_flatMap.mp hn
      obtain ⟨w, a, b, _, e, hw, ha, hb⟩ := clN_eq (hc d hd)
      rw [e] at hn
      have h1 := word_lt hw
      have h2 := idx_lt ha
      have h3 := idx_lt hb
      simp only [List.mem_cons, List.not_mem_nil, or_false] at hn
      omega
theorem stsN_ok {ns s : List Str} (h : ns.length ≤ 10) : ∀ n ∈ stsN ns s, n ≤ 255 := fun n hn => by
  have z := stN_lt s ns.length ns rfl
  have z2 : 2 ^ ns.length ≤ 2 ^ 10 := Nat.pow_le_pow_right (by decide) h
  simp only [stsN, List.mem_cons, List.not_mem_nil, or_false] at hn
  omega
theorem rollN_ok {ns : List Str} {cd : List PyData} {s cs : List Str} (gn : GoodN ns) (h : ns.length ≤ 10) (hc : ∀ d ∈ cd, ClD ns d) (hl : cd.length ≤ 40) (hcs : ∀ z ∈ cs, z ∈ ns) (h200 : cs.length ≤ 200) : (rollN ns cd s cs).length ≤ 500 ∧ ∀ n ∈ rollN ns cd s cs, n ≤ 255 := by
  obtain ⟨a1, a2⟩ := nmsN_ok gn h
  obtain ⟨b1, b2⟩ := clauN_ok hc h hl
  refine ⟨?_, fun n hn => ?_⟩
  · show ((((([70] ++ nmsN ns) ++ clauN ns cd) ++ stsN ns s) ++ [cs.length]) ++ cs.map ns.idxOf).length ≤ 500
    rw [List.length_append, List.length_append, List.length_append, List.length_append, List.length_append, List.length_map, List.length_singleton, List.length_singleton, show (stsN ns s).length = 2 from rfl]
    omega
  · rcases List.mem_append.mp hn with hn | hn
    · rcases List.mem_append.mp hn with hn | hn
      · rcases List.mem_append.mp hn with hn | hn
        · rcases List.mem_append.mp hn with hn | hn
          · rcases List.mem_append.mp hn with hn | hn
            · rw [List.mem_singleton.mp hn]
              decide
            · exact a2 n hn
          · exact b2 n hn
        · exact stsN_ok h n hn
      · rw [List.mem_singleton.mp hn]
        omega
    · obtain ⟨z, hz, rfl⟩ := List.mem_map.mp hn
      have := idx_lt (hcs z hz)
      omega
theorem closedN_ok {l : List Nat} (h : l.length ≤ 500) (h2 : ∀ n ∈ l, n ≤ 255) : (closedN l).length ≤ 501 ∧ ∀ n ∈ closedN l, n ≤ 255 := by
  refine ⟨?_, fun n hn => ?_⟩
  · show (l ++ [ckN l]).length ≤ 501
    rw [List.length_append]
    show _ + 1 ≤ 501
    omega
  · rcases List.mem_append.mp hn with hn | hn
    · exact h2 n hn
    · rw [List.mem_singleton.mp hn]
      have := ckN_lt l
      omega
theorem ktU {H : Hp} {p : Addr} {xs ys : List V} (h : H p = some (.lst xs)) : KT H (upd H p (.lst ys)) := fun b o n1 n2 e => by
  by_cases c : b = p
  · subst c
    rw [h] at e
    exact absurd (Option.some.inj e).symm (n1 xs)
  · rw [upd_ne c]
    exact e
theorem im_clD {H : Hp} {v : V} {w a b : Str} (h : Im H v (.tuple [.str w, .str a, .str b])) : ∃ T, v = .ref T ∧ Tp H T [.str w, .str a, .str b] := by
  cases h with
  | tup hT hx =>
    cases hx with
    | cons h1 hx =>
      cases h1
      cases hx with
      | cons h2 hx =>
        cases h2
        cases hx with
        | cons h3 hx =>
          cases h3
          cases hx
          exact ⟨_, rfl, hT⟩
section
variable {P : Program} {w : World} {K : PySem.W.Frag} {mg : Str → Option Value} {base : Heap} {G : List Addr} {L : List (Addr × Str)}
theorem r_tix {σ : L2.St} {H : Hp} {Q : VK} {p : Addr} {ys : List Str} {z : Str} (h : SqT K H p (ys.map V.str)) (hz : z ∈ ys) (q : Q (.int (ys.idxOf z : Nat)) H) : rTix K (.ref p) [.str z] H Q :=
  ⟨p, ys, z, _, rfl, rfl, h, (idx_at hz).1, (idx_at hz).2, q⟩
theorem r_six {H : Hp} {Q : VK} {c : Nat} (h : c ∈ letters.cps.toList) (q : Q (.int (lixN c : Nat)) H) : rSix (.str letters) [.str ⟨#[c]⟩] H Q :=
  ⟨letters, ⟨#[c]⟩, lixN c, [], rfl, rfl, lix_occ c h, q⟩
abbrev nNn : List Str := ["names", "numbers", "name", "letter"]
theorem scNumN : FnScope nNn ["names"] (defScope sNumNames) := C8.fnScope_by (by decide +kernel)
def spNumN (K : PySem.W.Frag) (G : List Addr) (L : List (Addr × Str)) : Sp := fun vs H Q _ => ∃ (an : Addr) (ns : List Str), vs = [.ref an] ∧ Tp H an (ns.map V.str) ∧ GoodN ns ∧ ns.length ≤ 10 ∧
  ∀ D H', H D = none → Go G L H H' → H' D = some (.lst (vN (nmsN ns))) → Q (.ref D) H'
theorem ok_numN {f : Addr} {fd : FuncData} {tz : Tok} (F : Fun K "_numbers_of_names" "_numbers_of_names" sNumNames f fd) (zL : mg "len" = none) (gL : mg "LETTERS" = some (.str letters tz)) : FnOk P w K mg base CX0 1 f fd ["names"] (spNumN K G L) := by
  refine F.ok scNumN (fun vs H Q E h => ?_) (fun cdv A outer s H vs Q E hr h => ?_)
  · obtain ⟨a, l, e, _⟩ := h
    rw [e]
    rfl
  · obtain ⟨an, ns, e, hn, gn, n10, q⟩ := h
    subst e
    refine ⟨_, pss_cons (ps_set (i := 1) scNumN.nd rfl (Or.inl rfl) (pe_lst (pa_cons (pe_callB (r := cLen K) c_len rfl zL boot_len (pa_cons (pv 0) pa_nil)) pa_nil)))
(pss_cons (ps_for PassesOwn.never rfl (pi_tup (pv 0)) (pg_name (i := 2) scNumN.nd rfl (.inl rfl))
  (pss_cons (ps_expr (pe_bm PySem.F.plainAttrs_list PySem.F.slot_list_append PySem.F.type_list_append mt_append (pv 1) (pa_cons (pe_callB (r := cLenS) c_lenS rfl zL boot_len (pa_cons (pv 2) pa_nil)) pa_nil)))
  (pss_one (ps_expr (pe_bm PySem.F.plainAttrs_list PySem.F.slot_list_extend PySem.F.type_list_extend mt_extend (pv 1) (pa_cons (pe_lc (own := [("letter", 3)]) (g := gName 3) (tt := tYes) rfl scNumN.nd (pi_str (pv 2))
            (blkOk_by (own := [("letter", 3)]) (N := nNn) (sc := defScope sNumNames) (by decide +kernel)) (fun _ _ _ _ _ => pg_name (i := 3) scNumN.nd rfl (.inl rfl)) (fun _ _ _ _ _ => pts_nil)
            (fun _ _ _ _ _ => show PE _ _ (tM1 rSix _ _) from pe_m1 PySem.F.slot_str_index PySem.F.type_str_index mt_six (pe_glob (v := .str letters) rfl gL ⟨_, rfl⟩) (pv 3))) pa_nil))))))
(pss_one (ps_ret (pv 1)))), ?_⟩
    repeat walk_at "rs"
    refine r_lenT hn.seq ?_
    repeat walk_at "rs"
    refine ⟨by show 1 ≤ sizeLine; decide, fun p1 n1 => ?_⟩
    generalize hH : upd _ p1 _ = H1; obtain ⟨k1, e1⟩ := new_facts hH n1; clear hH
    have g1 : Go G L H H1 := Go.same k1
    refine forT (a := an) (xs := ns.map V.str) (fun R z => ⟨_, rfl, z⟩) (hn.kt g1.kt).seq (fun i σ H' => ∃ x2, σ = [some (.ref an), some (.ref p1), x2, none] ∧ Go G L H H' ∧ H' p1 = some (.lst (vN (ns.length :: (ns.take i).flatMap nmN)))) ?_ ?_ ?_ ?_
    · refine ⟨none, rfl, g1, ?_⟩
      rw [e1, List.length_map]
      rfl
    · rintro i σ H' _ ⟨_, _, g, _⟩
      exact (hn.kt g.kt).seq
    · rintro i y σ H' ey ⟨x2, rfl, g, e⟩
      rw [List.getElem?_map] at ey
      cases hz : ns[i]? with
      | none => rw [hz] at ey; cases ey
      | some z =>
        rw [hz] at ey
        obtain rfl : y = .str z := (Option.some.inj ey).symm
        obtain ⟨z8, zl⟩ := lets_of (gn.al z (List.mem_of_getElem? hz)).1
        have hfl : ((ns.take i).flatMap nmN).length ≤ 90 := by
          have zz := flat_len (f := nmN) (k := 9) (l := ns.take i) fun z hz => (nmN_ok (gn.al z (List.mem_of_mem_take hz)).1).1
          rw [List.length_take] at zz
          have := Nat.min_le_right i ns.length
          have : min i ns.length * 9 ≤ 90 := by omega
          omega
        refine r_gN ?_
        repeat walk_at "rs"
        refine ⟨.inl ⟨rfl, _, .of e⟩, ?_⟩
        repeat walk_at "rs"
        refine r_lenS (by rw [sizeLine_eq]; omega) ?_
        repeat walk_at "rs"
        refine r_append e (by rw [vN_len, List.length_cons]; omega) ?_
        have g2 := g.updNew (ys := vN (ns.length :: (ns.take i).flatMap nmN) ++ [V.int (z.length : Nat)]) n1 e
        have e2 : upd H' p1 (.lst (vN (ns.length :: (ns.take i).flatMap nmN) ++ [V.int (z.length : Nat)])) p1 = some (.lst (vN (ns.length :: (ns.take i).flatMap nmN) ++ [V.int (z.length : Nat)])) := upd_same
        generalize upd H' p1 (.lst (vN (ns.length :: (ns.take i).flatMap nmN) ++ [V.int (z.length : Nat)])) = H2 at g2 e2 ⊢
        repeat walk_at "rs"
        refine ⟨.inl ⟨rfl, _, .of e2⟩, ?_⟩
        repeat walk_at "rs"
        refine lcStr (z := z) (fun R y => ⟨_, rfl, y⟩) (fun D j H3 => Go G L H2 H3 ∧ H3 D = some (.lst (vN ((z.cps.toList.take j).map lixN)))) ?_ ?_ ?_
        · intro D hD
          exact ⟨Go.new hD, upd_same⟩
        · rintro D j c H3 hD hc ⟨g3, e3⟩
          rw [← Array.getElem?_toList] at hc
          refine r_gN ⟨rfl, r_yes ?_⟩
          repeat walk_at "rs"
          refine ⟨⟨_, rfl⟩, ?_⟩
          repeat walk_at "rs"
          refine r_six (zl c (List.mem_of_getElem? hc)) ⟨_, e3, by rw [vN_len, List.length_map, List.length_take, Array.length_toList, sizeLine_eq]; have : z.cps.size ≤ 8 := z8; omega, g3.updNew hD e3, ?_⟩
          rw [upd_same, List.take_succ, hc, List.map_append, vN_app]
          rfl
        · rintro D H3 hD ⟨g3, e3⟩
          rw [show z.cps.size = z.cps.toList.length from (Array.length_toList ..).symm, List.take_length] at e3
          repeat walk_at "rs"
          have e4 := g3.lst e2
          have hz8 : z.cps.toList.length ≤ 8 := by
            rw [Array.length_toList]
            exact z8
          refine r_extend e4 e3 (by rw [List.length_append, vN_len, vN_len, List.length_map, List.length_cons]; show _ + 1 + _ ≤ 5000; omega) ?_
          refine ⟨_, rfl, (g2.trans g3).updNew n1 e4, ?_⟩
          rw [upd_same, List.take_succ, hz, List.flatMap_append]
          congr 2
          unfold vN nmN
          simp
    · rintro σ H' ⟨x2, rfl, g, e⟩
      rw [List.length_map, List.take_length] at e
      repeat walk_at "rs"
      exact q p1 H' n1 g e
abbrev nNc : List Str := ["rules", "numbers", "word", "first", "second"]
theorem scNumC : FnScope nNc ["rules"] (defScope sNumClauses) := C8.fnScope_by (by decide +kernel)
def spNumC (K : PySem.W.Frag) (G : List Addr) (L : List (Addr × Str)) : Sp := fun vs H Q _ => ∃ (x : Addr) (ns : List Str) (cd : List PyData), vs = [.ref x] ∧ RulesAt K H x ns cd ∧ (∀ d ∈ cd, ClD ns d) ∧ cd.length ≤ 40 ∧
  ∀ D H', H D = none → Go G L H H' → H' D = some (.lst (vN (clauN ns cd))) → Q (.ref D) H'
theorem ok_numC {f : Addr} {fd : FuncData} {aW : Addr} (F : Fun K "_numbers_of_clauses" "_numbers_of_clauses" sNumClauses f fd) (zL : mg "len" = none) (FN : Fp P w K mg base "names" "_names") (FCL : Fp P w K mg base "clauses" "_clauses") (gW : mg "WORDS" = some (.ref aW)) (hW : ∀ H, SqT K H aW [.str "needs", .str "excludes", .str "either"]) (hWd : ∃ o, K.lookup aW = some o ∧ o.cls = .type "tuple" ∧ o.dict = none) :
    FnOk P w K mg base CX0 3 f fd ["rules"] (spNumC K G L) := by
  refine F.ok scNumC (fun vs H Q E h => ?_) (fun cdv A outer s H vs Q E hr h => ?_)
  · obtain ⟨a, l, cd, e, _⟩ := h
    rw [e]
    rfl
  · obtain ⟨x, ns, cd, e, RA, hcl, h40, q⟩ := h
    subst e
    refine ⟨_, pss_cons (ps_set (i := 1) scNumC.nd rfl (Or.inl rfl) (pe_lst (pa_cons (pe_callB (r := cLen K) c_len rfl zL boot_len (pa_cons (pe_fp FCL hr (pv 0)) pa_nil)) pa_nil)))
(pss_cons (ps_for PassesOwn.never rfl (pi_tup (pe_fp FCL hr (pv 0))) (pg_tup rfl (pgs_cons (pg_name (i := 2) scNumC.nd rfl (.inl rfl)) (pgs_cons (pg_name (i := 3) scNumC.nd rfl (.inl rfl)) (pgs_cons (pg_name (i := 4) scNumC.nd rfl (.inl rfl)) pgs_nil))))
  (pss_one (ps_expr (pe_bm PySem.F.plainAttrs_list PySem.F.slot_list_extend PySem.F.type_list_extend mt_extend (pv 1) (pa_cons (pe_lst (pa_cons (pe_bm (r := rTix K) PySem.F.plainAttrs_tuple PySem.F.slot_tuple_index PySem.F.type_tuple_index mt_tix (pe_glob (v := .ref aW) rfl gW rfl) (pa_cons (pv 2) pa_nil)) (pa_cons (pe_tm (r := rTix K) PySem.F.plainAttrs_tuple PySem.F.slot_tuple_index PySem.F.type_tuple_index mt_tix (pe_fp FN hr (pv 0)) (pa_cons (pv 3) pa_nil)) (pa_cons (pe_tm (r := rTix K) PySem.F.plainAttrs_tuple PySem.F.slot_tuple_index PySem.F.type_tuple_index mt_tix (pe_fp FN hr (pv 0)) (pa_cons (pv 4) pa_nil)) pa_nil)))) pa_nil)))))
(pss_one (ps_ret (pv 1)))), ?_⟩
    repeat walk_at "rs"
    refine r_pclauses (fun R z => ⟨_, rfl, z⟩) RA fun ac cs hac hcs => ?_
    have hcsl := hcs.length
    repeat walk_at "rs"
    refine r_lenT hac.seq ?_
    repeat walk_at "rs"
    refine ⟨by show 1 ≤ sizeLine; decide, fun p1 n1 => ?_⟩
    generalize hH : upd _ p1 _ = H1; obtain ⟨k1, e1⟩ := new_facts hH n1; clear hH
    have g1 : Go G L H H1 := Go.same k1
    refine forTg (fun a0 H0 => H0 = H1 ∧ ∃ cs, Tp H1 a0 cs ∧ Ims H1 cs cd) (fun R z => ?_) ?_
    · exact r_pclauses (fun R z => ⟨_, rfl, z⟩) (RA.kt g1.kt) fun a2 c2 h2 h3 => z a2 H1 ⟨rfl, c2, h2, h3⟩
    rintro a0 H0 ⟨rfl, ds, hds, hims⟩
    have hdl := hims.length
    refine ⟨ds, hds.seq, fun i σ H' => ∃ x2 x3 x4, σ = [some (.ref x), some (.ref p1), x2, x3, x4] ∧ Go G L H H' ∧ Tp H' a0 ds ∧ Ims H' ds cd ∧ H' p1 = some (.lst (vN (cd.length :: (cd.take i).flatMap (clN ns)))), ?_, ?_, ?_, ?_⟩
    · refine ⟨none, none, none, rfl, g1, hds, hims, ?_⟩
      rw [e1, hcsl]
      rfl
    · rintro i σ H' _ ⟨_, _, _, _, _, h, _⟩
      exact h.seq
    · rintro i y σ H' ey ⟨x2, x3, x4, rfl, g, h0, hi, e⟩
      obtain ⟨d, hd, hy⟩ := hi.get ey
      obtain ⟨w0, a, b, rfl, ec, hw, ha, hb⟩ := clN_eq (hcl d (List.mem_of_getElem? hd))
      obtain ⟨T, rfl, hT⟩ := im_clD hy
      have hil := (List.getElem?_eq_some_iff.mp hd).1
      have hfl : ((cd.take i).flatMap (clN ns)).length ≤ 120 := by
        have zz := flat_len (f := clN ns) (k := 3) (l := cd.take i) fun d hd => by
          obtain ⟨w, a, b, _, e, _⟩ := clN_eq (hcl d (List.mem_of_mem_take hd))
          rw [e]
          exact Nat.le_refl 3
        rw [List.length_take] at zz
        omega
      refine g_three hT.seq ?_
      repeat walk_at "rs"
      refine ⟨.inl ⟨rfl, _, .of e⟩, ?_⟩
      repeat walk_at "rs"
      refine ⟨.inr (.inl ⟨rfl, hWd⟩), ?_⟩
      repeat walk_at "rs"
      refine r_tix (σ := []) (ys := wordsL) (hW H') (word_mem hw) ?_
      repeat walk_at "rs"
      refine r_pnames (fun R z => ⟨_, rfl, z⟩) (RA.kt g.kt) fun an han => ⟨⟨an, _, rfl, han⟩, ?_⟩
      repeat walk_at "rs"
      refine r_tix (σ := []) han.tp.seq ha ?_
      repeat walk_at "rs"
      refine r_pnames (fun R z => ⟨_, rfl, z⟩) (RA.kt g.kt) fun an han => ⟨⟨an, _, rfl, han⟩, ?_⟩
      repeat walk_at "rs"
      refine r_tix (σ := []) han.tp.seq hb ?_
      repeat walk_at "rs"
      refine ⟨by show 3 ≤ sizeLine; decide, fun p2 n2 => ?_⟩
      generalize hH : upd _ p2 _ = H2; obtain ⟨k2, e2⟩ := new_facts hH n2; clear hH
      have g2 : Go G L H' H2 := Go.same k2
      repeat walk_at "rs"
      have e3 := g2.lst e
      refine r_extend e3 e2 (by rw [vN_len, List.length_cons]; show _ + 1 + 3 ≤ 5000; omega) ?_
      have k4 := ktU (ys := vN (cd.length :: (cd.take i).flatMap (clN ns)) ++ [V.int (wordI w0 : Nat), V.int (ns.idxOf a : Nat), V.int (ns.idxOf b : Nat)]) e3
      refine ⟨_, _, _, rfl, (g.trans g2).updNew n1 e3, (h0.kt g2.kt).kt k4, (hi.kt g2.kt).kt k4, ?_⟩
      rw [upd_same, List.take_succ, hd, List.flatMap_append]
      congr 2
      unfold vN
      simp [ec, wordI]
    · rintro σ H' ⟨x2, x3, x4, rfl, g, _, _, e⟩
      rw [hdl, List.take_length] at e
      repeat walk_at "rs"
      exact q p1 H' n1 g e
end
theorem num1000 : ∀ i : Nat, i ≤ 999 → (Str.ofString (toString ((i : Nat) : Int))).length ≤ 20 ∧ ((i : Nat) : Int).natAbs.log2 < 1920 := by
  intro i hi
  have key : ∀ i : Fin 1000, (Str.ofString (toString ((i.val : Nat) : Int))).length ≤ 20 ∧ ((i.val : Nat) : Int).natAbs.log2 < 1920 := by decide +kernel
  exact key ⟨i, by omega⟩
theorem j_fmtK {σ : L2.St} {H : Hp} {i k : Nat} {acc : Str} {ts : List TE} {Q : Str → Hp → Prop} (hv : σ[i]? = some (some (.int (k : Nat)))) (hk : k ≤ 999) (ha : acc.length ≤ 1000) (q : ∀ out : Str, out.length ≤ 2000 → tJs ts out σ H Q) : tJs (tFmt (tVar i) :: ts) acc σ H Q := by
  obtain ⟨h1, h2⟩ := num1000 k hk
  have h3 : (acc ++ Str.ofString (toString ((k : Nat) : Int))).length ≤ 2000 := by rw [len_app]; omega
  exact ⟨.int (k : Nat), hv, .inr ⟨_, rfl, h2, _, rfl, Nat.le_trans h3 (by decide), q _ h3⟩⟩
section
variable {G : List Addr} {L : List (Addr × Str)} {H H' : Hp} {r : Addr}
end
structure RdC (K : PySem.W.Frag) (mg : Str → Option Value) : Prop where
  cl : Cls K (cD K)
  n1 : NoAttr K (cD K) "numbers"
  n2 : NoAttr K (cD K) "offset"
  g : mg "Reader" = some (.ref (cD K))
section
variable {P : Program} {w : World} {K : PySem.W.Frag} {mg : Str → Option Value} {base : Heap} {G : List Addr} {L : List (Addr × Str)}
theorem RdAt.go {H H' : Hp} {r nl : Addr} {l : List Nat} {o : Nat} (h : RdAt K H r nl l o) (g : Go G L H H') : RdAt K H' r nl l o := by
  obtain ⟨dx, h1, h2⟩ := h
  exact ⟨dx, g.1 _ _ h1 (fun _ z => by cases z), g.lst h2⟩
theorem r_fo {H : Hp} {Q : VK} {r nl : Addr} {l : List Nat} {o : Nat} (R : RdC K mg) (h : RdAt K H r nl l o) (q : Q (.int (o : Nat)) H) : rFld K "offset" (.ref r) H Q := by
  obtain ⟨dx, h1, h2⟩ := h
  exact ⟨r, _, dx, _, .int (o : Nat), rfl, h1, R.cl, R.n2, rfl, q⟩
theorem r_fn {H : Hp} {Q : VK} {r nl : Addr} {l : List Nat} {o : Nat} (R : RdC K mg) (h : RdAt K H r nl l o) (q : H nl = some (.lst (vN l)) → Q (.ref nl) H) : rFld K "numbers" (.ref r) H Q := by
  obtain ⟨dx, h1, h2⟩ := h
  exact ⟨r, _, dx, _, .ref nl, rfl, h1, R.cl, R.n1, rfl, q h2⟩
/-- a method of a class -/
structure FmC (P : Program) (w : World) (K : PySem.W.Frag) (mg : Str → Option Value) (base : Heap) (C : Addr) (m : Str) (k : Nat) (sp : Sp) : Prop where
  c : Cls K C
  ex : ∃ (f : Addr) (fd : FuncData) (ps : List Str), Meth K C m f ∧ FnOk P w K mg base (L2.CX P w) k f fd ps sp ∧ Binds K fd ps []
theorem pe_fmC {X : Cx} {C : Addr} {m : Str} {k j : Nat} {sp : Sp} {E : XK} {o e : Expr} {es : List Expr} {apos pos : Pos} {ta : TE} {t : TA} {pl : Sem Bool} (c : FmC X.prog X.w X.K X.mg X.base C m k sp) (hr : Room j X.A) (he : PE X o ta) (hx : Passes (L2.CX X.prog X.w) X E) (ha : PA X (e :: es) t) (hk : k ≤ j := by decide)
    (hc : eval (.Call (.Attribute o m apos) (e :: es) [] pos) X.env = (do
      let ov ← eval o X.env
      standAt apos.atName
      let (f, first) ← holding [ov] (getMethod ov m pl)
      callWith pos f first (backTo pos (starEach (e :: es) X.env)) (backToKw pos (keywordEach [] X.env))) := by rfl)
    (hs : starEach (e :: es) X.env = (false, eval e X.env) :: starEach es X.env := by rfl) (hpl : (backTo pos (starEach es X.env)).any (·.1) = false := by rfl) :
    PE X (.Call (.Attribute o m apos) (e :: es) [] pos) (tMeth C m sp [] E ta t) := by
  obtain ⟨f, fd, ps, h1, F, b⟩ := c.ex
  exact pe_meth he c.c h1 F (hr.mono hk) b .nil hx ha hs hpl hc
theorem r_fmC {σ : L2.St} {H : Hp} {m : Str} {sp : Sp} {E : XK} {ta : TE} {t : TA} {Q : VK} {r nl : Addr} {l : List Nat} {o : Nat} (hx : ∀ R : VK, R (.ref r) H → ta σ H R) (hR : RdAt K H r nl l o) (hn : (["numbers", "offset"] : List Str).contains m = false) (h : t σ H fun vs H2 => sp (.ref r :: (vs ++ [])) H2 Q E) : tMeth (cD K) m sp [] E ta t σ H Q := by
  obtain ⟨dx, h1, h2⟩ := hR
  refine hx _ ⟨r, dx, _, rfl, h1, ?_, h⟩
  simp only [List.contains_cons, List.contains_nil, Bool.or_false, Bool.or_eq_false_iff] at hn
  unfold rds
  rw [List.lookup_cons, hn.1, List.lookup_cons, hn.2]
  rfl
theorem scDE : FnScope ["self", "offset"] ["self", "offset"] (defScope (sErr5 iDE)) := C8.fnScope_by (by decide +kernel)
def spDE (K : PySem.W.Frag) (C : Addr) : Sp := fun vs H Q _ => ∃ a, ∃ i : Nat, vs = [.ref a, .int (i : Nat)] ∧ H a = some (exo a C none) ∧ i ≤ 999 ∧
  ∀ d, H d = none → d ≠ a → Q .non (upd (upd H d (exd d [("offset", .int (i : Nat))])) a (exo a C (some d)))
theorem ok_DE {f C S : Addr} {fd : FuncData} (F : Fun K "__init__" "DecodeError.__init__" (sErr5 iDE) f fd) (B : BaseC K mg S) (T : OexC K C) (n2 : PySem.W.findIn K (.ref C) "offset" = some none) : FnOk P w K mg base CX0 1 f fd ["self", "offset"] (spDE K C) := by
  refine F.ok scDE (fun vs H Q E h => ?_) (fun cdv A outer s H vs Q E hr h => ?_)
  · obtain ⟨a, i, e, _⟩ := h
    rw [e]
    rfl
  · obtain ⟨a, i, e, ha, hi, q⟩ := h
    subst e
    refine ⟨_, pss_cons (ps_expr (pe_baseinit rfl B.g B.rd B.fv (pa_cons (pv 0) (pa_cons (pe_joined (.cons pe_str (.cons (pe_fmt (pv 1)) .nil))) pa_nil))))
      (pss_one (ps_ost (pv 0) (pv 1))), ?_⟩
    refine r_seq (r_drop (r_cons (r_var (v := .ref a) rfl (r_cons ?_))))
    refine j_str (by decide) (j_fmtK (k := i) rfl hi (by decide) fun out ho => ?_)
    refine j_nil (r_nil ?_)
    refine ⟨a, C, [.str out], rfl, (by show 1 ≤ 1000; decide), T, ha, ?_⟩
    repeat walk_at "rd"
    exact r_ostV (y := .int (i : Nat)) (a := a) rfl rfl T n2 (.inl ⟨ha, fun d hd hne => q d hd hne⟩)
theorem mkDE_fin {x : Str} {Q : XK} {i : Nat} {H1 : Hp} (hi : i ≤ 999) (h : ∀ d Hx, (∀ b o, H1 b = some o → Hx b = some o) → Hx d = some (.xd [("offset", .int (i : Nat))]) → Q (.ref (He.ga K x)) (some d) Hx) :
    [V.int (i : Nat)].length ≤ 1000 ∧ ∀ a, H1 a = none → spDE K (He.ga K x) (.ref a :: ([V.int (i : Nat)] ++ [])) (upd H1 a (exo a (He.ga K x) none))
      (fun v H2 => v = .non ∧ ∃ (d : Addr) (fs : List (Str × V)), H2 a = some (exo a (He.ga K x) (some d)) ∧ H2 d = some (exd d fs) ∧ H1 d = none ∧ Q (.ref (He.ga K x)) (some d) (upd (del H2 a) d (.xd fs))) (fun _ _ _ => False) := by
  refine ⟨(by show 1 ≤ 1000; decide), fun a ha => ⟨a, i, rfl, upd_same, hi, fun d hd hne => ?_⟩⟩
  have hd' : H1 d = none := by
    rw [upd_ne hne] at hd
    exact hd
  refine ⟨rfl, d, _, upd_same, by rw [upd_ne hne, upd_same], hd', h d _ ?_ upd_same⟩
  intro b o e
  have nd := ne_of_none e hd'
  have na := ne_of_none e ha
  rw [upd_ne nd, del_ne na, upd_ne na, upd_ne nd, upd_ne na]
  exact e
theorem scRInit : FnScope ["self", "numbers"] ["self", "numbers"] (defScope (sD 0)) := C8.fnScope_by (by decide +kernel)
def spRInit (K : PySem.W.Frag) : Sp := fun vs H Q _ => ∃ (x dx nl : Addr), vs = [.ref x, .ref nl] ∧ H x = some (.ins (cD K) dx []) ∧ Q .non (upd H x (.ins (cD K) dx (rds nl 0)))
theorem ok_rinit {f : Addr} {fd : FuncData} (F : Fun K "__init__" "Reader.__init__" (sD 0) f fd) (R : RdC K mg) : FnOk P w K mg base (L2.CX P w) 1 f fd ["self", "numbers"] (spRInit K) := by
  refine F.okX scRInit (fun vs H Q E h => ?_) (fun cdv A outer s H vs Q E hr h => ?_)
  · obtain ⟨x, dx, nl, e, _⟩ := h
    rw [e]
    rfl
  · obtain ⟨x, dx, nl, e, hx, q⟩ := h
    subst e
    refine ⟨_, pss_cons (ps_fld (pv 0) (pv 1) rfl) (pss_one (ps_fld (pv 0) pe_int rfl)), ?_⟩
    repeat walk_at "rd"
    refine ⟨_, rfl, .ref x, rfl, x, _, dx, [], rfl, hx, R.cl, R.n1, (by show 0 < 1000; decide), ?_⟩
    refine ⟨.ref x, rfl, x, _, dx, _, rfl, upd_same, R.cl, R.n2, (by show 1 < 1000; decide), ?_⟩
    rw [upd_upd]
    exact q
abbrev nTk : List Str := ["self", "least", "most", "number"]
theorem scTake : FnScope nTk ["self", "least", "most"] (defScope (sD 1)) := C8.fnScope_by (by decide +kernel)
def spTake (K : PySem.W.Frag) (G : List Addr) (L : List (Addr × Str)) : Sp := fun vs H Q E => ∃ (r nl : Addr) (a b : Nat) (l : List Nat) (o : Nat), vs = [.ref r, .int (a : Nat), .int (b : Nat)] ∧ RdAt K H r nl l o ∧ l.length ≤ 900 ∧ o ≤ l.length ∧
  ((∀ n, l[o]? = some n → n < a ∨ b < n) → ∀ dd H', Go G L H H' → H' dd = some (.xd [("offset", .int (o : Nat))]) → E (.ref (He.ga K "DecodeError")) (some dd) H') ∧
  (∀ n, l[o]? = some n → a ≤ n → n ≤ b → ∀ H', GoR G L r H H' → RdAt K H' r nl l (o + 1) → Q (.int (n : Nat)) H')
theorem ok_take {f : Addr} {fd : FuncData} (F : Fun K "take" "Reader.take" (sD 1) f fd) (zL : mg "len" = none) (R : RdC K mg) (T : Err P w K mg base "DecodeError" (spDE K (He.ga K "DecodeError"))) : FnOk P w K mg base (L2.CX P w) 3 f fd ["self", "least", "most"] (spTake K G L) := by
  refine F.okX scTake (fun vs H Q E h => ?_) (fun cdv A outer s H vs Q E hr h => ?_)
  · obtain ⟨r, nl, a, b, l, o, e, _⟩ := h
    rw [e]
    rfl
  · obtain ⟨r, nl, a, b, l, o, e, hR, hl, ho, qE, q⟩ := h
    subst e
    refine ⟨_, pss_cons (ps_if (pt_cmpR op_eq (pe_fld (pv 0) rfl) (pe_callB (r := cLen K) c_len rfl zL boot_len (pa_cons (pe_fld (pv 0) rfl) pa_nil)) (nomark _))
  (pss_one (ps_raise rfl (takes_of rfl rfl rfl rfl) (pmk_err T hr (pa_cons (pe_fld (pv 0) rfl) pa_nil)))) pss_nil)
(pss_cons (ps_set (i := 3) scTake.nd rfl (Or.inl rfl) (pe_ix ix_list (pe_fld (pv 0) rfl) (pe_fld (pv 0) rfl) (fun _ _ => rfl)))
(pss_cons (ps_if (pt_not (pt_chain op_le op_le (pv 1) (pv 3) (pv 2)))
  (pss_one (ps_raise rfl (takes_of rfl rfl rfl rfl) (pmk_err T hr (pa_cons (pe_fld (pv 0) rfl) pa_nil)))) pss_nil)
(pss_cons (ps_fldaug (pv 0) pe_int in_add)
(pss_one (ps_ret (pv 3)))))), ?_⟩
    have ho9 : o ≤ 999 := by omega
    repeat walk_at "rd"
    refine r_fo R hR ?_
    repeat walk_at "rd"
    refine r_fn R hR fun hnl => ?_
    repeat walk_at "rd"
    refine r_lenL (.of hnl) ?_
    rw [vN_len]
    refine r_eq rfl ?_
    repeat walk_at "rd"
    refine r_if (fun c => ?_) (fun c => ?_)
    · have c2 : o = l.length := by
        have z := V.int.inj (of_decide_eq_true c)
        omega
      repeat walk_at "rd"
      refine r_mk ?_
      repeat walk_at "rd"
      refine r_fo R hR ?_
      repeat walk_at "rd"
      refine mkDE_fin ho9 fun dd Hx k hx => qE (fun n hn => ?_) dd Hx (Go.same k) hx
      rw [List.getElem?_eq_none (by omega)] at hn
      cases hn
    have c2 : o < l.length := by
      have z : V.int (o : Nat) ≠ V.int (l.length : Nat) := of_decide_eq_false c
      have z2 : o ≠ l.length := fun q => z (by rw [q])
      omega
    have hn : l[o]? = some l[o] := List.getElem?_eq_getElem c2
    generalize l[o] = n at hn
    repeat walk_at "rd"
    refine r_fn R hR fun hnl => ?_
    repeat walk_at "rd"
    refine r_fo R hR ?_
    repeat walk_at "rd"
    refine r_ixL (SqL.of hnl) (v := .int (n : Nat)) (atI_nat (by unfold vN; rw [List.getElem?_map, hn]; rfl)) ?_
    repeat walk_at "rd"
    have bad : n < a ∨ b < n → ∀ n', l[o]? = some n' → n' < a ∨ b < n' := fun h n' h' => by
      rw [hn] at h'
      cases h'
      exact h
    have good : a ≤ n → n ≤ b → ∀ H', GoR G L r H H' → RdAt K H' r nl l (o + 1) → Q (.int (n : Nat)) H' := q n hn
    have gl : ∀ dx, H r = some (.ins (cD K) dx (rds nl o)) → H nl = some (.lst (vN l)) → GoR G L r H (upd H r (.ins (cD K) dx (rds nl (o + 1)))) ∧ RdAt K (upd H r (.ins (cD K) dx (rds nl (o + 1)))) r nl l (o + 1) := fun dx h1 h2 =>
      ⟨GoR.ins h1, dx, upd_same, by rw [upd_ne (fun z => by rw [z, h1] at h2; cases h2)]; exact h2⟩
    refine r_if (fun c3 => ?_) (fun c3 => ?_)
    · have c4 : a ≤ n := by
        have z := of_decide_eq_true c3
        omega
      repeat walk_at "rd"
      refine r_if (fun c5 => ?_) (fun c5 => ?_)
      · have c6 : b < n := by
          have z : decide (((n : Nat) : Int) ≤ (b : Nat)) = false := by simpa using c5
          have z2 := of_decide_eq_false z
          omega
        repeat walk_at "rd"
        refine r_mk ?_
        repeat walk_at "rd"
        refine r_fo R hR ?_
        repeat walk_at "rd"
        exact mkDE_fin ho9 fun dd Hx k hx => qE (bad (.inr c6)) dd Hx (Go.same k) hx
      · have c6 : n ≤ b := by
          have z : decide (((n : Nat) : Int) ≤ (b : Nat)) = true := by simpa using c5
          have z2 := of_decide_eq_true z
          omega
        obtain ⟨dx, h1, h2⟩ := hR
        obtain ⟨g1, g2⟩ := gl dx h1 h2
        repeat walk_at "rd"
        refine ⟨.ref r, rfl, r, _, dx, _, .int (o : Nat), rfl, h1, R.cl, R.n2, rfl, ⟨(o : Nat), 1, rfl, rfl, dx, _, h1, (by show 2 < 1000; decide), ?_⟩⟩
        exact ⟨.int (n : Nat), rfl, good c4 c6 _ g1 g2⟩
    · have c4 : n < a := by
        have z := of_decide_eq_false c3
        omega
      repeat walk_at "rd"
      refine r_mk ?_
      repeat walk_at "rd"
      refine r_fo R hR ?_
      repeat walk_at "rd"
      exact mkDE_fin ho9 fun dd Hx k hx => qE (bad (.inl c4)) dd Hx (Go.same k) hx
end
local macro_rules | `(tactic| walk_at "rs") => `(tactic| first | (with_reducible refine r_tM1 ?_) | walk_at "rd")
theorem Has.app {l : List Nat} {o : Nat} {xs ys : List Nat} (h : Has l o (xs ++ ys)) : Has l o xs ∧ Has l (o + xs.length) ys := by
  obtain ⟨rest, e⟩ := h
  refine ⟨⟨ys ++ rest, by rw [e, List.append_assoc]⟩, rest, ?_⟩
  rw [← List.drop_drop, e, List.append_assoc, List.drop_left]
theorem Has.get {l : List Nat} {o x : Nat} {xs : List Nat} (h : Has l o (x :: xs)) : l[o]? = some x ∧ Has l (o + 1) xs :=
  ⟨Has.at (i := 0) h rfl, (Has.app (xs := [x]) h).2⟩
theorem sum_signs : ∀ l : List Nat, ((l.map fun c => (⟨#[c]⟩ : Str)).map (·.length)).sum = l.length
  | [] => rfl
  | c :: l => by
    rw [List.map_cons, List.map_cons, List.sum_cons, sum_signs l, List.length_cons]
    show 1 + l.length = _
    omega
theorem join_signs (l : List Nat) : Txt.join "" (l.map fun c => (⟨#[c]⟩ : Str)) = ⟨l.toArray⟩ := by
  apply TL.ext_tl
  rw [TL.join_eq, TL.tl_join, List.map_map]
  have key : ∀ l : List Nat, TL.joinL (TL.tl "") (l.map (TL.tl ∘ fun c => (⟨#[c]⟩ : Str))) = l := by
    intro l
    induction l with
    | nil => rfl
    | cons x l ih =>
      cases l with
      | nil => rfl
      | cons y l =>
        show [x] ++ (TL.tl "" ++ TL.joinL (TL.tl "") ((y :: l).map (TL.tl ∘ fun c => (⟨#[c]⟩ : Str)))) = _
        rw [ih]
        rfl
  exact key l
section
variable {P : Program} {w : World} {K : PySem.W.Frag} {mg : Str → Option Value} {base : Heap} {G : List Addr} {L : List (Addr × Str)}
def TK (H H' : Hp) : Prop := ∀ a xs, Tp H a xs → Tp H' a xs
mutual
theorem Im.tk {H H' : Hp} (e : TK H H') : ∀ {v : V} {d : PyData}, Im H v d → Im H' v d
  | _, _, .non => .non
  | _, _, .bl b => .bl b
  | _, _, .int i => .int i
  | _, _, .str x => .str x
  | _, _, .tup h t => .tup (e _ _ h) (Ims.tk e t)
theorem Ims.tk {H H' : Hp} (e : TK H H') : ∀ {vs : List V} {ds : List PyData}, Ims H vs ds → Ims H' vs ds
  | _, _, .nil => .nil
  | _, _, .cons h t => .cons (Im.tk e h) (Ims.tk e t)
end
section
variable {H H' : Hp} {r nl : Addr} {l : List Nat} {o : Nat}
theorem RdAt.ne (h : RdAt K H r nl l o) {a : Addr} {x : HO} (e : H a = some x) (n : ∀ C d fs, x ≠ .ins C d fs) : a ≠ r := fun q => by
  obtain ⟨dx, h1, _⟩ := h
  rw [q, h1] at e
  exact n _ _ _ (Option.some.inj e).symm
theorem tp_gr (h : RdAt K H r nl l o) (g : GoR G L r H H') : TK H H' := fun a xs t => by
  rcases t with e | ⟨ob, e⟩
  · exact .inl (g.free (h.ne e fun _ _ _ q => by cases q) (fun _ q => by cases q) e)
  · exact .inr ⟨ob, g.free (h.ne e fun _ _ _ q => by cases q) (fun _ q => by cases q) e⟩
theorem nt_gr (h : RdAt K H r nl l o) (g : GoR G L r H H') {a : Addr} {xs : List V} (t : NT H a xs) : NT H' a xs := by
  obtain ⟨ob, e, q⟩ := t
  exact ⟨ob, g.free (h.ne e fun _ _ _ q => by cases q) (fun _ q => by cases q) e, q⟩
theorem lst_gr (h : RdAt K H r nl l o) (g : GoR G L r H H') {a : Addr} {xs : List V} (e : H a = some (.lst xs)) : H' a = some (.lst xs) := g.lst (h.ne e fun _ _ _ q => by cases q) e
theorem rules_gr (h : RdAt K H r nl l o) (g : GoR G L r H H') {x : Addr} {ns : List Str} {cd : List PyData} (hR : RulesAt K H x ns cd) : RulesAt K H' x ns cd := by
  obtain ⟨dx, an, ac, xs, h1, h2, h3, h4⟩ := hR
  have n : x ≠ r := fun q => by
    obtain ⟨d, e, _⟩ := h
    rw [q, e] at h1
    have z := Option.some.inj h1
    injection z with _ _ z
    have z2 : ("numbers" : Str) = "_names" := congrArg (fun fs : List (Str × V) => (fs.headD ("", .non)).1) z
    exact absurd z2 (by decide +kernel)
  exact ⟨dx, an, ac, xs, g.free n (fun _ q => by cases q) h1, nt_gr h g h2, tp_gr h g _ _ h3, Ims.tk (tp_gr h g) h4⟩
theorem RdAt.updD (h : RdAt K H r nl l o) {D : Addr} {xs ys : List V} (e : H D = some (.lst xs)) (n : nl ≠ D) : RdAt K (upd H D (.lst ys)) r nl l o := by
  have n2 : r ≠ D := (h.ne e fun _ _ _ q => by cases q).symm
  obtain ⟨dx, h1, h2⟩ := h
  exact ⟨dx, by rw [upd_ne n2]; exact h1, by rw [upd_ne n]; exact h2⟩
theorem RdAt.nln (h : RdAt K H r nl l o) {D : Addr} (e : H D = none) : nl ≠ D := fun q => by
  obtain ⟨dx, _, h2⟩ := h
  rw [q, e] at h2
  cases h2
end
/-- choices: a text or a tuple -/
def Cho (K : PySem.W.Frag) (G : List Addr) (L : List (Addr × Str)) (r : Addr) (H : Hp) (cv : V) (xs : List V) : Prop :=
  (∃ z : Str, cv = .str z ∧ z.length ≤ 1000 ∧ xs = z.cps.toList.map fun c => V.str ⟨#[c]⟩) ∨ ∃ a, cv = .ref a ∧ SqT K H a xs ∧ ∀ H', GoR G L r H H' → SqT K H' a xs
def rLenA (K : PySem.W.Frag) : List V → Hp → VK → Prop := fun xs H Q => cLen K xs H Q ∨ cLenS xs H Q
theorem c_lenA {X : Cx} : CallR X (.builtin "len") (rLenA X.K) := fun pins s σ H xs us Q I r h => h.elim (fun h => c_len pins s σ H xs us Q I r h) fun h => c_lenS pins s σ H xs us Q I r h
theorem scTakeOne : FnScope ["self", "choices"] ["self", "choices"] (defScope (sD 2)) := C8.fnScope_by (by decide +kernel)
abbrev nRn : List Str := ["reader", "many", "_"]
theorem scReadName : FnScope nRn ["reader"] (defScope sReadName) := C8.fnScope_by (by decide +kernel)
end
local macro_rules | `(tactic| walk_at "rs") => `(tactic| first | (with_reducible refine r_tM1 ?_) | walk_at "rd")
theorem r_tupN {t : TA} {σ : L2.St} {H : Hp} {Q : VK} (h : t σ H fun xs H1 => xs.length ≤ sizeLine ∧ ∀ p H2, H1 p = none → (∀ b o, H1 b = some o → H2 b = some o) → NT H2 p xs → Q (.ref p) H2) : tTupN t σ H Q := h
section
variable {P : Program} {w : World} {K : PySem.W.Frag} {mg : Str → Option Value} {base : Heap} {G : List Addr} {L : List (Addr × Str)}
abbrev nRs : List Str := ["reader", "many", "names", "_", "offset", "name"]
theorem scReadNames : FnScope nRs ["reader"] (defScope sReadNames) := C8.fnScope_by (by decide +kernel)
abbrev nRc : List Str := ["reader", "names", "word", "first", "second"]
theorem scReadClause : FnScope nRc ["reader", "names"] (defScope sReadClause) := C8.fnScope_by (by decide +kernel)
abbrev nRcs : List Str := ["reader", "names", "many", "_"]
theorem scReadClauses : FnScope nRcs ["reader", "names"] (defScope sReadClauses) := C8.fnScope_by (by decide +kernel)
abbrev nRch : List Str := ["reader", "names", "many", "_"]
theorem scReadCh : FnScope nRch ["reader", "names"] (defScope sReadChanges) := C8.fnScope_by (by decide +kernel)
end
theorem wdB_ok {K : PySem.W.Frag} (h : wdB K = true) : ∃ o, K.lookup (He.ga K "WORDS") = some o ∧ o.cls = .type "tuple" ∧ o.dict = none := by
  unfold wdB at h
  split at h
  · rename_i c x y e
    refine ⟨_, e, ?_, rfl⟩
    rw [of_decide_eq_true h]
  · cases h
local macro_rules | `(tactic| walk_at "rs") => `(tactic| first | (with_reducible refine r_tM1 ?_) | walk_at "rd")
section
variable {P : Program} {w : World} {K : PySem.W.Frag} {mg : Str → Option Value} {base : Heap} {G : List Addr} {L : List (Addr × Str)}
abbrev nNst : List Str := ["names", "state", "number", "name"]
theorem scNumS : FnScope nNst ["names", "state"] (defScope sNumState) := C8.fnScope_by (by decide +kernel)
def spNumS (K : PySem.W.Frag) (G : List Addr) (L : List (Addr × Str)) : Sp := fun vs H Q _ => ∃ (an : Addr) (v : V) (ns s : List Str), vs = [.ref an, v] ∧ Tp H an (ns.map V.str) ∧ Dp K H v (.tuple (s.map PyData.str)) ∧ GoodN ns ∧ ns.length ≤ 10 ∧ s.Sublist ns ∧
  ∀ D H', H D = none → Go G L H H' → H' D = some (.lst (vN (stsN ns s))) → Q (.ref D) H'
theorem ok_numS {f : Addr} {fd : FuncData} {t255 : Tok} (F : Fun K "_numbers_of_state" "_numbers_of_state" sNumState f fd) (zi : mg "int" = none) (g255 : mg "GREATEST_BYTE" = some (.int 255 t255)) : FnOk P w K mg base CX0 1 f fd ["names", "state"] (spNumS K G L) := by
  refine F.ok scNumS (fun vs H Q E h => ?_) (fun cdv A outer s H vs Q E hr h => ?_)
  · obtain ⟨a, l, ns, s, e, _⟩ := h
    rw [e]
    rfl
  · obtain ⟨an, v, ns, st, e, hn, hs, gn, n10, hsub, q⟩ := h
    subst e
    refine ⟨_, pss_cons (ps_set (i := 2) scNumS.nd rfl (Or.inl rfl) pe_int)
(pss_cons (ps_for PassesOwn.never rfl (pi_tup (pv 0)) (pg_name (i := 3) scNumS.nd rfl (.inl rfl))
  (pss_one (ps_set (i := 2) scNumS.nd rfl (Or.inl rfl) (pe_op op_add (pe_op op_mul pe_int (pv 2)) (pe_callTy c_int rfl zi boot_int (pa_cons (pe_cmpR (op_inT (u65 hr)) (pv 3) (pv 1) rfl) pa_nil))))))
(pss_one (ps_ret (pe_lst (pa_cons (pe_op op_shrN (pv 2) pe_int) (pa_cons (pe_op op_andM (pv 2) (pe_glob (v := .int 255) rfl g255 ⟨_, rfl⟩)) pa_nil)))))), ?_⟩
    have hok : ∀ z ∈ ns, PyData.strOk z = true := fun z hz => (gn.al z hz).2.1
    repeat walk_at "rs"
    refine forT (a := an) (xs := ns.map V.str) (fun R z => ⟨_, rfl, z⟩) hn.seq (fun i σ H' => ∃ x3, σ = [some (.ref an), some v, some (.int (stN st (ns.take i) : Nat)), x3] ∧ H' = H) ?_ ?_ ?_ ?_
    · exact ⟨none, rfl, rfl⟩
    · rintro i σ H' _ ⟨_, _, rfl⟩
      exact hn.seq
    · rintro i y σ H' ey ⟨x3, rfl, rfl⟩
      rw [List.getElem?_map] at ey
      cases hz : ns[i]? with
      | none => rw [hz] at ey; cases ey
      | some z =>
        rw [hz] at ey
        obtain rfl : y = .str z := (Option.some.inj ey).symm
        have hzm := List.mem_of_getElem? hz
        refine r_gN ?_
        repeat walk_at "rs"
        refine r_I (.inl ⟨by decide, by decide⟩) ?_
        repeat walk_at "rs"
        refine r_inT (d := .str z) (ds := st.map PyData.str) (.str z) hs (lv_str (hok z hzm)) (lv_strs fun y hy => hok y (hsub.subset hy)) ?_
        rw [show inD (.str z) (st.map PyData.str) = decide (z ∈ st) from in_strs ..]
        repeat walk_at "rs"
        refine ⟨some (.str z), ?_, rfl⟩
        rw [List.take_succ, hz]
        have e := stN_snoc st (ns.take i) z
        have e2 : (2 * ((stN st (ns.take i) : Nat) : Int) + if decide (z ∈ st) = true then 1 else 0) = ((stN st (ns.take i ++ [z]) : Nat) : Int) := by
          rw [e]
          by_cases c : z ∈ st
          · rw [decide_eq_true c, if_pos rfl, if_pos c]
            omega
          · rw [decide_eq_false c, if_neg Bool.false_ne_true, if_neg c]
            omega
        show _ = [some (V.ref an), some v, some (V.int ((stN st (ns.take i ++ [z]) : Nat) : Int)), _]
        rw [← e2]
        rfl
    · rintro σ H' ⟨x3, rfl, rfl⟩
      rw [List.length_map, List.take_length]
      repeat walk_at "rs"
      refine ⟨_, 8, rfl, rfl, ?_⟩
      repeat walk_at "rs"
      refine ⟨_, 8, rfl, rfl, ?_⟩
      repeat walk_at "rs"
      refine ⟨by show 2 ≤ sizeLine; decide, fun p1 n1 => ?_⟩
      generalize hH : upd _ p1 _ = H1; obtain ⟨k1, e1⟩ := new_facts hH n1; clear hH
      refine q p1 H1 n1 (Go.same k1) ?_
      rw [e1]
      have z := stN st ns
      have h1 : ((stN st ns : Nat) : Int) / 2 ^ 8 = ((stN st ns / 256 : Nat) : Int) := by
        rw [show (2 : Int) ^ 8 = 256 from rfl]
        omega
      have h2 : ((stN st ns : Nat) : Int) % 2 ^ 8 = ((stN st ns % 256 : Nat) : Int) := by
        rw [show (2 : Int) ^ 8 = 256 from rfl]
        omega
      rw [h1, h2]
      rfl
abbrev nEn : List Str := ["rules", "state", "changes", "name", "numbers"]
theorem scEncode : FnScope nEn ["rules", "state", "changes"] (defScope sEncode) := C8.fnScope_by (by decide +kernel)
def spEnc (K : PySem.W.Frag) (G : List Addr) (L : List (Addr × Str)) : Sp := fun vs H Q E => ∃ (x : Addr) (v : V) (ca : Addr) (ns : List Str) (cd : List PyData) (d : PyData) (cs : List Str), vs = [.ref x, v, .ref ca] ∧ RulesAt K H x ns cd ∧ OkR ns cd ∧ GoodN ns ∧ ns.length ≤ 10 ∧ (∀ d ∈ cd, ClD ns d) ∧ Dp K H v d ∧ lv 7 d = true ∧ (∀ ds, d = .tuple ds → ds.length ≤ 60) ∧ H ca = some (.lst (cs.map V.str)) ∧ cs.length ≤ 400 ∧ (∀ z ∈ cs, PyData.strOk z = true) ∧
  (∀ ds, d = .tuple ds → stateBad ns d = none → brokenFrom ds 0 cd = []) ∧ (stateBad ns d = none → ∃ s : List Str, d = .tuple (s.map PyData.str) ∧ s.Sublist ns) ∧
  (∀ i, stateBad ns d = some i → ∀ cls dd H', Go G L H H' → Told K cls dd H' (invD i) → E cls dd H') ∧
  (stateBad ns d = none → 200 < cs.length → ∀ H', Go G L H H' → E (.ref (He.ga K "InvalidCount")) none H') ∧
  (stateBad ns d = none → cs.length ≤ 200 → ∀ k z, cs[k]? = some z → (∀ y ∈ cs.take k, y ∈ ns) → z ∉ ns → ∀ dd H', Go G L H H' → H' dd = some (.xd [("name", .str z)]) → E (.ref (He.ga K "UnknownSwitch")) (some dd) H') ∧
  (∀ s, d = .tuple (s.map PyData.str) → s.Sublist ns → cs.length ≤ 200 → (∀ z ∈ cs, z ∈ ns) → ∀ H', Go G L H H' → Q (.byt (bytN (closedN (rollN ns cd s cs)))) H')
theorem ok_encode {f : Addr} {fd : FuncData} {t70 t200 : Tok} (F : Fun K "encode_rollout" "encode_rollout" sEncode f fd) (zL : mg "len" = none) (g70 : mg "FIRST_BYTE" = some (.int 70 t70)) (g200 : mg "MOST_CHANGES" = some (.int 200 t200)) (FN : Fp P w K mg base "names" "_names")
    (CHL : Fd (L2.CX P w) P w K mg base "check_legal" 5 (spChkLegal K G L)) (CSW : Fd (L2.CX P w) P w K mg base "check_switch" 3 (spChkSwitch K G L)) (NUN : Fd CX0 P w K mg base "_numbers_of_names" 1 (spNumN K G L)) (NUC : Fd CX0 P w K mg base "_numbers_of_clauses" 3 (spNumC K G L)) (NUS : Fd CX0 P w K mg base "_numbers_of_state" 1 (spNumS K G L))
    (PKB : Fd (L2.CX P w) P w K mg base "pack_bytes" 3 (spPack K G L)) (CKS : Fd CX0 P w K mg base "_checksum" 1 (spCheck K)) (EIC : Er0 K mg "InvalidCount") : FnOk P w K mg base (L2.CX P w) 6 f fd ["rules", "state", "changes"] (spEnc K G L) := by
  refine F.okX scEncode (fun vs H Q E h => ?_) (fun cdv A outer s H vs Q E hr h => ?_)
  · obtain ⟨x, v, ca, ns, cd, d, cs, e, _⟩ := h
    rw [e]
    rfl
  · obtain ⟨x, v, ca, ns, cd, d, cs, e, RA, ok, gn, n10, hcl, hd, l7, h60, hca, h400, hcok, hleg, hst, qB, qC, qU, q⟩ := h
    subst e
    refine ⟨_, pss_cons (ps_expr (pe_fd CHL hr (passes_call (takes_of rfl rfl rfl rfl) fun _ _ _ _ z => z) (pa_cons (pv 0) (pa_cons (pv 1) pa_nil))))
(pss_cons (ps_if (pt_cmpR op_gt (pe_callB (r := cLen K) c_len rfl zL boot_len (pa_cons (pv 2) pa_nil)) (pe_glob (v := .int 200) rfl g200 ⟨_, rfl⟩) (nomark _))
  (pss_one (ps_raise rfl (takes_of rfl rfl rfl rfl) (pmk_er0 EIC))) pss_nil)
(pss_cons (ps_for (passes_of rfl) rfl (pi_list (pv 2)) (pg_name (i := 3) scEncode.nd rfl (.inl rfl))
  (pss_one (ps_expr (pe_fd CSW hr (passes_call (takes_of rfl rfl rfl rfl) fun _ _ _ _ z => z) (pa_cons (pe_fp FN hr (pv 0)) (pa_cons (pv 3) pa_nil))))))
(pss_cons (ps_set (i := 4) scEncode.nd rfl (Or.inl rfl) (pe_op op_cat (pe_op op_cat (pe_lst (pa_cons (pe_glob (v := .int 70) rfl g70 ⟨_, rfl⟩) pa_nil)) (pe_fd (E := E0) NUN hr pass0 (pa_cons (pe_fp FN hr (pv 0)) pa_nil))) (pe_fd (E := E0) NUC hr pass0 (pa_cons (pv 0) pa_nil))))
(pss_cons (ps_set (i := 4) scEncode.nd rfl (Or.inl rfl) (pe_op op_cat (pv 4) (pe_fd (E := E0) NUS hr pass0 (pa_cons (pe_fp FN hr (pv 0)) (pa_cons (pv 1) pa_nil)))))
(pss_cons (ps_set (i := 4) scEncode.nd rfl (Or.inl rfl) (pe_op op_cat (pe_op op_cat (pv 4) (pe_lst (pa_cons (pe_callB (r := cLen K) c_len rfl zL boot_len (pa_cons (pv 2) pa_nil)) pa_nil))) (pe_lc (own := [("name", 3)]) (g := gName 3) (tt := tYes) rfl scEncode.nd (pi_list (pv 2))
            (blkOk_by (own := [("name", 3)]) (N := nEn) (sc := defScope sEncode) (by decide +kernel)) (fun _ _ _ _ _ => pg_name (i := 3) scEncode.nd rfl (.inl rfl)) (fun _ _ _ _ _ => pts_nil)
            (fun _ _ _ _ _ => pe_tm (r := rTix K) (to := tProp (cR K) (getSp (cR K) "_names") [] E0 (tVar 0)) PySem.F.plainAttrs_tuple PySem.F.slot_tuple_index PySem.F.type_tuple_index mt_tix (pe_fp FN hr (pv 0)) (pa_cons (pv 3) pa_nil)))))
(pss_one (ps_ret (pe_fd PKB hr (passes_call (takes_of rfl rfl rfl rfl) fun _ _ _ _ z => z) (pa_cons (pe_op op_cat (pv 4) (pe_lst (pa_cons (pe_fd (E := E0) CKS hr pass0 (pa_cons (pv 4) pa_nil)) pa_nil))) pa_nil))))))))), ?_⟩
    repeat walk_at "rs"
    refine ⟨x, v, ns, cd, d, rfl, RA, ok, hd, l7, h60, fun i hi cls dd H' g t => qB i hi cls dd H' g t, fun ds ed hn j rest hj => absurd ((hleg ds ed hn).symm.trans hj) (by simp), fun ds ed hn hb H1 g1 => ?_⟩
    repeat walk_at "rs"
    refine r_lenL (.of (g1.lst hca)) ?_
    repeat walk_at "rs"
    rw [List.length_map]
    refine r_if (fun c => ?_) (fun c => ?_)
    · have c2 : 200 < cs.length := by
        have z := of_decide_eq_true c
        omega
      repeat walk_at "rs"
      exact qC hn c2 H1 g1
    have c2 : cs.length ≤ 200 := by
      have z := of_decide_eq_false c
      omega
    repeat walk_at "rs"
    have hok : ∀ z ∈ ns, PyData.strOk z = true := fun z hz => (gn.al z hz).2.1
    refine forL (a := ca) (xs := cs.map V.str) (fun R z => ⟨_, rfl, z⟩) (.of (g1.lst hca)) (fun i σ H' => ∃ x3, σ = [some (.ref x), some v, some (.ref ca), x3, none] ∧ H' = H1 ∧ ∀ y ∈ cs.take i, y ∈ ns) ?_ ?_ ?_ ?_
    · exact ⟨none, rfl, rfl, fun y hy => by cases hy⟩
    · rintro i σ H' _ ⟨_, _, rfl, _⟩
      exact .of (g1.lst hca)
    · rintro i y σ H' ey ⟨x3, rfl, rfl, hall⟩
      rw [List.getElem?_map] at ey
      cases hz : cs[i]? with
      | none => rw [hz] at ey; cases ey
      | some z =>
        rw [hz] at ey
        obtain rfl : y = .str z := (Option.some.inj ey).symm
        refine r_gN ?_
        repeat walk_at "rs"
        refine r_pnames (fun R z => ⟨_, rfl, z⟩) (RA.kt g1.kt) fun an han => ?_
        repeat walk_at "rs"
        refine ⟨an, .str z, ns, .str z, rfl, han.tp, .str z, lv_str (hcok z (List.mem_of_getElem? hz)), hok, fun hno dd H2 k h2 => ?_, fun z2 e2 hm => ?_⟩
        · refine qU hn c2 i z hz hall (fun hm => ?_) dd H2 (g1.trans (Go.same k)) h2
          have e3 : inD (.str z) (ns.map PyData.str) = decide (z ∈ ns) := in_strs ..
          rw [hno, decide_eq_true hm] at e3
          cases e3
        · cases e2
          repeat walk_at "rs"
          refine ⟨_, rfl, rfl, fun y hy => ?_⟩
          rw [List.take_succ, hz] at hy
          rcases List.mem_append.mp hy with hy | hy
          · exact hall y hy
          · rw [List.mem_singleton.mp hy]
            exact hm
    · rintro σ H' ⟨x3, rfl, rfl, hall⟩
      rw [List.length_map, List.take_length] at hall
      obtain ⟨st, ed2, hsub⟩ := hst hn
      subst ed2
      obtain ⟨a1, a2⟩ := nmsN_ok gn n10
      obtain ⟨b1, b2⟩ := clauN_ok hcl n10 ok.cl
      repeat walk_at "rs"
      refine ⟨by show 1 ≤ sizeLine; decide, fun p2 n2 => ?_⟩
      generalize hH : upd _ p2 _ = H2; obtain ⟨k2, e2⟩ := new_facts hH n2; clear hH
      have g2 : Go G L H' H2 := Go.same k2
      repeat walk_at "rs"
      refine r_pnames (fun R z => ⟨_, rfl, z⟩) (RA.kt (g1.trans g2).kt) fun an han => ?_
      repeat walk_at "rs"
      refine ⟨an, ns, rfl, han.tp, gn, n10, fun D3 H3 nD3 g3 e3 => ?_⟩
      repeat walk_at "rs"
      refine r_cat (a := p2) (b := D3) (g3.lst e2) e3 (by rw [vN_len]; show 1 + _ ≤ 5000; omega) fun p4 H4 k4 n4 e4 => ?_
      have g14 : Go G L H H4 := ((g1.trans g2).trans g3).trans (Go.same k4)
      repeat walk_at "rs"
      refine ⟨x, ns, cd, rfl, RA.kt g14.kt, hcl, ok.cl, fun D5 H5 nD5 g5 e5 => ?_⟩
      repeat walk_at "rs"
      refine r_cat (a := p4) (b := D5) (g5.lst e4) e5 (by rw [List.length_append, vN_len, vN_len]; show 1 + _ + _ ≤ 5000; omega) fun p6 H6 k6 n6 e6 => ?_
      have g16 : Go G L H H6 := (g14.trans g5).trans (Go.same k6)
      repeat walk_at "rs"
      refine r_pnames (fun R z => ⟨_, rfl, z⟩) (RA.kt g16.kt) fun an2 han2 => ?_
      repeat walk_at "rs"
      refine ⟨an2, v, ns, st, rfl, han2.tp, Dp.go g16.1 hd, gn, n10, hsub, fun D7 H7 nD7 g7 e7 => ?_⟩
      repeat walk_at "rs"
      have e7' : H7 D7 = some (.lst (vN (stsN ns st))) := e7
      refine r_cat (a := p6) (b := D7) (g7.lst e6) e7' (by rw [List.length_append, List.length_append, vN_len, vN_len, vN_len, show (stsN ns st).length = 2 from rfl]; show 1 + _ + _ + 2 ≤ 5000; omega) fun p8 H8 k8 n8 e8 => ?_
      have g18 : Go G L H H8 := (g16.trans g7).trans (Go.same k8)
      repeat walk_at "rs"
      refine r_lenL (.of (g18.lst hca)) ?_
      repeat walk_at "rs"
      refine ⟨by show 1 ≤ sizeLine; decide, fun p9 n9 => ?_⟩
      generalize hH : upd _ p9 _ = H9; obtain ⟨k9, e9⟩ := new_facts hH n9; clear hH
      repeat walk_at "rs"
      refine r_cat (a := p8) (b := p9) (k9 _ _ e8) e9 (by rw [List.length_append, List.length_append, List.length_append, vN_len, vN_len, vN_len, show (stsN ns st).length = 2 from rfl]; show 1 + _ + _ + 2 + 1 ≤ 5000; omega) fun pA HA kA nA eA => ?_
      have g1A : Go G L H HA := (g18.trans (Go.same k9)).trans (Go.same kA)
      repeat walk_at "rs"
      refine lcL (a := ca) (xs := cs.map V.str) (fun R z => ⟨_, rfl, z⟩) (.of (g1A.lst hca)) (fun D i H1 => Go G L HA H1 ∧ H1 D = some (.lst (vN ((cs.take i).map ns.idxOf)))) ?_ ?_ ?_ ?_
      · intro D hD
        exact ⟨Go.new hD, upd_same⟩
      · rintro D i H1 hD _ ⟨gB, _⟩
        exact .of ((g1A.trans gB).lst hca)
      · rintro D i y H1 hD hy ⟨gB, eD⟩
        rw [List.getElem?_map] at hy
        cases hz : cs[i]? with
        | none => rw [hz] at hy; cases hy
        | some z =>
          rw [hz] at hy
          obtain rfl : y = .str z := (Option.some.inj hy).symm
          refine r_gN ⟨rfl, r_yes ?_⟩
          repeat walk_at "rs"
          refine r_pnames (fun R z => ⟨_, rfl, z⟩) (RA.kt (g1A.trans gB).kt) fun an han => ⟨⟨an, _, rfl, han⟩, ?_⟩
          repeat walk_at "rs"
          refine r_tix (σ := []) han.tp.seq (hall z (List.mem_of_getElem? hz)) ?_
          refine ⟨_, eD, by rw [vN_len, List.length_map, List.length_take, sizeLine_eq]; omega, gB.updNew hD eD, ?_⟩
          rw [upd_same, List.take_succ, hz, List.map_append, vN_app]
          rfl
      · rintro D H1 hD ⟨gB, eD⟩
        rw [List.length_map, List.take_length] at eD
        repeat walk_at "rs"
        have hsz : (stsN ns st).length = 2 := rfl
        refine r_cat (a := pA) (b := D) (gB.lst eA) eD (by simp only [List.length_append, vN_len, List.length_map, hsz, List.length_singleton]; omega) fun pC HC kC nC eC => ?_
        have g1C : Go G L H HC := (g1A.trans gB).trans (Go.same kC)
        obtain ⟨r1, r2⟩ := rollN_ok (s := st) gn n10 hcl ok.cl hall c2
        have eC' : HC pC = some (.lst (vN (rollN ns cd st cs))) := by
          rw [eC]
          unfold rollN vN
          simp
        repeat walk_at "rs"
        refine ⟨pC, _, rfl, eC', r2, fun _ => ?_⟩
        repeat walk_at "rs"
        refine ⟨by show 1 ≤ sizeLine; decide, fun pE nE => ?_⟩
        generalize hH : upd _ pE _ = HE; obtain ⟨kE, eE⟩ := new_facts hH nE; clear hH
        repeat walk_at "rs"
        refine r_cat (a := pC) (b := pE) (kE _ _ eC') eE (by rw [vN_len]; show _ + 1 ≤ 5000; omega) fun pF HF kF nF eF => ?_
        have g1F : Go G L H HF := (g1C.trans (Go.same kE)).trans (Go.same kF)
        obtain ⟨s1, s2⟩ := closedN_ok r1 r2
        have eF' : HF pF = some (.lst (vN (closedN (rollN ns cd st cs)))) := by
          rw [eF]
          unfold closedN
          rw [vN_app]
          rfl
        repeat walk_at "rs"
        refine ⟨.ref pF, .list ((closedN (rollN ns cd st cs)).map fun (n : Nat) => PyData.int (n : Nat)), rfl, .lst (.of eF') (dps_ints _), fun ds e => ?_, fun e => ?_, fun l e HG gG => ?_⟩
        · cases e
          rw [List.length_map]
          omega
        · rw [packD_ok s2] at e
          cases e
        · rw [packD_ok s2] at e
          cases e
          repeat walk_at "rs"
          exact q st rfl hsub c2 hall HG (g1F.trans gG)
end
section
variable {P : Program} {w : World} {K : PySem.W.Frag} {mg : Str → Option Value} {base : Heap} {G : List Addr} {L : List (Addr × Str)}
end
section
variable {P : Program} {w : World} {K : PySem.W.Frag} {mg : Str → Option Value} {base : Heap} {G : List Addr} {L : List (Addr × Str)}
end
section
variable {P : Program} {w : World} {K : PySem.W.Frag} {mg : Str → Option Value} {base : Heap} {G : List Addr} {L : List (Addr × Str)}
end
section
variable {P : Program} {w : World} {K : PySem.W.Frag} {mg : Str → Option Value} {base : Heap} {G : List Addr} {L : List (Addr × Str)}
end
section
variable {X : Cx}
variable {A : Around} {outer : List Env} {s : Shared} {H : Hp} {E : XK} {sc : Scope} {fL c' : Addr} {j : Nat}
end
section
variable {P : Program} {w : World} {K : PySem.W.Frag} {mg : Str → Option Value} {base : Heap} {G : List Addr} {L : List (Addr × Str)}
end
section
variable {P : Program} {w : World} {K : PySem.W.Frag} {mg : Str → Option Value} {base : Heap} {G : List Addr} {L : List (Addr × Str)}
end
section
variable {G : List Addr} {L : List (Addr × Str)}
theorem pe_toldV {X : Cx} {k j : Nat} {e : Expr} {te : TE} {p pos : Pos} (C : TzD X.K X.mg) (hr : Room j X.A) (he : PE X e te) (hk : k + 2 ≤ j := by decide) (hg : Gl X "_law_told" := by rfl)
    (hst : starEach [e] X.env = (false, eval e X.env) :: starEach [] X.env := by rfl) (hpl : (backTo pos (starEach [] X.env)).any (·.1) = false := by rfl) :
    PE X (.Call (.Name "_law_told" p) [e] [] pos) (tGive X k te (TR5 X.K G L)) := by
  obtain ⟨g, fd, F, hm, b⟩ := C.ex
  obtain ⟨oc, od, kV, doc, pm, an, cdv, ct, osl, efd, lk, hcd⟩ := F.ex
  subst efd
  exact pe_give hg hm F.kp lk hcd b scTold rfl (.inl rfl) (told5_gives C.rz) (hr.mono hk) he hst hpl
theorem pe_lamW1 {X : Cx} {c P : Addr} {ps : Arguments} {b e : Expr} {sc : Scope} {pos : Pos} {i : Int} (TB : LamX.TabB X.base X.mg c P) (hcode : X.env.code = .ref c) (Lm : LamS1 X.N X.env.scope sc) (he : PE X e (tC (.int i))) (hd : ps.defaults = [e] := by rfl) (hk : ps.kw_defaults = [] := by rfl) :
    PE X (.Lambda ps b sc pos) (tLamV X ps b sc (some i) P) := ⟨fun pins s σ H Q I h => (pe_lamV1 TB hcode (Lm.has I.ok) hd hk he).run pins s σ H Q I h⟩
theorem r_lamV {X : Cx} {ps : Arguments} {b : Expr} {sc : Scope} {df : Option Int} {σ : L2.St} {H : Hp} {Q : VK} {Pn : Addr} {q : Str} (eq : X.env.qual ++ "<lambda>" = q) (A : Apart G L) (hp : (Pn, q) ∈ L) (ht : TBS G L H) (h : ∀ f c' H1, Go G L H H1 → LamAt X ps b sc df H1 f c' → Q (.ref f) H1) : tLamV X ps b sc df Pn σ H Q := by
  subst eq
  exact ⟨ht.2 _ hp, fun f c' H1 bt ts la _ => h f c' H1 (Go.but A hp ht bt ts) la⟩
end
local macro_rules | `(tactic| walk_at "rs") => `(tactic| first | (with_reducible refine r_tM1 ?_) | (with_reducible refine r_tupN ?_) | walk_at "rd")
section
variable {P : Program} {w : World} {K : PySem.W.Frag} {mg : Str → Option Value} {base : Heap} {G : List Addr} {L : List (Addr × Str)}
theorem walk_revT {a : Addr} {xs : List V} : Walk (RT.ItvT K a xs.length) xs.length (fun H => SqT K H a xs) (fun i H x H' => H' = H ∧ xs[xs.length - 1 - i]? = some x) :=
  ⟨fun i _ hi q => ⟨hi, xs, xs[xs.length - 1 - i]'(by omega), q, by simp [show xs.length - 1 - i < xs.length by omega]⟩, fun _ _ => Nat.le_refl _, fun _ _ _ _ _ q y => ⟨y.1, y.2 xs q⟩⟩
theorem forRvT {σ : L2.St} {H : Hp} {D : Ends} {te : TE} {g : TG} {tb : TS} {a : Addr} {xs : List V} (he : ∀ R : VK, R (.ref a) H → te σ H R) (hq : SqT K H a xs) (Pv : Nat → L2.St → Hp → Prop) (h0 : Pv 0 σ H) (hG : ∀ i σ H, i ≤ xs.length → Pv i σ H → SqT K H a xs)
    (hs : ∀ i x σ H, i < xs.length → xs[xs.length - 1 - i]? = some x → Pv i σ H → g x σ H fun σ2 H2 => tb { D with nx := Pv (i + 1), ct := Pv (i + 1), bk := D.nx } σ2 H2) (hd : ∀ σ H, Pv xs.length σ H → D.nx σ H) :
    tFor (RT.iRevA K te) g tb D σ H := by
  refine he _ ⟨a, xs, rfl, .inr ⟨hq, for_it walk_revT Pv h0 hG ?_ hd⟩⟩
  rintro i x σ H1 H2 hi p ⟨eH, e2⟩
  rw [eH]
  exact hs i x σ H1 hi e2 p
abbrev nRst : List Str := ["reader", "names", "offset", "high", "low", "number", "state", "name"]
theorem scReadState : FnScope nRst ["reader", "names"] (defScope sReadState) := C8.fnScope_by (by decide +kernel)
abbrev nRe : List Str := ["reader", "checksum"]
theorem scReadEnd : FnScope nRe ["reader"] (defScope sReadEnd) := C8.fnScope_by (by decide +kernel)
structure MkrD (P : Program) (w : World) (K : PySem.W.Frag) (mg : Str → Option Value) (base : Heap) : Prop where
  ex : ∃ (f : Addr) (fd : FuncData) (ps : List Str), Mk K (cD K) f ∧ FnOk P w K mg base (L2.CX P w) 1 f fd ps (spRInit K) ∧ Binds K fd ps []
theorem pe_reader {X : Cx} {j : Nat} {E : XK} {p pos : Pos} {e : Expr} {es : List Expr} {t : TA} (R : RdC X.K X.mg) (M : MkrD X.prog X.w X.K X.mg X.base) (hr : Room j X.A) (hx : Passes (L2.CX X.prog X.w) X E) (ha : PA X (e :: es) t) (hk : 2 ≤ j := by decide) (hg : Gl X "Reader" := by rfl)
    (he : starEach (e :: es) X.env = (false, eval e X.env) :: starEach es X.env := by rfl) (hpl : (backTo pos (starEach es X.env)).any (·.1) = false := by rfl) :
    PE X (.Call (.Name "Reader" p) (e :: es) [] pos) (tMake (cD X.K) (spRInit X.K) [] E t) := by
  obtain ⟨f, fd, ps, h1, F, b⟩ := M.ex
  exact pe_make h1 F (hr.mono hk) hg R.g b .nil hx ha (by decide) he hpl
abbrev nDc : List Str := ["data", "reader", "names", "rules", "state", "changes"]
theorem scDecode : FnScope nDc ["data"] (defScope sDecode) := C8.fnScope_by (by decide +kernel)
end
theorem tkR_ok {l : List Nat} {a b o n p : Nat} (h : tkR l a b o = .ok (n, p)) : l[o]? = some n ∧ a ≤ n ∧ n ≤ b ∧ p = o + 1 := by
  unfold tkR at h
  cases e : l[o]? with
  | none => rw [e] at h; cases h
  | some m =>
    rw [e] at h
    simp only at h
    by_cases c : a ≤ m ∧ m ≤ b
    · rw [if_pos c] at h
      have z := Except.ok.inj h
      have z1 := congrArg Prod.fst z
      have z2 := congrArg Prod.snd z
      simp only at z1 z2
      exact ⟨by rw [z1], by omega, by omega, z2.symm⟩
    · rw [if_neg c] at h
      cases h
theorem tkR_err {l : List Nat} {a b o e : Nat} (h : tkR l a b o = .error e) : e = o ∧ ∀ n, l[o]? = some n → n < a ∨ b < n := by
  unfold tkR at h
  cases q : l[o]? with
  | none =>
    rw [q] at h
    exact ⟨(Except.error.inj h).symm, fun n z => by cases z⟩
  | some m =>
    rw [q] at h
    simp only at h
    by_cases c : a ≤ m ∧ m ≤ b
    · rw [if_pos c] at h
      cases h
    · rw [if_neg c] at h
      refine ⟨(Except.error.inj h).symm, fun n z => ?_⟩
      cases z
      omega
theorem tkR_good {l : List Nat} {a b o n : Nat} (h : l[o]? = some n) (h1 : a ≤ n) (h2 : n ≤ b) : tkR l a b o = .ok (n, o + 1) := by
  unfold tkR
  rw [h]
  exact if_pos ⟨h1, h2⟩
theorem tkR_bad {l : List Nat} {a b o : Nat} (h : ∀ n, l[o]? = some n → n < a ∨ b < n) : tkR l a b o = .error o := by
  unfold tkR
  cases q : l[o]? with
  | none => rfl
  | some m =>
    have := h m q
    exact if_neg (by omega)
theorem oneR_ok {α : Type} {l : List Nat} {xs : List α} {o p : Nat} {x : α} (h : oneR l xs o = .ok (x, p)) : ∃ n, l[o]? = some n ∧ xs[n]? = some x ∧ p = o + 1 := by
  unfold oneR at h
  cases e : tkR l 0 (xs.length - 1) o with
  | error e' => rw [e] at h; cases h
  | ok q =>
    obtain ⟨n, p'⟩ := q
    rw [e] at h
    simp only at h
    obtain ⟨h1, _, _, rfl⟩ := tkR_ok e
    cases e2 : xs[n]? with
    | none => rw [e2] at h; cases h
    | some y =>
      rw [e2] at h
      have z := Except.ok.inj h
      exact ⟨n, h1, e2.trans (congrArg some (congrArg Prod.fst z)), (congrArg Prod.snd z).symm⟩
theorem oneR_good {α : Type} {l : List Nat} {xs : List α} {o n : Nat} {x : α} (h : l[o]? = some n) (hx : xs[n]? = some x) : oneR l xs o = .ok (x, o + 1) := by
  unfold oneR
  have := (List.getElem?_eq_some_iff.mp hx).1
  rw [tkR_good h (Nat.zero_le _) (by omega)]
  simp only
  rw [hx]
theorem oneR_bad {α : Type} {l : List Nat} {xs : List α} {o : Nat} (ne : xs ≠ []) (h : ∀ n, l[o]? = some n → xs.length ≤ n) : oneR l xs o = .error o := by
  have hp := List.length_pos_iff.mpr ne
  unfold oneR
  rw [tkR_bad fun n hn => ?_]
  have := h n hn
  omega
/-- so many, one after another -/
def repR {α : Type} (f : Nat → Rdg α) : Nat → Nat → Rdg (List α)
  | 0, o => .ok ([], o)
  | n + 1, o => match repR f n o with
    | .error e => .error e
    | .ok (xs, p) => match f p with
      | .error e => .error e
      | .ok (x, p') => .ok (xs ++ [x], p')
theorem repR_ok {α : Type} {f : Nat → Rdg α} {n o p p' : Nat} {xs : List α} {x : α} (h : repR f n o = .ok (xs, p)) (hx : f p = .ok (x, p')) : repR f (n + 1) o = .ok (xs ++ [x], p') := by
  show (match repR f n o with | .error e => _ | .ok (xs, p) => _) = _
  rw [h]
  simp only
  rw [hx]
theorem repR_err {α : Type} {f : Nat → Rdg α} {n o p e : Nat} {xs : List α} (h : repR f n o = .ok (xs, p)) (hx : f p = .error e) : ∀ m, n < m → repR f m o = .error e
  | 0, hm => by omega
  | m + 1, hm => by
    show (match repR f m o with | .error e => _ | .ok (xs, p) => _) = _
    by_cases c : m = n
    · rw [c, h]
      simp only
      rw [hx]
    · rw [repR_err h hx m (by omega)]
theorem repR_inv {α : Type} {f : Nat → Rdg α} {n o p' : Nat} {ys : List α} (h : repR f (n + 1) o = .ok (ys, p')) : ∃ xs p x, repR f n o = .ok (xs, p) ∧ f p = .ok (x, p') ∧ ys = xs ++ [x] := by
  have h : (match repR f n o with | .error e => Except.error e | .ok (xs, p) => match f p with | .error e => .error e | .ok (x, p') => .ok (xs ++ [x], p')) = Except.ok (ys, p') := h
  cases e : repR f n o with
  | error e' => rw [e] at h; cases h
  | ok q =>
    obtain ⟨xs, p⟩ := q
    rw [e] at h
    simp only at h
    cases e2 : f p with
    | error e' => rw [e2] at h; cases h
    | ok q2 =>
      obtain ⟨x, p2⟩ := q2
      rw [e2] at h
      have z := Except.ok.inj h
      obtain ⟨z1, z2⟩ := Prod.mk.inj z
      exact ⟨xs, p, x, rfl, by rw [e2, z2], z1.symm⟩
theorem repR_len {α : Type} {f : Nat → Rdg α} : ∀ {n o p : Nat} {xs : List α}, repR f n o = .ok (xs, p) → xs.length = n
  | 0, _, _, _, h => by
    have z := (Prod.mk.inj (Except.ok.inj h)).1
    rw [← z]
    rfl
  | n + 1, _, _, _, h => by
    obtain ⟨xs, p, x, h1, _, rfl⟩ := repR_inv h
    rw [List.length_append, repR_len h1]
    rfl
abbrev lettersL : List Nat := letters.cps.toList
def nameR (l : List Nat) (o : Nat) : Rdg Str := match tkR l 1 8 o with
  | .error e => .error e
  | .ok (n, p) => match repR (oneR l lettersL) n p with
    | .error e => .error e
    | .ok (cs, p') => .ok (⟨cs.toArray⟩, p')
def nmsR (l : List Nat) : Nat → Nat → Rdg (List Str)
  | 0, o => .ok ([], o)
  | n + 1, o => match nmsR l n o with
    | .error e => .error e
    | .ok (ns, p) => match nameR l p with
      | .error e => .error e
      | .ok (z, p') => if z ∈ ns then .error p else .ok (ns ++ [z], p')
def namesR (l : List Nat) (o : Nat) : Rdg (List Str) := match tkR l 1 10 o with
  | .error e => .error e
  | .ok (n, p) => nmsR l n p
def clauseR (l : List Nat) (ns : List Str) (o : Nat) : Rdg PyData := match oneR l wordsL o with
  | .error e => .error e
  | .ok (w, p) => match oneR l ns p with
    | .error e => .error e
    | .ok (a, p2) => match oneR l ns p2 with
      | .error e => .error e
      | .ok (b, p3) => .ok (clD w a b, p3)
def clausesR (l : List Nat) (ns : List Str) (o : Nat) : Rdg (List PyData) := match tkR l 0 40 o with
  | .error e => .error e
  | .ok (n, p) => repR (clauseR l ns) n p
/-- the names whose bits are on -/
def bitS : List Str → Nat → List Str
  | [], _ => []
  | z :: ns, m => (if m / 2 ^ ns.length % 2 = 1 then [z] else []) ++ bitS ns m
def stateR (l : List Nat) (ns : List Str) (o : Nat) : Rdg (List Str) := match tkR l 0 255 o with
  | .error e => .error e
  | .ok (hi, p) => match tkR l 0 255 p with
    | .error e => .error e
    | .ok (lo, p') => if 256 * hi + lo < 2 ^ ns.length then .ok (bitS ns (256 * hi + lo), p') else .error o
def changesR (l : List Nat) (ns : List Str) (o : Nat) : Rdg (List Str) := match tkR l 0 200 o with
  | .error e => .error e
  | .ok (n, p) => repR (oneR l ns) n p
def finR (l : List Nat) (o : Nat) : Rdg Unit := match tkR l (ckN (l.take o)) (ckN (l.take o)) o with
  | .error e => .error e
  | .ok (_, p) => if p < l.length then .error p else .ok ((), p)
structure Roll where
  ns : List Str
  cd : List PyData
  st : List Str
  cs : List Str
def decR (l : List Nat) : Except Nat Roll := match tkR l 70 70 0 with
  | .error e => .error e
  | .ok (_, p1) => match namesR l p1 with
    | .error e => .error e
    | .ok (ns, p2) => match clausesR l ns p2 with
      | .error e => .error e
      | .ok (cd, p3) => match stateR l ns p3 with
        | .error e => .error e
        | .ok (st, p4) => match changesR l ns p4 with
          | .error e => .error e
          | .ok (cs, p5) => match finR l p5 with
            | .error e => .error e
            | .ok _ => .ok ⟨ns, cd, st, cs⟩

theorem oneR_seg {l : List Nat} {xs : List Str} {o p : Nat} {x : Str} (nd : xs.Nodup) (h : oneR l xs o = .ok (x, p)) : Seg l o p [xs.idxOf x] ∧ x ∈ xs := by
  obtain ⟨n, h1, h2, rfl⟩ := oneR_ok h
  have hm := List.mem_of_getElem? h2
  have e : xs.idxOf x = n := by
    obtain ⟨hn, e1⟩ := List.getElem?_eq_some_iff.mp h2
    have hi := idx_lt hm
    have e2 := (List.getElem?_eq_some_iff.mp (idx_at hm).1).2
    by_cases c : xs.idxOf x = n
    · exact c
    · exfalso
      have key := List.pairwise_iff_getElem.mp nd
      rcases Nat.lt_or_gt_of_ne c with c | c
      · exact key _ _ hi hn c (e2.trans e1.symm)
      · exact key _ _ hn hi c (e1.trans e2.symm)
  rw [e]
  exact ⟨Seg.one h1, hm⟩
theorem rep_seg {l : List Nat} {xs : List Str} (nd : xs.Nodup) : ∀ {n o p : Nat} {ys : List Str}, o ≤ l.length → repR (oneR l xs) n o = .ok (ys, p) → Seg l o p (ys.map xs.idxOf) ∧ ∀ z ∈ ys, z ∈ xs
  | 0, o, p, ys, ho, h => by
    obtain ⟨rfl, rfl⟩ := Prod.mk.inj (Except.ok.inj h)
    exact ⟨Seg.nil ho, fun z hz => by cases hz⟩
  | n + 1, o, p, ys, ho, h => by
    obtain ⟨xs', q, x, h1, h2, rfl⟩ := repR_inv h
    obtain ⟨s1, m1⟩ := rep_seg nd ho h1
    obtain ⟨s2, m2⟩ := oneR_seg nd h2
    refine ⟨by rw [List.map_append]; exact s1.trans s2, fun z hz => ?_⟩
    rcases List.mem_append.mp hz with hz | hz
    · exact m1 z hz
    · rw [List.mem_singleton.mp hz]
      exact m2
theorem rep_lets {l : List Nat} : ∀ {n o p : Nat} {ys : List Nat}, o ≤ l.length → repR (oneR l lettersL) n o = .ok (ys, p) → Seg l o p (ys.map lixN) ∧ ∀ c ∈ ys, c ∈ lettersL
  | 0, o, p, ys, ho, h => by
    obtain ⟨rfl, rfl⟩ := Prod.mk.inj (Except.ok.inj h)
    exact ⟨Seg.nil ho, fun z hz => by cases hz⟩
  | n + 1, o, p, ys, ho, h => by
    obtain ⟨xs', q, x, h1, h2, rfl⟩ := repR_inv h
    obtain ⟨s1, m1⟩ := rep_lets ho h1
    obtain ⟨k, k1, k2, rfl⟩ := oneR_ok h2
    have key : ∀ k < 26, ∀ c, lettersL[k]? = some c → lixN c = k := by decide +kernel
    have hk : k < 26 := (List.getElem?_eq_some_iff.mp k2).1
    have s2 : Seg l q (q + 1) [lixN x] := by
      rw [key k hk x k2]
      exact Seg.one k1
    refine ⟨by rw [List.map_append]; exact s1.trans s2, fun z hz => ?_⟩
    rcases List.mem_append.mp hz with hz | hz
    · exact m1 z hz
    · rw [List.mem_singleton.mp hz]
      exact List.mem_of_getElem? k2
theorem let_ok : ∀ c ∈ lettersL, c < 256 := by decide +kernel
theorem nameR_seg {l : List Nat} {o p : Nat} {z : Str} (h : nameR l o = .ok (z, p)) : Seg l o p (nmN z) ∧ nameOk (.str z) = true ∧ PyData.strOk z = true ∧ z.length ≤ 8 := by
  unfold nameR at h
  cases e : tkR l 1 8 o with
  | error e' => rw [e] at h; cases h
  | ok q =>
    obtain ⟨n, p1⟩ := q
    rw [e] at h
    simp only at h
    obtain ⟨h1, h2, h3, rfl⟩ := tkR_ok e
    cases e2 : repR (oneR l lettersL) n (o + 1) with
    | error e' => rw [e2] at h; cases h
    | ok q2 =>
      obtain ⟨cs, p2⟩ := q2
      rw [e2] at h
      obtain ⟨rfl, rfl⟩ := Prod.mk.inj (Except.ok.inj h)
      have hn := repR_len e2
      have s1 := Seg.one h1
      obtain ⟨s2, m2⟩ := rep_lets s1.2.2 e2
      have el : (⟨cs.toArray⟩ : Str).length = n := by
        show cs.toArray.size = n
        rw [List.size_toArray]
        exact hn
      refine ⟨?_, ?_, ?_, by omega⟩
      · show Seg l o p2 ((⟨cs.toArray⟩ : Str).length :: cs.map lixN)
        rw [el]
        exact s1.trans s2
      · show (decide (1 ≤ (((⟨cs.toArray⟩ : Str).length : Nat) : Int)) && decide ((((⟨cs.toArray⟩ : Str).length : Nat) : Int) ≤ 8) && cs.all fun c => decide (c ∈ letters.cps.toList)) = true
        rw [el, decide_eq_true (by omega), decide_eq_true (by omega), Bool.and_self, Bool.true_and, List.all_eq_true]
        exact fun c hc => decide_eq_true (m2 c hc)
      · show cs.toArray.all (· < 0x110000) = true
        rw [List.all_toArray, List.all_eq_true]
        intro c hc
        have := let_ok c (m2 c hc)
        exact decide_eq_true (by omega)
theorem nmsR_seg {l : List Nat} : ∀ {n o p : Nat} {ns : List Str}, o ≤ l.length → nmsR l n o = .ok (ns, p) → Seg l o p (ns.flatMap nmN) ∧ GoodN ns ∧ ns.length = n
  | 0, o, p, ns, ho, h => by
    obtain ⟨rfl, rfl⟩ := Prod.mk.inj (Except.ok.inj h)
    exact ⟨Seg.nil ho, ⟨List.nodup_nil, fun z hz => by cases hz⟩, rfl⟩
  | n + 1, o, p, ns, ho, h => by
    have h : (match nmsR l n o with | .error e => Except.error e | .ok (ns, p) => match nameR l p with | .error e => .error e | .ok (z, p') => if z ∈ ns then .error p else .ok (ns ++ [z], p')) = Except.ok (ns, p) := h
    cases e : nmsR l n o with
    | error e' => rw [e] at h; cases h
    | ok q =>
      obtain ⟨ms, p1⟩ := q
      rw [e] at h
      simp only at h
      cases e2 : nameR l p1 with
      | error e' => rw [e2] at h; cases h
      | ok q2 =>
        obtain ⟨z, p2⟩ := q2
        rw [e2] at h
        simp only at h
        by_cases c : z ∈ ms
        · rw [if_pos c] at h
          cases h
        · rw [if_neg c] at h
          obtain ⟨rfl, rfl⟩ := Prod.mk.inj (Except.ok.inj h)
          obtain ⟨s1, g1, l1⟩ := nmsR_seg ho e
          obtain ⟨s2, n2⟩ := nameR_seg e2
          refine ⟨?_, ⟨?_, fun y hy => ?_⟩, by rw [List.length_append, l1]; rfl⟩
          · rw [List.flatMap_append, List.flatMap_cons, List.flatMap_nil, List.append_nil]
            exact s1.trans s2
          · rw [List.nodup_append]
            refine ⟨g1.nd, by simp, fun a ha b hb => ?_⟩
            rw [List.mem_singleton.mp hb]
            exact fun q => c (q ▸ ha)
          · rcases List.mem_append.mp hy with hy | hy
            · exact g1.al y hy
            · rw [List.mem_singleton.mp hy]
              exact n2
theorem namesR_seg {l : List Nat} {o p : Nat} {ns : List Str} (h : namesR l o = .ok (ns, p)) : Seg l o p (nmsN ns) ∧ GoodN ns ∧ 0 < ns.length ∧ ns.length ≤ 10 := by
  unfold namesR at h
  cases e : tkR l 1 10 o with
  | error e' => rw [e] at h; cases h
  | ok q =>
    obtain ⟨n, p1⟩ := q
    rw [e] at h
    simp only at h
    obtain ⟨h1, h2, h3, rfl⟩ := tkR_ok e
    have s1 := Seg.one h1
    obtain ⟨s2, g2, l2⟩ := nmsR_seg s1.2.2 h
    refine ⟨?_, g2, by omega, by omega⟩
    show Seg l o p (ns.length :: ns.flatMap nmN)
    rw [l2]
    exact s1.trans s2
theorem words_nodup : wordsL.Nodup := by decide +kernel
theorem clauseR_seg {l : List Nat} {ns : List Str} {o p : Nat} {d : PyData} (nd : ns.Nodup) (h : clauseR l ns o = .ok (d, p)) : Seg l o p (clN ns d) ∧ ClD ns d := by
  unfold clauseR at h
  cases e : oneR l wordsL o with
  | error e' => rw [e] at h; cases h
  | ok q =>
    obtain ⟨w, p1⟩ := q
    rw [e] at h
    simp only at h
    cases e2 : oneR l ns p1 with
    | error e' => rw [e2] at h; cases h
    | ok q2 =>
      obtain ⟨a, p2⟩ := q2
      rw [e2] at h
      simp only at h
      cases e3 : oneR l ns p2 with
      | error e' => rw [e3] at h; cases h
      | ok q3 =>
        obtain ⟨b, p3⟩ := q3
        rw [e3] at h
        obtain ⟨rfl, rfl⟩ := Prod.mk.inj (Except.ok.inj h)
        obtain ⟨s1, m1⟩ := oneR_seg words_nodup e
        obtain ⟨s2, m2⟩ := oneR_seg nd e2
        obtain ⟨s3, m3⟩ := oneR_seg nd e3
        refine ⟨(s1.trans s2).trans s3, w, a, b, rfl, ?_, m2, m3⟩
        have : ∀ w ∈ wordsL, isWord w := fun w hw => by
          unfold isWord
          simpa [wordsL] using hw
        exact this w m1
theorem clausesR_seg {l : List Nat} {ns : List Str} {o p : Nat} {cd : List PyData} (nd : ns.Nodup) (h : clausesR l ns o = .ok (cd, p)) : Seg l o p (clauN ns cd) ∧ (∀ d ∈ cd, ClD ns d) ∧ cd.length ≤ 40 := by
  have rep : ∀ {n o p : Nat} {cd : List PyData}, o ≤ l.length → repR (clauseR l ns) n o = .ok (cd, p) → Seg l o p (cd.flatMap (clN ns)) ∧ ∀ d ∈ cd, ClD ns d := fun {n} => by
    induction n with
    | zero =>
      intro o p cd ho h
      obtain ⟨rfl, rfl⟩ := Prod.mk.inj (Except.ok.inj h)
      exact ⟨Seg.nil ho, fun z hz => by cases hz⟩
    | succ n ih =>
      intro o p cd ho h
      obtain ⟨xs', q, x, h1, h2, rfl⟩ := repR_inv h
      obtain ⟨s1, m1⟩ := ih ho h1
      obtain ⟨s2, m2⟩ := clauseR_seg nd h2
      refine ⟨?_, fun z hz => ?_⟩
      · rw [List.flatMap_append, List.flatMap_cons, List.flatMap_nil, List.append_nil]
        exact s1.trans s2
      · rcases List.mem_append.mp hz with hz | hz
        · exact m1 z hz
        · rw [List.mem_singleton.mp hz]
          exact m2
  unfold clausesR at h
  cases e : tkR l 0 40 o with
  | error e' => rw [e] at h; cases h
  | ok q =>
    obtain ⟨n, p1⟩ := q
    rw [e] at h
    simp only at h
    obtain ⟨h1, _, h3, rfl⟩ := tkR_ok e
    have s1 := Seg.one h1
    obtain ⟨s2, m2⟩ := rep s1.2.2 h
    have ln := repR_len h
    refine ⟨?_, m2, by omega⟩
    show Seg l o p (cd.length :: cd.flatMap (clN ns))
    rw [ln]
    exact s1.trans s2
theorem bitS_sub : ∀ (ns : List Str) (m : Nat), (bitS ns m).Sublist ns
  | [], _ => .slnil
  | z :: ns, m => by
    show ((if m / 2 ^ ns.length % 2 = 1 then [z] else []) ++ bitS ns m).Sublist (z :: ns)
    split
    · exact (bitS_sub ns m).cons₂ z
    · exact (bitS_sub ns m).cons z
theorem stN_from (s : List Str) : ∀ (ns : List Str) (k : Nat), ns.foldl (fun n z => 2 * n + (if z ∈ s then 1 else 0)) k = k * 2 ^ ns.length + stN s ns
  | [], k => by
    show k = k * 1 + 0
    omega
  | z :: ns, k => by
    show ns.foldl _ (2 * k + _) = _
    rw [stN_from s ns]
    have e : stN s (z :: ns) = ns.foldl (fun n z => 2 * n + (if z ∈ s then 1 else 0)) (2 * 0 + (if z ∈ s then 1 else 0)) := rfl
    rw [e, stN_from s ns, List.length_cons, Nat.pow_succ]
    generalize 2 ^ ns.length = q
    generalize (if z ∈ s then 1 else 0) = b
    rw [Nat.add_mul, Nat.add_mul, Nat.mul_comm 2 k, Nat.mul_assoc, Nat.mul_comm 2 q]
    omega
theorem stN_congr {s t : List Str} : ∀ {ns : List Str}, (∀ z ∈ ns, z ∈ s ↔ z ∈ t) → stN s ns = stN t ns := fun {ns} h => by
  have : ∀ (ns : List Str) (k : Nat), (∀ z ∈ ns, z ∈ s ↔ z ∈ t) → ns.foldl (fun n z => 2 * n + (if z ∈ s then 1 else 0)) k = ns.foldl (fun n z => 2 * n + (if z ∈ t then 1 else 0)) k := fun ns => by
    induction ns with
    | nil => intro _ _; rfl
    | cons z ns ih =>
      intro k h
      rw [List.foldl_cons, List.foldl_cons]
      have e : (if z ∈ s then 1 else 0) = (if z ∈ t then 1 else 0) := by
        have z1 := h z (List.mem_cons_self ..)
        by_cases c : z ∈ s
        · rw [if_pos c, if_pos (z1.mp c)]
        · rw [if_neg c, if_neg fun q => c (z1.mpr q)]
      rw [e]
      exact ih _ fun y hy => h y (List.mem_cons_of_mem _ hy)
  exact this ns 0 h
theorem stN_bit : ∀ {ns : List Str} {m : Nat}, ns.Nodup → stN (bitS ns m) ns = m % 2 ^ ns.length
  | [], m, _ => by
    show 0 = m % 1
    omega
  | z :: ns, m, nd => by
    obtain ⟨nz, nd'⟩ := List.nodup_cons.mp nd
    have ih := stN_bit (m := m) nd'
    have e0 : stN (bitS (z :: ns) m) (z :: ns) = (if z ∈ bitS (z :: ns) m then 1 else 0) * 2 ^ ns.length + stN (bitS (z :: ns) m) ns := by
      show ns.foldl _ (2 * 0 + _) = _
      rw [stN_from]
      congr 2
      omega
    have e1 : stN (bitS (z :: ns) m) ns = stN (bitS ns m) ns := stN_congr fun y hy => by
      show y ∈ (if m / 2 ^ ns.length % 2 = 1 then [z] else []) ++ bitS ns m ↔ _
      have ny : y ≠ z := fun q => nz (q ▸ hy)
      split
      · simp [ny]
      · simp
    have e2 : (z ∈ bitS (z :: ns) m) ↔ m / 2 ^ ns.length % 2 = 1 := by
      show z ∈ (if m / 2 ^ ns.length % 2 = 1 then [z] else []) ++ bitS ns m ↔ _
      have nb : z ∉ bitS ns m := fun q => nz ((bitS_sub ns m).subset q)
      split
      · simp [*]
      · simp [*]
    rw [e0, e1, ih, List.length_cons, Nat.pow_succ]
    have key := Nat.mod_mul (x := m) (a := 2 ^ ns.length) (b := 2)
    rw [key]
    by_cases c : m / 2 ^ ns.length % 2 = 1
    · rw [if_pos (e2.mpr c), c]
      omega
    · rw [if_neg fun q => c (e2.mp q)]
      have : m / 2 ^ ns.length % 2 = 0 := by omega
      rw [this]
      omega
theorem stateR_seg {l : List Nat} {ns : List Str} {o p : Nat} {st : List Str} (nd : ns.Nodup) (h : stateR l ns o = .ok (st, p)) : Seg l o p (stsN ns st) ∧ st.Sublist ns := by
  unfold stateR at h
  cases e : tkR l 0 255 o with
  | error e' => rw [e] at h; cases h
  | ok q =>
    obtain ⟨hi, p1⟩ := q
    rw [e] at h
    simp only at h
    obtain ⟨h1, _, h3, rfl⟩ := tkR_ok e
    cases e2 : tkR l 0 255 (o + 1) with
    | error e' => rw [e2] at h; cases h
    | ok q2 =>
      obtain ⟨lo, p2⟩ := q2
      rw [e2] at h
      simp only at h
      obtain ⟨k1, _, k3, rfl⟩ := tkR_ok e2
      by_cases c : 256 * hi + lo < 2 ^ ns.length
      · rw [if_pos c] at h
        obtain ⟨rfl, rfl⟩ := Prod.mk.inj (Except.ok.inj h)
        refine ⟨?_, bitS_sub _ _⟩
        unfold stsN
        rw [stN_bit nd, Nat.mod_eq_of_lt c, show (256 * hi + lo) / 256 = hi by omega, show (256 * hi + lo) % 256 = lo by omega]
        exact (Seg.one h1).trans (Seg.one k1)
      · rw [if_neg c] at h
        cases h
theorem changesR_seg {l : List Nat} {ns : List Str} {o p : Nat} {cs : List Str} (nd : ns.Nodup) (h : changesR l ns o = .ok (cs, p)) : Seg l o p (cs.length :: cs.map ns.idxOf) ∧ (∀ z ∈ cs, z ∈ ns) ∧ cs.length ≤ 200 := by
  unfold changesR at h
  cases e : tkR l 0 200 o with
  | error e' => rw [e] at h; cases h
  | ok q =>
    obtain ⟨n, p1⟩ := q
    rw [e] at h
    simp only at h
    obtain ⟨h1, _, h3, rfl⟩ := tkR_ok e
    have s1 := Seg.one h1
    obtain ⟨s2, m2⟩ := rep_seg nd s1.2.2 h
    have ln := repR_len h
    refine ⟨?_, m2, by omega⟩
    rw [ln]
    exact s1.trans s2
theorem decR_ok {l : List Nat} {R : Roll} (h : decR l = .ok R) : l = closedN (rollN R.ns R.cd R.st R.cs) ∧ GoodN R.ns ∧ 0 < R.ns.length ∧ R.ns.length ≤ 10 ∧ (∀ d ∈ R.cd, ClD R.ns d) ∧ R.cd.length ≤ 40 ∧ R.st.Sublist R.ns ∧ (∀ z ∈ R.cs, z ∈ R.ns) ∧ R.cs.length ≤ 200 := by
  unfold decR at h
  cases e1 : tkR l 70 70 0 with
  | error e' => rw [e1] at h; cases h
  | ok q1 =>
    obtain ⟨n1, p1⟩ := q1
    rw [e1] at h
    simp only at h
    cases e2 : namesR l p1 with
    | error e' => rw [e2] at h; cases h
    | ok q2 =>
      obtain ⟨ns, p2⟩ := q2
      rw [e2] at h
      simp only at h
      cases e3 : clausesR l ns p2 with
      | error e' => rw [e3] at h; cases h
      | ok q3 =>
        obtain ⟨cd, p3⟩ := q3
        rw [e3] at h
        simp only at h
        cases e4 : stateR l ns p3 with
        | error e' => rw [e4] at h; cases h
        | ok q4 =>
          obtain ⟨st, p4⟩ := q4
          rw [e4] at h
          simp only at h
          cases e5 : changesR l ns p4 with
          | error e' => rw [e5] at h; cases h
          | ok q5 =>
            obtain ⟨cs, p5⟩ := q5
            rw [e5] at h
            simp only at h
            cases e6 : finR l p5 with
            | error e' => rw [e6] at h; cases h
            | ok q6 =>
              obtain ⟨u, p6⟩ := q6
              rw [e6] at h
              obtain rfl := Except.ok.inj h
              obtain ⟨a1, a2, a3, rfl⟩ := tkR_ok e1
              have s1 := Seg.one a1
              have en : n1 = 70 := by omega
              rw [en] at s1
              obtain ⟨s2, gn, n0, n10⟩ := namesR_seg e2
              obtain ⟨s3, hcl, h40⟩ := clausesR_seg gn.nd e3
              obtain ⟨s4, hsub⟩ := stateR_seg gn.nd e4
              obtain ⟨s5, hcs, h200⟩ := changesR_seg gn.nd e5
              refine ⟨?_, gn, n0, n10, hcl, h40, hsub, hcs, h200⟩
              have s := (((s1.trans s2).trans s3).trans s4).trans s5
              have er : ((([70] ++ nmsN ns) ++ clauN ns cd) ++ stsN ns st) ++ (cs.length :: cs.map ns.idxOf) = rollN ns cd st cs := by
                unfold rollN
                simp only [List.append_assoc, List.cons_append, List.nil_append]
              rw [er] at s
              have etk : l.take p5 = rollN ns cd st cs := by
                have z := s.1
                rw [List.drop_zero] at z
                have z2 := s.2.1
                rw [Nat.zero_add] at z2
                conv => lhs; rw [z]
                rw [z2, List.take_left]
              unfold finR at e6
              rw [etk] at e6
              cases e7 : tkR l (ckN (rollN ns cd st cs)) (ckN (rollN ns cd st cs)) p5 with
              | error e' => rw [e7] at e6; cases e6
              | ok q7 =>
                obtain ⟨k, p7⟩ := q7
                rw [e7] at e6
                simp only at e6
                obtain ⟨b1, b2, b3, rfl⟩ := tkR_ok e7
                by_cases c : p5 + 1 < l.length
                · rw [if_pos c] at e6
                  cases e6
                · have s6 := Seg.one b1
                  have ek : k = ckN (rollN ns cd st cs) := by omega
                  rw [ek] at s6
                  have z := (s.trans s6).1
                  rw [List.drop_zero, List.drop_eq_nil_of_le (by omega), List.append_nil] at z
                  exact z
local macro_rules | `(tactic| walk_at "rs") => `(tactic| first | (with_reducible refine r_tM1 ?_) | walk_at "rd")
section
variable {P : Program} {w : World} {K : PySem.W.Frag} {mg : Str → Option Value} {base : Heap} {G : List Addr} {L : List (Addr × Str)}
theorem ErrAt.mono {r : Addr} {H H1 : Hp} {E : XK} {e : Nat} (h : ErrAt K G L r H E e) (g : GoR G L r H H1) : ErrAt K G L r H1 E e := fun dd H' g' q => h dd H' (g.trans g') q
theorem r_takeX {r nl : Addr} {a b o : Nat} {l : List Nat} {H : Hp} {Q : VK} {E : XK} (hR : RdAt K H r nl l o) (hl : l.length ≤ 900) (ho : o ≤ l.length) (h : EndR K G L r nl l H (tkR l a b o) E fun n H' => Q (.int (n : Nat)) H') : spTake K G L (.ref r :: ([.int (a : Nat), .int (b : Nat)] ++ [])) H Q E := by
  refine ⟨r, nl, a, b, l, o, rfl, hR, hl, ho, fun hb dd H' g e => h.1 o (tkR_bad hb) dd H' g.toR e, fun n hn h1 h2 H' g R => h.2 n (o + 1) (tkR_good hn h1 h2) H' g R⟩
def spTakeOneX (K : PySem.W.Frag) (G : List Addr) (L : List (Addr × Str)) : Sp := fun vs H Q E => ∃ (r nl : Addr) (cv : V) (l : List Nat) (o : Nat) (xs : List V), vs = [.ref r, cv] ∧ RdAt K H r nl l o ∧ l.length ≤ 900 ∧ o ≤ l.length ∧ Cho K G L r H cv xs ∧ xs ≠ [] ∧ xs.length ≤ 1000 ∧ EndR K G L r nl l H (oneR l xs o) E Q
theorem ok_takeOneX {f : Addr} {fd : FuncData} (F : Fun K "take_one_of" "Reader.take_one_of" (sD 2) f fd) (zL : mg "len" = none) (TKE : FmC P w K mg base (cD K) "take" 3 (spTake K G L)) : FnOk P w K mg base (L2.CX P w) 4 f fd ["self", "choices"] (spTakeOneX K G L) := by
  refine F.okX scTakeOne (fun vs H Q E h => ?_) (fun cdv A outer s H vs Q E hr h => ?_)
  · obtain ⟨r, nl, cv, l, o, xs, e, _⟩ := h
    rw [e]
    rfl
  · obtain ⟨r, nl, cv, l, o, xs, e, hR, hl, ho, hc, hne, hx, q⟩ := h
    subst e
    refine ⟨_, pss_one (ps_ret (pe_ix (r := rIx K) ix_seq (pv 1) (pe_fmC TKE hr (pv 0) (passes_call (takes_of rfl rfl rfl rfl) fun _ _ _ _ z => z) (pa_cons pe_int (pa_cons (pe_op op_sub (pe_callB (r := rLenA K) c_lenA rfl zL boot_len (pa_cons (pv 1) pa_nil)) pe_int) pa_nil))) (fun _ _ => rfl))), ?_⟩
    have hp := List.length_pos_iff.mpr hne
    repeat walk_at "rd"
    refine r_fmC (fun R z => ⟨_, rfl, z⟩) hR (by decide +kernel) ?_
    have main : spTake K G L (.ref r :: ([.int 0, .int (((xs.length : Nat) : Int) - 1)] ++ [])) H (fun x H1 => rIx K cv x H1 Q) E := by
      have e : ((xs.length : Nat) : Int) - 1 = ((xs.length - 1 : Nat) : Int) := by omega
      rw [e]
      refine r_takeX (a := 0) hR hl ho ⟨fun e he => ?_, fun n p hn H1 g1 R1 => ?_⟩
      · obtain ⟨rfl, h2⟩ := tkR_err he
        exact q.1 _ (oneR_bad hne fun n hn => by have := h2 n hn; omega)
      obtain ⟨h1, _, h3, rfl⟩ := tkR_ok hn
      have hv : xs[n]? = some xs[n] := List.getElem?_eq_getElem (by omega)
      generalize xs[n] = v at hv
      have q2 := q.2 v (o + 1) (oneR_good h1 hv)
      rcases hc with ⟨z, rfl, hz, rfl⟩ | ⟨a, rfl, _, ha⟩
      · rw [List.getElem?_map] at hv
        cases hcn : z.cps.toList[n]? with
        | none => rw [hcn] at hv; cases hv
        | some c =>
          rw [hcn] at hv
          obtain rfl : V.str ⟨#[c]⟩ = v := Option.some.inj hv
          exact .inr (.inr ⟨z, (n : Nat), c, rfl, rfl, by rw [sizeLine_eq]; omega, atI_nat hcn, q2 H1 g1 R1⟩)
      · exact .inr (.inl (r_ixT (ha H1 g1) (atI_nat hv) (q2 H1 g1 R1)))
    repeat walk_at "rd"
    rcases hc with ⟨z, rfl, hz, rfl⟩ | ⟨a, rfl, ha, _⟩
    · refine .inr ⟨z, rfl, by rw [sizeLine_eq]; omega, ?_⟩
      rw [List.length_map, Array.length_toList] at main
      repeat walk_at "rd"
      exact main
    · refine .inl (r_lenT ha ?_)
      repeat walk_at "rd"
      exact main
def spReadNameX (K : PySem.W.Frag) (G : List Addr) (L : List (Addr × Str)) : Sp := fun vs H Q E => ∃ (r nl : Addr) (l : List Nat) (o : Nat), vs = [.ref r] ∧ RdAt K H r nl l o ∧ l.length ≤ 900 ∧ o ≤ l.length ∧ EndR K G L r nl l H (nameR l o) E fun z H' => Q (.str z) H'
theorem ok_readNameX {f : Addr} {fd : FuncData} {t8 tz : Tok} (F : Fun K "_read_name" "_read_name" sReadName f fd) (zR : mg "range" = none) (g8 : mg "MOST_LETTERS" = some (.int 8 t8)) (gL : mg "LETTERS" = some (.str letters tz)) (TKE : FmC P w K mg base (cD K) "take" 3 (spTake K G L)) (TK1 : FmC P w K mg base (cD K) "take_one_of" 4 (spTakeOneX K G L)) :
    FnOk P w K mg base (L2.CX P w) 5 f fd ["reader"] (spReadNameX K G L) := by
  refine F.okX scReadName (fun vs H Q E h => ?_) (fun cdv A outer s H vs Q E hr h => ?_)
  · obtain ⟨r, nl, l, o, e, _⟩ := h
    rw [e]
    rfl
  · obtain ⟨r, nl, l, o, e, hR, hl, ho, q⟩ := h
    subst e
    refine ⟨_, pss_cons (ps_set (i := 1) scReadName.nd rfl (Or.inl rfl) (pe_fmC TKE hr (pv 0) (passes_call (takes_of rfl rfl rfl rfl) fun _ _ _ _ z => z) (pa_cons pe_int (pa_cons (pe_glob (v := .int 8) rfl g8 ⟨_, rfl⟩) pa_nil))))
(pss_one (ps_ret (pe_joinK pe_str (pe_lcX (own := [("_", 2)]) (g := gName 2) (takes_of rfl rfl rfl rfl) rfl rfl rfl scReadName.nd (pi_range1 rfl zR (pa_cons (pv 1) pa_nil))
            (blkOk_by (own := [("_", 2)]) (N := nRn) (sc := defScope sReadName) (by decide +kernel)) (fun _ _ _ _ _ _ => pg_name (i := 2) scReadName.nd rfl (.inl rfl))
            (fun _ _ _ _ _ _ out => show PE _ _ (tMeth (cD K) "take_one_of" (spTakeOneX K G L) [] E _ _) from pe_fmC (E := E) TK1 hr (pv 0) (out E fun _ _ _ _ z => z) (pa_cons (pe_glob (v := .str letters) rfl gL ⟨_, rfl⟩) pa_nil)))))), ?_⟩
    repeat walk_at "rs"
    refine r_fmC (fun R z => ⟨_, rfl, z⟩) hR (by decide +kernel) ?_
    repeat walk_at "rs"
    refine r_takeX (a := 1) (b := 8) hR hl ho ⟨fun e he => q.1 e ?_, fun n p hn H1 g1 R1 => ?_⟩
    · unfold nameR
      rw [he]
    obtain ⟨h0, h1, h8, rfl⟩ := tkR_ok hn
    have ho1 := (List.getElem?_eq_some_iff.mp h0).1
    have eN : nameR l o = match repR (oneR l lettersL) n (o + 1) with | .error e => .error e | .ok (cs, p') => .ok (⟨cs.toArray⟩, p') := by
      show (match tkR l 1 8 o with | .error e => _ | .ok (n, p) => _) = _
      first | (rw [hn]; done) | (rw [hn]; rfl)
    repeat walk_at "rs"
    refine ⟨⟨_, rfl⟩, ?_⟩
    refine lcR (n := n) (H0 := H1) (fun R y => ⟨_, rfl, y⟩) (by omega) (fun D i H' => ∃ cs p, repR (oneR l lettersL) i (o + 1) = .ok (cs, p) ∧ GoR G L r H1 H' ∧ RdAt K H' r nl l p ∧ p ≤ l.length ∧ H' D = some (.lst ((cs.map fun c => (⟨#[c]⟩ : Str)).map V.str))) ?_ ?_ ?_
    · intro D hD
      exact ⟨[], o + 1, rfl, (Go.new hD).toR, R1.go (Go.new (G := G) (L := L) hD), ho1, upd_same⟩
    · rintro D i H' hD hi ⟨cs, p, hcs, g, R2, hp, eD⟩
      have hcl := repR_len hcs
      refine r_gN ⟨rfl, r_yes ?_⟩
      repeat walk_at "rs"
      refine r_fmC (fun R z => ⟨_, rfl, z⟩) R2 (by decide +kernel) ?_
      repeat walk_at "rs"
      refine ⟨r, nl, .str letters, l, p, lettersL.map fun c => V.str ⟨#[c]⟩, rfl, R2, hl, hp, .inl ⟨letters, rfl, by decide +kernel, rfl⟩, by decide +kernel, by decide +kernel, EndR.map ⟨fun e he => ?_, fun c p' hc H3 g3 R3 => ?_⟩⟩
      · refine (q.1 e ?_).mono (g1.trans g)
        rw [eN, repR_err hcs he n hi]
      have eD3 := lst_gr R2 g3 eD
      obtain ⟨k, k1, _, rfl⟩ := oneR_ok hc
      refine ⟨_, eD3, by rw [List.length_map, List.length_map, sizeLine_eq]; omega, cs ++ [c], p + 1, repR_ok hcs hc, (g.trans g3).updNew hD eD3, R3.updD eD3 (R1.nln hD), (List.getElem?_eq_some_iff.mp k1).1, ?_⟩
      rw [upd_same, List.map_append, List.map_append]
      rfl
    · rintro D H' hD ⟨cs, p, hcs, g, R2, hp, eD⟩
      have hcl := repR_len hcs
      repeat walk_at "rs"
      refine ⟨"", D, _, rfl, rfl, .inl (.of eD), ?_, ?_⟩
      · rw [sum_signs, List.length_map]
        have e0 : ("" : Str).length = 0 := by decide +kernel
        rw [e0]
        omega
      · rw [join_signs]
        exact q.2 ⟨cs.toArray⟩ p (by rw [eN, hcs]) H' (g1.trans g) R2
end
local macro_rules | `(tactic| walk_at "rs") => `(tactic| first | (with_reducible refine r_tM1 ?_) | walk_at "rd")
theorem nmsR_err {l : List Nat} {n o p e : Nat} {ns : List Str} (h : nmsR l n o = .ok (ns, p)) (hx : (match nameR l p with | .error e => Except.error e | .ok (z, p') => if z ∈ ns then .error p else .ok (ns ++ [z], p')) = .error e) : ∀ m, n < m → nmsR l m o = .error e
  | 0, hm => by omega
  | m + 1, hm => by
    show (match nmsR l m o with | .error e => _ | .ok (xs, p) => _) = _
    by_cases c : m = n
    · rw [c, h]
      exact hx
    · rw [nmsR_err h hx m (by omega)]
theorem nmsR_good {l : List Nat} {n o p p' : Nat} {ns : List Str} {z : Str} (h : nmsR l n o = .ok (ns, p)) (hz : nameR l p = .ok (z, p')) (nz : z ∉ ns) : nmsR l (n + 1) o = .ok (ns ++ [z], p') := by
  show (match nmsR l n o with | .error e => _ | .ok (xs, p) => _) = _
  rw [h]
  simp only
  rw [hz]
  exact if_neg nz
section
variable {P : Program} {w : World} {K : PySem.W.Frag} {mg : Str → Option Value} {base : Heap} {G : List Addr} {L : List (Addr × Str)}
def spReadNamesX (K : PySem.W.Frag) (G : List Addr) (L : List (Addr × Str)) : Sp := fun vs H Q E => ∃ (r nl : Addr) (l : List Nat) (o : Nat), vs = [.ref r] ∧ RdAt K H r nl l o ∧ l.length ≤ 900 ∧ o ≤ l.length ∧
  EndR K G L r nl l H (namesR l o) E fun ns H' => ∀ T, NT H' T (ns.map V.str) → Q (.ref T) H'
theorem ok_readNamesX {f : Addr} {fd : FuncData} {t10 : Tok} (F : Fun K "_read_names" "_read_names" sReadNames f fd) (zR : mg "range" = none) (g10 : mg "MOST_NAMES" = some (.int 10 t10)) (R : RdC K mg) (T : Err P w K mg base "DecodeError" (spDE K (He.ga K "DecodeError"))) (TKE : FmC P w K mg base (cD K) "take" 3 (spTake K G L)) (RDN : Fd (L2.CX P w) P w K mg base "_read_name" 5 (spReadNameX K G L)) :
    FnOk P w K mg base (L2.CX P w) 6 f fd ["reader"] (spReadNamesX K G L) := by
  refine F.okX scReadNames (fun vs H Q E h => ?_) (fun cdv A outer s H vs Q E hr h => ?_)
  · obtain ⟨r, nl, l, o, e, _⟩ := h
    rw [e]
    rfl
  · obtain ⟨r, nl, l, o, e, hR, hl, ho, q⟩ := h
    subst e
    refine ⟨_, pss_cons (ps_set (i := 1) scReadNames.nd rfl (Or.inl rfl) (pe_fmC TKE hr (pv 0) (passes_call (takes_of rfl rfl rfl rfl) fun _ _ _ _ z => z) (pa_cons pe_int (pa_cons (pe_glob (v := .int 10) rfl g10 ⟨_, rfl⟩) pa_nil))))
(pss_cons (ps_set (i := 2) scReadNames.nd rfl (Or.inl rfl) (pe_tupN pa_nil))
(pss_cons (ps_for (passes_of rfl) rfl (pi_range1 rfl zR (pa_cons (pv 1) pa_nil)) (pg_name (i := 3) scReadNames.nd rfl (.inl rfl))
  (pss_cons (ps_set (i := 4) scReadNames.nd rfl (Or.inl rfl) (pe_fld (pv 0) rfl))
  (pss_cons (ps_set (i := 5) scReadNames.nd rfl (Or.inl rfl) (pe_fd RDN hr (passes_call (takes_of rfl rfl rfl rfl) fun _ _ _ _ z => z) (pa_cons (pv 0) pa_nil)))
  (pss_cons (ps_if (pt_cmpR (op_inT (u65 hr)) (pv 5) (pv 2) rfl)
    (pss_one (ps_raise rfl (takes_of rfl rfl rfl rfl) (pmk_err T hr (pa_cons (pv 4) pa_nil)))) pss_nil)
  (pss_one (ps_set (i := 2) scReadNames.nd rfl (Or.inl rfl) (pe_op (r := rCatN K) op_catN (pv 2) (pe_tupN (pa_cons (pv 5) pa_nil)))))))))
(pss_one (ps_ret (pv 2))))), ?_⟩
    repeat walk_at "rs"
    refine r_fmC (fun R z => ⟨_, rfl, z⟩) hR (by decide +kernel) ?_
    repeat walk_at "rs"
    refine r_takeX (a := 1) (b := 10) hR hl ho ⟨fun e he => q.1 e ?_, fun n p hn H1 g1 R1 => ?_⟩
    · unfold namesR
      rw [he]
    obtain ⟨h0, h1, h10, rfl⟩ := tkR_ok hn
    have ho1 : o + 1 ≤ l.length := (List.getElem?_eq_some_iff.mp h0).1
    have eN : namesR l o = nmsR l n (o + 1) := by
      show (match tkR l 1 10 o with | .error e => _ | .ok (n, p) => _) = _
      first | (rw [hn]; done) | (rw [hn]; rfl)
    rw [eN] at q
    repeat walk_at "rs"
    refine ⟨by show 0 ≤ sizeLine; exact Nat.zero_le _, fun p2 H2 n2 k2 t2 => ?_⟩
    have g12 : GoR G L r H H2 := g1.trans (Go.same (G := G) (L := L) k2).toR
    have R2 := R1.go (Go.same (G := G) (L := L) k2)
    repeat walk_at "rs"
    refine forR (n := n) (H0 := H2) (fun R y => ⟨_, rfl, y⟩) (by omega) (fun i σ H' => ∃ (x3 x4 x5 : Option V) (S : Addr) (ns : List Str) (p : Nat), σ = [some (.ref r), some (.int (n : Nat)), some (.ref S), x3, x4, x5] ∧ nmsR l i (o + 1) = .ok (ns, p) ∧ GoR G L r H H' ∧ RdAt K H' r nl l p ∧ p ≤ l.length ∧ NT H' S (ns.map V.str)) ?_ ?_ ?_
    · exact ⟨none, none, none, p2, [], o + 1, rfl, rfl, g12, R2, ho1, t2⟩
    · rintro i σ H' hi ⟨x3, x4, x5, S, ns, p, rfl, hns, g, R3, hp, hS⟩
      obtain ⟨_, gn, hnl⟩ := nmsR_seg ho1 hns
      refine r_gN ?_
      repeat walk_at "rs"
      refine r_fo R R3 ?_
      repeat walk_at "rs"
      refine ⟨r, nl, l, p, rfl, R3, hl, hp, fun e he => (q.1 e (nmsR_err hns (by rw [he]) n hi)).mono g, fun z p' hz H4 g4 R4 => ?_⟩
      obtain ⟨sz, nz1, nz2, nz3⟩ := nameR_seg hz
      have hS4 := nt_gr R3 g4 hS
      repeat walk_at "rs"
      refine r_inT (d := .str z) (ds := ns.map PyData.str) (.str z) (.tup hS4.seq (dps_strs _)) (lv_str nz2) (lv_strs fun y hy => (gn.al y hy).2.1) ?_
      rw [show inD (.str z) (ns.map PyData.str) = decide (z ∈ ns) from in_strs ..]
      repeat walk_at "rs"
      refine r_if (fun c => ?_) (fun c => ?_)
      · have c2 := of_decide_eq_true c
        repeat walk_at "rs"
        refine r_mk ?_
        repeat walk_at "rs"
        refine mkDE_fin (by omega) fun dd Hx k hx => ?_
        exact q.1 p (nmsR_err hns (by rw [hz]; exact if_pos c2) n hi) dd Hx ((g.trans g4).trans (Go.same (G := G) (L := L) k).toR) hx
      have c2 := of_decide_eq_false c
      repeat walk_at "rs"
      try refine r_tupN ?_
      repeat walk_at "rs"
      refine ⟨by show 1 ≤ sizeLine; decide, fun p5 H5 n5 k5 t5 => ?_⟩
      have hN : NT H5 S (ns.map V.str) := hS4.kt (Go.same (G := G) (L := L) k5).kt
      refine ⟨S, p5, _, _, rfl, rfl, hN, t5, by rw [List.length_map, sizeLine_eq]; show _ + 1 ≤ _; omega, fun p6 H6 k6 t6 => ?_⟩
      have g46 : Go G L H4 H6 := (Go.same k5).trans (Go.same k6)
      refine ⟨_, _, _, p6, ns ++ [z], p', rfl, nmsR_good hns hz c2, (g.trans g4).trans g46.toR, R4.go g46, sz.2.2, ?_⟩
      rw [List.map_append]
      exact t6
    · rintro σ H' ⟨x3, x4, x5, S, ns, p, rfl, hns, g, R3, hp, hS⟩
      repeat walk_at "rs"
      exact q.2 ns p hns H' g R3 S hS
def spReadClauseX (K : PySem.W.Frag) (G : List Addr) (L : List (Addr × Str)) : Sp := fun vs H Q E => ∃ (r nl an : Addr) (l : List Nat) (o : Nat) (ns : List Str), vs = [.ref r, .ref an] ∧ RdAt K H r nl l o ∧ l.length ≤ 900 ∧ o ≤ l.length ∧ Tp H an (ns.map V.str) ∧ ns ≠ [] ∧ ns.length ≤ 10 ∧
  EndR K G L r nl l H (clauseR l ns o) E fun d H' => ∀ v, Im H' v d → Q v H'
theorem one_le {α : Type} {l : List Nat} {xs : List α} {o p : Nat} {x : α} (h : oneR l xs o = .ok (x, p)) : p ≤ l.length := by
  obtain ⟨n, h1, _, rfl⟩ := oneR_ok h
  exact (List.getElem?_eq_some_iff.mp h1).1
theorem ok_readClauseX {f : Addr} {fd : FuncData} {aW : Addr} (F : Fun K "_read_clause" "_read_clause" sReadClause f fd) (gW : mg "WORDS" = some (.ref aW)) (hW : ∀ H, SqT K H aW [.str "needs", .str "excludes", .str "either"]) (TK1 : FmC P w K mg base (cD K) "take_one_of" 4 (spTakeOneX K G L)) :
    FnOk P w K mg base (L2.CX P w) 5 f fd ["reader", "names"] (spReadClauseX K G L) := by
  refine F.okX scReadClause (fun vs H Q E h => ?_) (fun cdv A outer s H vs Q E hr h => ?_)
  · obtain ⟨r, nl, an, l, o, ns, e, _⟩ := h
    rw [e]
    rfl
  · obtain ⟨r, nl, an, l, o, ns, e, hR, hl, ho, hn, ne, n10, q⟩ := h
    subst e
    refine ⟨_, pss_cons (ps_set (i := 2) scReadClause.nd rfl (Or.inl rfl) (pe_fmC TK1 hr (pv 0) (passes_call (takes_of rfl rfl rfl rfl) fun _ _ _ _ z => z) (pa_cons (pe_glob (v := .ref aW) rfl gW rfl) pa_nil)))
(pss_cons (ps_set (i := 3) scReadClause.nd rfl (Or.inl rfl) (pe_fmC TK1 hr (pv 0) (passes_call (takes_of rfl rfl rfl rfl) fun _ _ _ _ z => z) (pa_cons (pv 1) pa_nil)))
(pss_cons (ps_set (i := 4) scReadClause.nd rfl (Or.inl rfl) (pe_fmC TK1 hr (pv 0) (passes_call (takes_of rfl rfl rfl rfl) fun _ _ _ _ z => z) (pa_cons (pv 1) pa_nil)))
(pss_one (ps_ret (pe_tup (pa_cons (pv 2) (pa_cons (pv 3) (pa_cons (pv 4) pa_nil)))))))), ?_⟩
    repeat walk_at "rs"
    refine r_fmC (fun R z => ⟨_, rfl, z⟩) hR (by decide +kernel) ?_
    repeat walk_at "rs"
    refine ⟨r, nl, _, l, o, wordsL.map V.str, rfl, hR, hl, ho, .inr ⟨aW, rfl, hW H, fun H' _ => hW H'⟩, by decide, by decide, EndR.map ⟨fun e he => q.1 e ?_, fun w0 p1 hw0 H1 g1 R1 => ?_⟩⟩
    · unfold clauseR
      rw [he]
    have hn1 := tp_gr hR g1 _ _ hn
    have nem : ns.map V.str ≠ [] := by simpa using ne
    have l10 : (ns.map V.str).length ≤ 1000 := by rw [List.length_map]; omega
    repeat walk_at "rs"
    refine r_fmC (fun R z => ⟨_, rfl, z⟩) R1 (by decide +kernel) ?_
    repeat walk_at "rs"
    refine ⟨r, nl, _, l, p1, ns.map V.str, rfl, R1, hl, one_le hw0, .inr ⟨an, rfl, hn1.seq, fun H' g => (tp_gr R1 g _ _ hn1).seq⟩, nem, l10, EndR.map ⟨fun e he => (q.1 e ?_).mono g1, fun a p2 ha H2 g2 R2 => ?_⟩⟩
    · unfold clauseR
      rw [hw0]
      simp only
      rw [he]
    have hn2 := tp_gr R1 g2 _ _ hn1
    repeat walk_at "rs"
    refine r_fmC (fun R z => ⟨_, rfl, z⟩) R2 (by decide +kernel) ?_
    repeat walk_at "rs"
    refine ⟨r, nl, _, l, p2, ns.map V.str, rfl, R2, hl, one_le ha, .inr ⟨an, rfl, hn2.seq, fun H' g => (tp_gr R2 g _ _ hn2).seq⟩, nem, l10, EndR.map ⟨fun e he => (q.1 e ?_).mono (g1.trans g2), fun b p3 hb H3 g3 R3 => ?_⟩⟩
    · unfold clauseR
      rw [hw0]
      simp only
      rw [ha]
      simp only
      rw [he]
    repeat walk_at "rs"
    refine ⟨by show 3 ≤ sizeLine; decide, fun p4 n4 => ?_⟩
    generalize hH : upd _ p4 _ = H4; obtain ⟨k4, e4⟩ := new_facts hH n4; clear hH
    refine q.2 (clD w0 a b) p3 ?_ H4 (((g1.trans g2).trans g3).trans (Go.same (G := G) (L := L) k4).toR) (R3.go (Go.same (G := G) (L := L) k4)) _ (im_cl e4)
    unfold clauseR
    rw [hw0]
    simp only
    rw [ha]
    simp only
    rw [hb]
def spReadClausesX (K : PySem.W.Frag) (G : List Addr) (L : List (Addr × Str)) : Sp := fun vs H Q E => ∃ (r nl an : Addr) (l : List Nat) (o : Nat) (ns : List Str), vs = [.ref r, .ref an] ∧ RdAt K H r nl l o ∧ l.length ≤ 900 ∧ o ≤ l.length ∧ Tp H an (ns.map V.str) ∧ ns ≠ [] ∧ ns.Nodup ∧ ns.length ≤ 10 ∧
  EndR K G L r nl l H (clausesR l ns o) E fun cd H' => ∀ T xs, Tp H' T xs → Ims H' xs cd → Q (.ref T) H'
theorem ok_readClausesX {f : Addr} {fd : FuncData} {t40 : Tok} (F : Fun K "_read_clauses" "_read_clauses" sReadClauses f fd) (zR : mg "range" = none) (zT : mg "tuple" = none) (g40 : mg "MOST_CLAUSES" = some (.int 40 t40)) (TKE : FmC P w K mg base (cD K) "take" 3 (spTake K G L)) (RDC : Fd (L2.CX P w) P w K mg base "_read_clause" 5 (spReadClauseX K G L)) :
    FnOk P w K mg base (L2.CX P w) 6 f fd ["reader", "names"] (spReadClausesX K G L) := by
  refine F.okX scReadClauses (fun vs H Q E h => ?_) (fun cdv A outer s H vs Q E hr h => ?_)
  · obtain ⟨r, nl, an, l, o, ns, e, _⟩ := h
    rw [e]
    rfl
  · obtain ⟨r, nl, an, l, o, ns, e, hR, hl, ho, hn, ne, nd, n10, q⟩ := h
    subst e
    refine ⟨_, pss_cons (ps_set (i := 2) scReadClauses.nd rfl (Or.inl rfl) (pe_fmC TKE hr (pv 0) (passes_call (takes_of rfl rfl rfl rfl) fun _ _ _ _ z => z) (pa_cons pe_int (pa_cons (pe_glob (v := .int 40) rfl g40 ⟨_, rfl⟩) pa_nil))))
(pss_one (ps_ret (pe_callTy c_tup rfl zT (by decide +kernel) (pa_cons (pe_lcX (own := [("_", 3)]) (g := gName 3) (takes_of rfl rfl rfl rfl) rfl rfl rfl scReadClauses.nd (pi_range1 rfl zR (pa_cons (pv 2) pa_nil))
            (blkOk_by (own := [("_", 3)]) (N := nRcs) (sc := defScope sReadClauses) (by decide +kernel)) (fun _ _ _ _ _ _ => pg_name (i := 3) scReadClauses.nd rfl (.inl rfl))
            (fun _ _ _ _ _ _ out => (pe_fd RDC hr (out E fun _ _ _ _ z => z) (pa_cons (pv 0) (pa_cons (pv 1) pa_nil))))) pa_nil)))), ?_⟩
    repeat walk_at "rs"
    refine r_fmC (fun R z => ⟨_, rfl, z⟩) hR (by decide +kernel) ?_
    repeat walk_at "rs"
    refine r_takeX (a := 0) (b := 40) hR hl ho ⟨fun e he => q.1 e ?_, fun n p hn' H1 g1 R1 => ?_⟩
    · unfold clausesR
      rw [he]
    obtain ⟨h0, _, h40, rfl⟩ := tkR_ok hn'
    have ho1 : o + 1 ≤ l.length := (List.getElem?_eq_some_iff.mp h0).1
    have eN : clausesR l ns o = repR (clauseR l ns) n (o + 1) := by
      show (match tkR l 0 40 o with | .error e => _ | .ok (n, p) => _) = _
      first | (rw [hn']; done) | (rw [hn']; rfl)
    rw [eN] at q
    have hn1 := tp_gr hR g1 _ _ hn
    repeat walk_at "rs"
    refine lcR (n := n) (H0 := H1) (fun R y => ⟨_, rfl, y⟩) (by omega) (fun D i H' => ∃ cd p, repR (clauseR l ns) i (o + 1) = .ok (cd, p) ∧ GoR G L r H1 H' ∧ RdAt K H' r nl l p ∧ p ≤ l.length ∧ Tp H' an (ns.map V.str) ∧ ∃ xs, H' D = some (.lst xs) ∧ Ims H' xs cd) ?_ ?_ ?_
    · intro D hD
      have gD : Go G L H1 (upd H1 D (.lst [])) := Go.new hD
      exact ⟨[], o + 1, rfl, gD.toR, R1.go gD, ho1, hn1.kt gD.kt, [], upd_same, .nil⟩
    · rintro D i H' hD hi ⟨cd, p, hcd, g, R2, hp, hn2, xs, eD, hxs⟩
      have hcl := repR_len hcd
      refine r_gN ⟨rfl, r_yes ?_⟩
      repeat walk_at "rs"
      refine ⟨r, nl, an, l, p, ns, rfl, R2, hl, hp, hn2, ne, n10, fun e he => (q.1 e (repR_err hcd he n hi)).mono (g1.trans g), fun d p' hd H3 g3 R3 v hv => ?_⟩
      have eD3 := lst_gr R2 g3 eD
      have hxl := hxs.length
      have kD := ktU (ys := xs ++ [v]) eD3
      refine ⟨xs, eD3, by rw [hxl, sizeLine_eq]; omega, cd ++ [d], p', repR_ok hcd hd, (g.trans g3).updNew hD eD3, R3.updD eD3 (R1.nln hD), (clauseR_seg nd hd).1.2.2, (tp_gr R2 g3 _ _ hn2).kt kD, _, upd_same, ((Ims.tk (tp_gr R2 g3) hxs).kt kD).app (.cons (hv.kt kD) .nil)⟩
    · rintro D H' hD ⟨cd, p, hcd, g, R2, hp, hn2, xs, eD, hxs⟩
      repeat walk_at "rs"
      refine r_tupL2 eD fun T H3 k3 hT => ?_
      exact q.2 cd p hcd H3 ((g1.trans g).trans (Go.same (G := G) (L := L) k3).toR) (R2.go (Go.same (G := G) (L := L) k3)) T xs hT.tp (hxs.kt (Go.same (G := G) (L := L) k3).kt)
def spReadChX (K : PySem.W.Frag) (G : List Addr) (L : List (Addr × Str)) : Sp := fun vs H Q E => ∃ (r nl an : Addr) (l : List Nat) (o : Nat) (ns : List Str), vs = [.ref r, .ref an] ∧ RdAt K H r nl l o ∧ l.length ≤ 900 ∧ o ≤ l.length ∧ Tp H an (ns.map V.str) ∧ ns ≠ [] ∧ ns.length ≤ 10 ∧
  EndR K G L r nl l H (changesR l ns o) E fun cs H' => ∀ D, H' D = some (.lst (cs.map V.str)) → Q (.ref D) H'
theorem ok_readChX {f : Addr} {fd : FuncData} {t200 : Tok} (F : Fun K "_read_changes" "_read_changes" sReadChanges f fd) (zR : mg "range" = none) (g200 : mg "MOST_CHANGES" = some (.int 200 t200)) (TKE : FmC P w K mg base (cD K) "take" 3 (spTake K G L)) (TK1 : FmC P w K mg base (cD K) "take_one_of" 4 (spTakeOneX K G L)) :
    FnOk P w K mg base (L2.CX P w) 5 f fd ["reader", "names"] (spReadChX K G L) := by
  refine F.okX scReadCh (fun vs H Q E h => ?_) (fun cdv A outer s H vs Q E hr h => ?_)
  · obtain ⟨r, nl, an, l, o, ns, e, _⟩ := h
    rw [e]
    rfl
  · obtain ⟨r, nl, an, l, o, ns, e, hR, hl, ho, hn, ne, n10, q⟩ := h
    subst e
    refine ⟨_, pss_cons (ps_set (i := 2) scReadCh.nd rfl (Or.inl rfl) (pe_fmC TKE hr (pv 0) (passes_call (takes_of rfl rfl rfl rfl) fun _ _ _ _ z => z) (pa_cons pe_int (pa_cons (pe_glob (v := .int 200) rfl g200 ⟨_, rfl⟩) pa_nil))))
(pss_one (ps_ret (pe_lcX (own := [("_", 3)]) (g := gName 3) (takes_of rfl rfl rfl rfl) rfl rfl rfl scReadCh.nd (pi_range1 rfl zR (pa_cons (pv 2) pa_nil))
            (blkOk_by (own := [("_", 3)]) (N := nRch) (sc := defScope sReadChanges) (by decide +kernel)) (fun _ _ _ _ _ _ => pg_name (i := 3) scReadCh.nd rfl (.inl rfl))
            (fun _ _ _ _ _ _ out => show PE _ _ (tMeth (cD K) "take_one_of" (spTakeOneX K G L) [] E _ _) from pe_fmC (E := E) TK1 hr (pv 0) (out E fun _ _ _ _ z => z) (pa_cons (pv 1) pa_nil))))), ?_⟩
    repeat walk_at "rs"
    refine r_fmC (fun R z => ⟨_, rfl, z⟩) hR (by decide +kernel) ?_
    repeat walk_at "rs"
    refine r_takeX (a := 0) (b := 200) hR hl ho ⟨fun e he => q.1 e ?_, fun n p hn' H1 g1 R1 => ?_⟩
    · unfold changesR
      rw [he]
    obtain ⟨h0, _, h200, rfl⟩ := tkR_ok hn'
    have ho1 : o + 1 ≤ l.length := (List.getElem?_eq_some_iff.mp h0).1
    have eN : changesR l ns o = repR (oneR l ns) n (o + 1) := by
      show (match tkR l 0 200 o with | .error e => _ | .ok (n, p) => _) = _
      first | (rw [hn']; done) | (rw [hn']; rfl)
    rw [eN] at q
    have hn1 := tp_gr hR g1 _ _ hn
    have nem : ns.map V.str ≠ [] := by simpa using ne
    have l10 : (ns.map V.str).length ≤ 1000 := by rw [List.length_map]; omega
    repeat walk_at "rs"
    refine lcR (n := n) (H0 := H1) (fun R y => ⟨_, rfl, y⟩) (by omega) (fun D i H' => ∃ cs p, repR (oneR l ns) i (o + 1) = .ok (cs, p) ∧ GoR G L r H1 H' ∧ RdAt K H' r nl l p ∧ p ≤ l.length ∧ Tp H' an (ns.map V.str) ∧ H' D = some (.lst (cs.map V.str))) ?_ ?_ ?_
    · intro D hD
      have gD : Go G L H1 (upd H1 D (.lst [])) := Go.new hD
      exact ⟨[], o + 1, rfl, gD.toR, R1.go gD, ho1, hn1.kt gD.kt, upd_same⟩
    · rintro D i H' hD hi ⟨cs, p, hcs, g, R2, hp, hn2, eD⟩
      have hcl := repR_len hcs
      refine r_gN ⟨rfl, r_yes ?_⟩
      repeat walk_at "rs"
      refine r_fmC (fun R z => ⟨_, rfl, z⟩) R2 (by decide +kernel) ?_
      repeat walk_at "rs"
      refine ⟨r, nl, _, l, p, ns.map V.str, rfl, R2, hl, hp, .inr ⟨an, rfl, hn2.seq, fun H' g => (tp_gr R2 g _ _ hn2).seq⟩, nem, l10, EndR.map ⟨fun e he => (q.1 e (repR_err hcs he n hi)).mono (g1.trans g), fun z p' hz H3 g3 R3 => ?_⟩⟩
      have eD3 := lst_gr R2 g3 eD
      refine ⟨_, eD3, by rw [List.length_map, sizeLine_eq]; omega, cs ++ [z], p', repR_ok hcs hz, (g.trans g3).updNew hD eD3, R3.updD eD3 (R1.nln hD), one_le hz, (tp_gr R2 g3 _ _ hn2).kt (ktU eD3), ?_⟩
      rw [upd_same, List.map_append]
      rfl
    · rintro D H' hD ⟨cs, p, hcs, g, R2, hp, hn2, eD⟩
      repeat walk_at "rs"
      exact q.2 cs p hcs H' (g1.trans g) R2 D eD
end
local macro_rules | `(tactic| walk_at "rs") => `(tactic| first | (with_reducible refine r_tM1 ?_) | (with_reducible refine r_tupN ?_) | walk_at "rd")
section
variable {P : Program} {w : World} {K : PySem.W.Frag} {mg : Str → Option Value} {base : Heap} {G : List Addr} {L : List (Addr × Str)}
def spReadStateX (K : PySem.W.Frag) (G : List Addr) (L : List (Addr × Str)) : Sp := fun vs H Q E => ∃ (r nl an : Addr) (l : List Nat) (o : Nat) (ns : List Str), vs = [.ref r, .ref an] ∧ RdAt K H r nl l o ∧ l.length ≤ 900 ∧ o ≤ l.length ∧ Tp H an (ns.map V.str) ∧ ns.length ≤ 10 ∧
  EndR K G L r nl l H (stateR l ns o) E fun st H' => ∀ S, Tp H' S (st.map V.str) → Q (.ref S) H'
theorem half_succ (m i : Nat) : m / 2 ^ i / 2 = m / 2 ^ (i + 1) := by
  rw [Nat.div_div_eq_div_mul, Nat.pow_succ]
theorem ok_readStateX {f : Addr} {fd : FuncData} {t255 : Tok} (F : Fun K "_read_state" "_read_state" sReadState f fd) (zV : mg "reversed" = none) (g255 : mg "GREATEST_BYTE" = some (.int 255 t255)) (R : RdC K mg) (T : Err P w K mg base "DecodeError" (spDE K (He.ga K "DecodeError"))) (TKE : FmC P w K mg base (cD K) "take" 3 (spTake K G L)) :
    FnOk P w K mg base (L2.CX P w) 4 f fd ["reader", "names"] (spReadStateX K G L) := by
  refine F.okX scReadState (fun vs H Q E h => ?_) (fun cdv A outer s H vs Q E hr h => ?_)
  · obtain ⟨r, nl, an, l, o, ns, e, _⟩ := h
    rw [e]
    rfl
  · obtain ⟨r, nl, an, l, o, ns, e, hR, hl, ho, hn, n10, q⟩ := h
    subst e
    refine ⟨_, pss_cons (ps_set (i := 2) scReadState.nd rfl (Or.inl rfl) (pe_fld (pv 0) rfl))
(pss_cons (ps_set (i := 3) scReadState.nd rfl (Or.inl rfl) (pe_fmC TKE hr (pv 0) (passes_call (takes_of rfl rfl rfl rfl) fun _ _ _ _ z => z) (pa_cons pe_int (pa_cons (pe_glob (v := .int 255) rfl g255 ⟨_, rfl⟩) pa_nil))))
(pss_cons (ps_set (i := 4) scReadState.nd rfl (Or.inl rfl) (pe_fmC TKE hr (pv 0) (passes_call (takes_of rfl rfl rfl rfl) fun _ _ _ _ z => z) (pa_cons pe_int (pa_cons (pe_glob (v := .int 255) rfl g255 ⟨_, rfl⟩) pa_nil))))
(pss_cons (ps_set (i := 5) scReadState.nd rfl (Or.inl rfl) (pe_op op_add (pe_op op_mul pe_int (pv 3)) (pv 4)))
(pss_cons (ps_set (i := 6) scReadState.nd rfl (Or.inl rfl) (pe_tup pa_nil))
(pss_cons (ps_for (passes_of rfl) rfl (RT.pi_revA rfl zV (pv 1)) (pg_name (i := 7) scReadState.nd rfl (.inl rfl))
  (pss_cons (ps_if (pt_truth (pe_op op_odd (pv 5) pe_int) (by intro _; rfl))
    (pss_one (ps_set (i := 6) scReadState.nd rfl (Or.inl rfl) (pe_op (r := rCatA K) op_catA (pe_tup (pa_cons (pv 7) pa_nil)) (pv 6)))) pss_nil)
  (pss_one (ps_set (i := 5) scReadState.nd rfl (Or.inl rfl) (pe_op op_halfN (pv 5) pe_int)))))
(pss_cons (ps_if (pt_cmpR op_gt (pv 5) pe_int (nomark _))
  (pss_one (ps_raise rfl (takes_of rfl rfl rfl rfl) (pmk_err T hr (pa_cons (pv 2) pa_nil)))) pss_nil)
(pss_one (ps_ret (pv 6))))))))), ?_⟩
    have z2 : 2 ^ ns.length ≤ 2 ^ 10 := Nat.pow_le_pow_right (by decide) n10
    repeat walk_at "rs"
    refine r_fo R hR ?_
    repeat walk_at "rs"
    refine r_fmC (fun R z => ⟨_, rfl, z⟩) hR (by decide +kernel) ?_
    repeat walk_at "rs"
    refine r_takeX (a := 0) (b := 255) hR hl ho ⟨fun e he => q.1 e ?_, fun hi p1 hhi H1 g1 R1 => ?_⟩
    · unfold stateR
      rw [he]
    obtain ⟨a0, _, a2, rfl⟩ := tkR_ok hhi
    have ho1 : o + 1 ≤ l.length := (List.getElem?_eq_some_iff.mp a0).1
    repeat walk_at "rs"
    refine r_fmC (fun R z => ⟨_, rfl, z⟩) R1 (by decide +kernel) ?_
    repeat walk_at "rs"
    refine r_takeX (a := 0) (b := 255) R1 hl ho1 ⟨fun e he => (q.1 e ?_).mono g1, fun lo p2 hlo H2 g2 R2 => ?_⟩
    · unfold stateR
      rw [hhi]
      simp only
      rw [he]
    obtain ⟨b0, _, b2, rfl⟩ := tkR_ok hlo
    have eN : stateR l ns o = if 256 * hi + lo < 2 ^ ns.length then .ok (bitS ns (256 * hi + lo), o + 1 + 1) else .error o := by
      unfold stateR
      rw [hhi]
      simp only
      rw [hlo]
    rw [eN] at q
    repeat walk_at "rs"
    refine r_I (.inl ⟨by decide, by decide⟩) ?_
    repeat walk_at "rs"
    have enum : (256 * ((hi : Nat) : Int) + ((lo : Nat) : Int)) = ((256 * hi + lo : Nat) : Int) := by omega
    rw [enum]
    generalize 256 * hi + lo = m at q
    refine ⟨by show 0 ≤ sizeLine; decide, fun p3 n3 => ?_⟩
    generalize hH : upd _ p3 _ = H3; obtain ⟨k3, e3⟩ := new_facts hH n3; clear hH
    have g12 : GoR G L r H H2 := g1.trans g2
    have hn2 := tp_gr hR g12 _ _ hn
    have g3 : Go G L H2 H3 := Go.same k3
    repeat walk_at "rs"
    have hnl : (ns.map V.str).length = ns.length := List.length_map ..
    refine forRvT (a := an) (xs := ns.map V.str) (fun R z => ⟨_, rfl, z⟩) (hn2.kt g3.kt).seq (fun i σ H' => ∃ (x7 : Option V) (S : Addr), σ = [some (.ref r), some (.ref an), some (.int (o : Nat)), some (.int (hi : Nat)), some (.int (lo : Nat)), some (.int (m / 2 ^ i : Nat)), some (.ref S), x7] ∧ Go G L H2 H' ∧ Tp H' S ((bitS (ns.drop (ns.length - i)) m).map V.str)) ?_ ?_ ?_ ?_
    · refine ⟨none, p3, ?_, g3, ?_⟩
      · rw [Nat.pow_zero, Nat.div_one]
        rfl
      · rw [Nat.sub_zero, List.drop_length]
        exact .inl e3
    · rintro i σ H' _ ⟨_, _, _, g, _⟩
      exact (hn2.kt g.kt).seq
    · rintro i y σ H' hi2 ey ⟨x7, S, rfl, g, hS⟩
      rw [hnl] at hi2 ey
      rw [List.getElem?_map] at ey
      have hj : ns.length - 1 - i < ns.length := by omega
      have hz : ns[ns.length - 1 - i]? = some ns[ns.length - 1 - i] := List.getElem?_eq_getElem hj
      have hdrop : ns.drop (ns.length - 1 - i) = ns[ns.length - 1 - i] :: ns.drop (ns.length - 1 - i + 1) := List.drop_eq_getElem_cons hj
      generalize ns[ns.length - 1 - i] = z at hz hdrop
      rw [hz] at ey
      obtain rfl : V.str z = y := Option.some.inj ey
      have e1 : ns.length - 1 - i + 1 = ns.length - i := by omega
      have e2 : ns.length - (i + 1) = ns.length - 1 - i := by omega
      rw [e1] at hdrop
      have hdl : (ns.drop (ns.length - i)).length = i := by rw [List.length_drop]; omega
      have ebit : bitS (ns.drop (ns.length - (i + 1))) m = (if m / 2 ^ i % 2 = 1 then [z] else []) ++ bitS (ns.drop (ns.length - i)) m := by
        rw [e2, hdrop]
        show (if m / 2 ^ (ns.drop (ns.length - i)).length % 2 = 1 then [z] else []) ++ _ = _
        rw [hdl]
      have hbl := (bitS_sub (ns.drop (ns.length - i)) m).length_le
      refine r_gN ?_
      repeat walk_at "rs"
      refine ⟨_, rfl, rfl, _, rfl, ?_⟩
      have hodd : ((((m / 2 ^ i % 2 : Nat) : Int)) != 0) = decide (m / 2 ^ i % 2 = 1) := by
        have : m / 2 ^ i % 2 = 0 ∨ m / 2 ^ i % 2 = 1 := by omega
        rcases this with z | z <;> rw [z] <;> rfl
      rw [hodd]
      refine r_if (fun c => ?_) (fun c => ?_)
      · rw [if_pos (of_decide_eq_true c)] at ebit
        repeat walk_at "rs"
        refine ⟨by show 1 ≤ sizeLine; decide, fun p5 n5 => ?_⟩
        generalize hH : upd _ p5 _ = H5; obtain ⟨k5, e5⟩ := new_facts hH n5; clear hH
        have g5 : Go G L H' H5 := Go.same k5
        have hS5 := hS.kt g5.kt
        repeat walk_at "rs"
        refine r_catT (.inl e5) hS5 (by rw [List.length_map]; show 1 + _ ≤ sizeLine; rw [sizeLine_eq]; omega) fun p6 H6 k6 t6 => ?_
        have g6 : Go G L H' H6 := g5.trans (Go.same k6)
        repeat walk_at "rs"
        refine ⟨_, rfl, rfl, ?_⟩
        refine ⟨some (.str z), p6, ?_, g.trans g6, ?_⟩
        · rw [half_succ]
          rfl
        · rw [ebit]
          exact t6
      · rw [if_neg (of_decide_eq_false c)] at ebit
        repeat walk_at "rs"
        refine ⟨_, rfl, rfl, ?_⟩
        refine ⟨some (.str z), S, ?_, g, ?_⟩
        · rw [half_succ]
          rfl
        · rw [ebit]
          exact hS
    · rintro σ H' ⟨x7, S, rfl, g, hS⟩
      rw [hnl, Nat.sub_self, List.drop_zero] at hS
      rw [hnl]
      repeat walk_at "rs"
      refine r_if (fun c => ?_) (fun c => ?_)
      · have c2 : ¬ m < 2 ^ ns.length := fun z => by
          have y := of_decide_eq_true c
          rw [Nat.div_eq_of_lt z] at y
          omega
        repeat walk_at "rs"
        refine r_mk ?_
        repeat walk_at "rs"
        refine mkDE_fin (by omega) fun dd Hx k hx => ?_
        rw [if_neg c2] at q
        exact q.1 o rfl dd Hx ((g12.trans g.toR).trans (Go.same (G := G) (L := L) k).toR) hx
      · have c2 : m < 2 ^ ns.length := by
          have y := of_decide_eq_false c
          refine Classical.byContradiction fun z => y ?_
          have : 0 < m / 2 ^ ns.length := Nat.div_pos (by omega) (Nat.pow_pos (by decide))
          omega
        repeat walk_at "rs"
        rw [if_pos c2] at q
        exact q.2 _ _ rfl H' (g12.trans g.toR) (R2.go g) S hS
def spReadEndX (K : PySem.W.Frag) (G : List Addr) (L : List (Addr × Str)) : Sp := fun vs H Q E => ∃ (r nl : Addr) (l : List Nat) (o : Nat), vs = [.ref r] ∧ RdAt K H r nl l o ∧ l.length ≤ 900 ∧ o ≤ l.length ∧ (∀ n ∈ l, n ≤ 255) ∧
  EndR K G L r nl l H (finR l o) E fun _ H' => Q .non H'
theorem ok_readEndX {f : Addr} {fd : FuncData} (F : Fun K "_read_end" "_read_end" sReadEnd f fd) (zL : mg "len" = none) (R : RdC K mg) (T : Err P w K mg base "DecodeError" (spDE K (He.ga K "DecodeError"))) (TKE : FmC P w K mg base (cD K) "take" 3 (spTake K G L)) (CKS : Fd CX0 P w K mg base "_checksum" 1 (spCheck K)) :
    FnOk P w K mg base (L2.CX P w) 4 f fd ["reader"] (spReadEndX K G L) := by
  refine F.okX scReadEnd (fun vs H Q E h => ?_) (fun cdv A outer s H vs Q E hr h => ?_)
  · obtain ⟨r, nl, l, o, e, _⟩ := h
    rw [e]
    rfl
  · obtain ⟨r, nl, l, o, e, hR, hl, ho, h255, q⟩ := h
    subst e
    refine ⟨_, pss_cons (ps_set (i := 1) scReadEnd.nd rfl (Or.inl rfl) (pe_fd (E := E0) CKS hr pass0 (pa_cons (pe_slice (r := rSlL K) sl_list (pe_fld (pv 0) rfl) po_none (po_some (pe_fld (pv 0) rfl))) pa_nil)))
(pss_cons (ps_expr (pe_fmC TKE hr (pv 0) (passes_call (takes_of rfl rfl rfl rfl) fun _ _ _ _ z => z) (pa_cons (pv 1) (pa_cons (pv 1) pa_nil))))
(pss_one (ps_if (pt_cmpR op_lt (pe_fld (pv 0) rfl) (pe_callB (r := cLen K) c_len rfl zL boot_len (pa_cons (pe_fld (pv 0) rfl) pa_nil)) (nomark _))
  (pss_one (ps_raise rfl (takes_of rfl rfl rfl rfl) (pmk_err T hr (pa_cons (pe_fld (pv 0) rfl) pa_nil)))) pss_nil))), ?_⟩
    repeat walk_at "rs"
    refine r_fn R hR fun hnl => ?_
    repeat walk_at "rs"
    refine r_fo R hR ?_
    repeat walk_at "rs"
    refine r_slL hnl fun p1 H1 k1 e1 => ?_
    rw [cut_to (by rw [vN_len]; exact ho)] at e1
    have e1' : H1 p1 = some (.lst (vN (l.take o))) := by
      rw [e1]
      unfold vN
      rw [List.map_take]
    have g1 : Go G L H H1 := Go.same k1
    repeat walk_at "rs"
    refine ⟨p1, l.take o, rfl, e1', fun n hn => h255 n (List.mem_of_mem_take hn), fun _ => ?_⟩
    repeat walk_at "rs"
    refine r_fmC (fun R z => ⟨_, rfl, z⟩) (hR.go g1) (by decide +kernel) ?_
    repeat walk_at "rs"
    refine r_takeX (a := ckN (l.take o)) (b := ckN (l.take o)) (hR.go g1) hl ho ⟨fun e he => (q.1 e ?_).mono g1.toR, fun n p hn H2 g2 R2 => ?_⟩
    · unfold finR
      rw [he]
    obtain ⟨b0, _, _, rfl⟩ := tkR_ok hn
    have ho1 : o + 1 ≤ l.length := (List.getElem?_eq_some_iff.mp b0).1
    have eN : finR l o = if o + 1 < l.length then .error (o + 1) else .ok ((), o + 1) := by
      unfold finR
      rw [hn]
    rw [eN] at q
    repeat walk_at "rs"
    refine r_fo R R2 ?_
    repeat walk_at "rs"
    refine r_fn R R2 fun hnl2 => ?_
    repeat walk_at "rs"
    refine r_lenL (.of hnl2) ?_
    repeat walk_at "rs"
    rw [vN_len]
    refine r_if (fun c => ?_) (fun c => ?_)
    · have c2 : o + 1 < l.length := by
        have z := of_decide_eq_true c
        omega
      repeat walk_at "rs"
      refine r_mk ?_
      repeat walk_at "rs"
      refine r_fo R R2 ?_
      repeat walk_at "rs"
      rw [if_pos c2] at q
      refine mkDE_fin (by omega) fun dd Hx k hx => q.1 (o + 1) rfl dd Hx ((g1.toR.trans g2).trans (Go.same (G := G) (L := L) k).toR) hx
    · have c2 : ¬ o + 1 < l.length := by
        have z := of_decide_eq_false c
        omega
      repeat walk_at "rs"
      rw [if_neg c2] at q
      exact q.2 () _ rfl H2 (g1.toR.trans g2) R2
def spDecX (K : PySem.W.Frag) (G : List Addr) (L : List (Addr × Str)) : Sp := fun vs H Q E => ∃ (l : List Nat), vs = [.byt (bytN l)] ∧ (∀ n ∈ l, n ≤ 255) ∧ l.length ≤ 800 ∧ TBS G L H ∧
  (∀ e, decR l = .error e → ∀ dd H', Go G L H H' → H' dd = some (.xd [("offset", .int (e : Nat))]) → E (.ref (He.ga K "DecodeError")) (some dd) H') ∧
  ∀ R, decR l = .ok R → (∀ j rest, brokenFrom (R.st.map PyData.str) 0 R.cd = j :: rest → ∀ cls dd H', Go G L H H' → Told K cls dd H' (illD j) → E cls dd H') ∧
    (brokenFrom (R.st.map PyData.str) 0 R.cd = [] → ∀ T x S D H', Go G L H H' → H' T = some (.tup [.ref x, .ref S, .ref D]) → RulesAt K H' x R.ns R.cd → Tp H' S (R.st.map V.str) → H' D = some (.lst (R.cs.map V.str)) → Q (.ref T) H')
theorem ok_decodeX {f : Addr} {fd : FuncData} {t70 : Tok} (F : Fun K "decode_rollout" "decode_rollout" sDecode f fd) (zI : mg "isinstance" = none) (zb : mg "bytes" = none) (g70 : mg "FIRST_BYTE" = some (.int 70 t70)) (R : RdC K mg) (MD : MkrD P w K mg base) (T : Err P w K mg base "DecodeError" (spDE K (He.ga K "DecodeError"))) (M : Mkr P w K mg base G L) (UPB : Fd CX0 P w K mg base "unpack_bytes" 1 (spUnpack K))
    (TKE : FmC P w K mg base (cD K) "take" 3 (spTake K G L)) (RNS : Fd (L2.CX P w) P w K mg base "_read_names" 6 (spReadNamesX K G L)) (RCS : Fd (L2.CX P w) P w K mg base "_read_clauses" 6 (spReadClausesX K G L)) (RST : Fd (L2.CX P w) P w K mg base "_read_state" 4 (spReadStateX K G L)) (RCH : Fd (L2.CX P w) P w K mg base "_read_changes" 5 (spReadChX K G L)) (REN : Fd (L2.CX P w) P w K mg base "_read_end" 4 (spReadEndX K G L))
    (CHL : Fd (L2.CX P w) P w K mg base "check_legal" 5 (spChkLegal K G L)) : FnOk P w K mg base (L2.CX P w) 7 f fd ["data"] (spDecX K G L) := by
  refine F.okX scDecode (fun vs H Q E h => ?_) (fun cdv A outer s H vs Q E hr h => ?_)
  · obtain ⟨l, e, _⟩ := h
    rw [e]
    rfl
  · obtain ⟨l, e, h255, hl, ht, qE, q⟩ := h
    subst e
    refine ⟨_, pss_cons (ps_if (pt_not (pt_val (pe_callB call_isi_byt rfl zI boot_isinstance (pa_cons (pv 0) (pa_cons (pe_bltn (v := .ty "bytes") rfl zb (by decide +kernel) rfl) pa_nil)))))
  (pss_one (ps_raise rfl (takes_of rfl rfl rfl rfl) (pmk_err T hr (pa_cons pe_int pa_nil)))) pss_nil)
(pss_cons (ps_set (i := 1) scDecode.nd rfl (Or.inl rfl) (pe_reader (E := E0) R MD hr passN (pa_cons (pe_fd (E := E0) UPB hr pass0 (pa_cons (pv 0) pa_nil)) pa_nil)))
(pss_cons (ps_expr (pe_fmC TKE hr (pv 1) (passes_call (takes_of rfl rfl rfl rfl) fun _ _ _ _ z => z) (pa_cons (pe_glob (v := .int 70) rfl g70 ⟨_, rfl⟩) (pa_cons (pe_glob (v := .int 70) rfl g70 ⟨_, rfl⟩) pa_nil))))
(pss_cons (ps_set (i := 2) scDecode.nd rfl (Or.inl rfl) (pe_fd RNS hr (passes_call (takes_of rfl rfl rfl rfl) fun _ _ _ _ z => z) (pa_cons (pv 1) pa_nil)))
(pss_cons (ps_set (i := 3) scDecode.nd rfl (Or.inl rfl) (pe_rules (E := E0) M hr passN (pa_cons (pv 2) (pa_cons (pe_fd RCS hr (passes_call (takes_of rfl rfl rfl rfl) fun _ _ _ _ z => z) (pa_cons (pv 1) (pa_cons (pv 2) pa_nil))) pa_nil))))
(pss_cons (ps_set (i := 4) scDecode.nd rfl (Or.inl rfl) (pe_fd RST hr (passes_call (takes_of rfl rfl rfl rfl) fun _ _ _ _ z => z) (pa_cons (pv 1) (pa_cons (pv 2) pa_nil))))
(pss_cons (ps_set (i := 5) scDecode.nd rfl (Or.inl rfl) (pe_fd RCH hr (passes_call (takes_of rfl rfl rfl rfl) fun _ _ _ _ z => z) (pa_cons (pv 1) (pa_cons (pv 2) pa_nil))))
(pss_cons (ps_expr (pe_fd REN hr (passes_call (takes_of rfl rfl rfl rfl) fun _ _ _ _ z => z) (pa_cons (pv 1) pa_nil)))
(pss_cons (ps_expr (pe_fd CHL hr (passes_call (takes_of rfl rfl rfl rfl) fun _ _ _ _ z => z) (pa_cons (pv 3) (pa_cons (pv 4) pa_nil))))
(pss_one (ps_ret (pe_tup (pa_cons (pv 3) (pa_cons (pv 4) (pa_cons (pv 5) pa_nil)))))))))))))), ?_⟩
    repeat walk_at "rs"
    refine ⟨_, rfl, ?_⟩
    repeat walk_at "rs"
    refine ⟨l, rfl, h255, by omega, fun p1 n1 => ?_⟩
    generalize hH : upd H p1 _ = H1
    obtain ⟨k1, e1⟩ := new_facts hH n1
    clear hH
    repeat walk_at "rs"
    intro r dx nr ndx nex
    refine ⟨r, dx, p1, rfl, upd_same, rfl, ?_⟩
    rw [upd_upd]
    have gi : Go G L H1 (upd (upd H1 dx (.own r)) r (.ins (cD K) dx (rds p1 0))) := (Go.new ndx).trans (Go.new (by rw [upd_ne nex.symm]; exact nr))
    have R2 : RdAt K (upd (upd H1 dx (.own r)) r (.ins (cD K) dx (rds p1 0))) r p1 l 0 := ⟨dx, upd_same, gi.lst e1⟩
    have g2 : Go G L H (upd (upd H1 dx (.own r)) r (.ins (cD K) dx (rds p1 0))) := (Go.same k1).trans gi
    have nrH : H r = none := by
      cases hh : H r with
      | none => rfl
      | some o => rw [k1 r o hh] at nr; cases nr
    have goH : ∀ H', GoR G L r H H' → Go G L H H' := fun H' g => ⟨fun b o e nt => g.1 b o (fun z => by rw [z, nrH] at e; cases e) nt e, g.2⟩
    have er : ∀ {H9 e}, GoR G L r H H9 → decR l = .error e → ErrAt K G L r H9 E e := fun {H9 e} g he dd H' g' x => qE e he dd H' (goH H' (g.trans g')) x
    repeat walk_at "rs"
    refine r_fmC (fun R z => ⟨_, rfl, z⟩) R2 (by decide +kernel) ?_
    repeat walk_at "rs"
    refine r_takeX (a := 70) (b := 70) R2 (by omega) (Nat.zero_le _) ⟨fun e he => er g2.toR ?_, fun n q1 hn H3 g3 R3 => ?_⟩
    · unfold decR
      rw [he]
    obtain ⟨b0, _, _, rfl⟩ := tkR_ok hn
    have ho1 : 0 + 1 ≤ l.length := (List.getElem?_eq_some_iff.mp b0).1
    have g23 := g2.toR.trans g3
    repeat walk_at "rs"
    refine ⟨r, p1, l, 0 + 1, rfl, R3, by omega, ho1, fun e he => er g23 ?_, fun ns q2 hns H4 g4 R4 T4 hT4 => ?_⟩
    · unfold decR
      rw [hn]
      simp only
      rw [he]
    obtain ⟨s2, gn, n0, n10⟩ := namesR_seg hns
    have g24 := g23.trans g4
    have nne : ns ≠ [] := List.length_pos_iff.mp n0
    repeat walk_at "rs"
    refine ⟨r, p1, T4, l, q2, ns, rfl, R4, by omega, s2.2.2, hT4.tp, nne, gn.nd, n10, fun e he => er g24 ?_, fun cd q3 hcd H5 g5 R5 T5 xs hT5 hxs => ?_⟩
    · unfold decR
      rw [hn]
      simp only
      rw [hns]
      simp only
      rw [he]
    obtain ⟨s3, hcl, h40⟩ := clausesR_seg gn.nd hcd
    repeat walk_at "rs"
    have g25 := g24.trans g5
    have hN5 := nt_gr R4 g5 hT4
    refine mk5 gn n0 n10 hcl h40 hN5.tp hT5 hxs (g25.2 ht) fun x H6 g6 _ RA => ?_
    have RA6 := RA hN5
    have R6 := R5.go g6
    have hN6 := hN5.kt g6.kt
    have g26 := g25.trans g6.toR
    repeat walk_at "rs"
    refine ⟨r, p1, T4, l, q3, ns, rfl, R6, by omega, s3.2.2, hN6.tp, n10, fun e he => er g26 ?_, fun st q4 hst H7 g7 R7 S hS => ?_⟩
    · unfold decR
      rw [hn]
      simp only
      rw [hns]
      simp only
      rw [hcd]
      simp only
      rw [he]
    obtain ⟨s4, hsub⟩ := stateR_seg gn.nd hst
    have hN7 := nt_gr R6 g7 hN6
    have RA7 := rules_gr R6 g7 RA6
    have g27 := g26.trans g7
    repeat walk_at "rs"
    refine ⟨r, p1, T4, l, q4, ns, rfl, R7, by omega, s4.2.2, hN7.tp, nne, n10, fun e he => er g27 ?_, fun cs q5 hcs H8 g8 R8 D hD8 => ?_⟩
    · unfold decR
      rw [hn]
      simp only
      rw [hns]
      simp only
      rw [hcd]
      simp only
      rw [hst]
      simp only
      rw [he]
    obtain ⟨s5, hcm, h200⟩ := changesR_seg gn.nd hcs
    have RA8 := rules_gr R7 g8 RA7
    have hS8 := tp_gr R7 g8 _ _ hS
    have g28 := g27.trans g8
    have e9 : decR l = (match finR l q5 with | .error e => .error e | .ok _ => .ok ⟨ns, cd, st, cs⟩) := by
      unfold decR
      rw [hn]
      simp only
      rw [hns]
      simp only
      rw [hcd]
      simp only
      rw [hst]
      simp only
      first | (rw [hcs]; done) | (rw [hcs]; rfl)
    repeat walk_at "rs"
    refine ⟨r, p1, l, q5, rfl, R8, by omega, s5.2.2, h255, fun e he => er g28 (by rw [e9, he]), fun u q6 hu H9 g9 R9 => ?_⟩
    have eok : decR l = .ok ⟨ns, cd, st, cs⟩ := by rw [e9, hu]
    obtain ⟨qI, qok⟩ := q _ eok
    have RA9 := rules_gr R8 g9 RA8
    have hS9 := tp_gr R8 g9 _ _ hS8
    have hD9 := lst_gr R8 g9 hD8
    repeat walk_at "rs"
    have gH : Go G L H H9 := goH H9 (g28.trans g9)
    have okR := gn.okR n0 n10 hcl h40
    obtain ⟨l7, hl60⟩ := strs_lv okR.gs hsub
    refine ⟨x, .ref S, ns, cd, .tuple (st.map PyData.str), rfl, RA9, okR, .tup hS9.seq (dps_strs _), l7, hl60, fun k hk => (by rw [st_none hsub] at hk; cases hk), fun ds ed _ j rest hj cls dd H' g t => ?_, fun ds ed _ hj HA gA => ?_⟩
    · cases ed
      exact qI j rest hj cls dd H' (gH.trans g) t
    cases ed
    repeat walk_at "rs"
    refine ⟨by show 3 ≤ sizeLine; decide, fun pB nB => ?_⟩
    generalize hH : upd _ pB _ = HB; obtain ⟨kB, eB⟩ := new_facts hH nB; clear hH
    have gB : Go G L H9 HB := gA.trans (Go.same kB)
    exact qok hj pB x S D HB (gH.trans gB) eB (RA9.kt gB.kt) (hS9.kt gB.kt) (gB.lst hD9)
end
local macro_rules | `(tactic| walk_at "rs") => `(tactic| first | (with_reducible refine r_tM1 ?_) | (with_reducible refine r_un ?_) | walk_at "rd")
section
variable {P : Program} {w : World} {K : PySem.W.Frag} {mg : Str → Option Value} {base : Heap} {G : List Addr} {L : List (Addr × Str)}
theorem vN_at {l : List Nat} {o n : Nat} (h : l[o]? = some n) : atI (vN l) ((o : Nat) : Int) = some (V.int (n : Nat)) := atI_nat (by unfold vN; rw [List.getElem?_map, h]; rfl)
/-- the test: at the end, or a number that is none of those that may stand here -/
theorem r_chk {σ : L2.St} {H : Hp} {D : Bool → Hp → Prop} {l : List Nat} {vl : Addr} {i o : Nat} {r : R2} {tb : TE} {bad : Nat → Bool} (h0 : σ[0]? = some (some (.ref vl))) (hi : σ[i]? = some (some (.int (o : Nat)))) (hl : H vl = some (.lst (vN l))) (ho : o ≤ l.length)
    (hb : ∀ (n : Nat) (R : VK), l[o]? = some n → R (.bl (bad n)) H → tb σ H fun y H2 => r (.int (n : Nat)) y H2 R) (q1 : (∀ n, l[o]? = some n → bad n = true) → D true H) (q2 : ∀ n, l[o]? = some n → bad n = false → D false H) :
    tOr (tTest (tOp rEq (tVar i) (tCB (cLen K) (tCons (tVar 0) tNil)))) (tTest (tOp r (tOp (rIxL K) (tVar 0) (tVar i)) tb)) σ H D := by
  refine r_or (r_test (r_op (r_var hi (r_cb (r_cons (r_var h0 (r_nil ?_)))))))
  refine r_lenL (.of hl) ?_
  rw [vN_len]
  refine r_eq rfl ⟨_, rfl, ?_⟩
  refine r_if (fun c => ?_) (fun c => ?_)
  · have c2 : o = l.length := by
      have z := V.int.inj (of_decide_eq_true c)
      omega
    refine q1 fun n hn => ?_
    rw [List.getElem?_eq_none (by omega)] at hn
    cases hn
  have c2 : o < l.length := by
    have z : V.int (o : Nat) ≠ V.int (l.length : Nat) := of_decide_eq_false c
    have z2 : o ≠ l.length := fun q => z (by rw [q])
    omega
  have hn : l[o]? = some l[o] := List.getElem?_eq_getElem c2
  generalize l[o] = n at hn
  refine r_test (r_op (r_op (r_var h0 (r_var hi ?_))))
  refine r_ixL (.of hl) (vN_at hn) ?_
  refine hb n _ hn ⟨_, rfl, ?_⟩
  cases hbn : bad n with
  | true =>
    refine q1 fun m hm => ?_
    rw [hn] at hm
    cases hm
    exact hbn
  | false => exact q2 n hn hbn
/-- a list of lists of numbers, other than the one at D -/
def RowsN (D : Addr) (H : Hp) (xs : List V) (ls : List (List Nat)) : Prop := xs.length = ls.length ∧ ∀ (i : Nat) (x : V), xs[i]? = some x → ∃ (p : Addr) (l : List Nat), x = .ref p ∧ ls[i]? = some l ∧ p ≠ D ∧ H p = some (.lst (vN l))
theorem RowsN.go {D : Addr} {H H' : Hp} {xs : List V} {ls : List (List Nat)} (h : RowsN D H xs ls) (g : Go G L H H') : RowsN D H' xs ls := ⟨h.1, fun i x e => by
  obtain ⟨p, l, h1, h2, h3, h4⟩ := h.2 i x e
  exact ⟨p, l, h1, h2, h3, g.lst h4⟩⟩
theorem RowsN.snoc {D p : Addr} {H : Hp} {o : HO} {xs : List V} {ls : List (List Nat)} {l : List Nat} (h : RowsN D H xs ls) (n : p ≠ D) (e : H p = some (.lst (vN l))) : RowsN D (upd H D o) (xs ++ [.ref p]) (ls ++ [l]) := by
  refine ⟨by rw [List.length_append, List.length_append, h.1]; rfl, fun i x ex => ?_⟩
  by_cases c : i < xs.length
  · rw [List.getElem?_append_left c] at ex
    obtain ⟨q, m, h1, h2, h3, h4⟩ := h.2 i x ex
    exact ⟨q, m, h1, by rw [List.getElem?_append_left (by rw [← h.1]; exact c)]; exact h2, h3, by rw [upd_ne h3]; exact h4⟩
  · have c2 : i = xs.length := by
      have := (List.getElem?_eq_some_iff.mp ex).1
      rw [List.length_append, List.length_singleton] at this
      omega
    subst c2
    rw [List.getElem?_append_right (Nat.le_refl _), Nat.sub_self] at ex
    obtain rfl : V.ref p = x := Option.some.inj ex
    exact ⟨p, l, rfl, by rw [h.1, List.getElem?_append_right (Nat.le_refl _), Nat.sub_self]; rfl, n, by rw [upd_ne n]; exact e⟩
theorem RowsN.dps {D : Addr} {H : Hp} : ∀ {xs : List V} {ls : List (List Nat)}, RowsN D H xs ls → DpAll K H xs (ls.map fun l => PyData.list (l.map fun (n : Nat) => PyData.int (n : Nat)))
  | [], [], _ => .nil
  | [], _ :: _, h => absurd h.1 (by simp)
  | _ :: _, [], h => absurd h.1 (by simp)
  | x :: xs, l :: ls, h => by
    obtain ⟨p, m, rfl, h2, _, h4⟩ := h.2 0 x rfl
    obtain rfl : l = m := Option.some.inj h2
    exact .cons (.lst (.of h4) (dps_ints _)) (RowsN.dps ⟨by have := h.1; simpa using this, fun i y e => h.2 (i + 1) y e⟩)
def nmL (z : Str) : List Nat := z.cps.toList.map lixN
def nmIx (z : Str) : PyData := .list ((nmL z).map fun (n : Nat) => PyData.int (n : Nat))
theorem lix_inj : ∀ {a b : List Nat}, (∀ c ∈ a, c ∈ lettersL) → (∀ c ∈ b, c ∈ lettersL) → a.map lixN = b.map lixN → a = b
  | [], [], _, _, _ => rfl
  | [], _ :: _, _, _, h => by cases h
  | _ :: _, [], _, _, h => by cases h
  | x :: a, y :: b, ha, hb, h => by
    obtain ⟨h1, h2⟩ := List.cons.inj h
    have key : ∀ x ∈ lettersL, ∀ y ∈ lettersL, lixN x = lixN y → x = y := by decide +kernel
    rw [key x (ha x (List.mem_cons_self ..)) y (hb y (List.mem_cons_self ..)) h1, lix_inj (fun c hc => ha c (List.mem_cons_of_mem _ hc)) (fun c hc => hb c (List.mem_cons_of_mem _ hc)) h2]
theorem eqv_natsL : ∀ {a b : List Nat}, PyData.eqv (.list (a.map fun (n : Nat) => PyData.int (n : Nat))) (.list (b.map fun (n : Nat) => PyData.int (n : Nat))) = decide (a = b) := by
  have key : ∀ a b : List Nat, PyData.eqvAll (a.map fun (n : Nat) => PyData.int (n : Nat)) (b.map fun (n : Nat) => PyData.int (n : Nat)) = decide (a = b) := fun a => by
    induction a with
    | nil =>
      intro b
      cases b with
      | nil => rfl
      | cons y b => rfl
    | cons x a ih =>
      intro b
      cases b with
      | nil => rfl
      | cons y b =>
        show (PyData.eqv (.int (x : Nat)) (.int (y : Nat)) && PyData.eqvAll _ _) = _
        rw [ih b]
        have e : PyData.eqv (.int (x : Nat)) (.int (y : Nat)) = decide (x = y) := by
          show (((x : Nat) : Int) == ((y : Nat) : Int)) = _
          by_cases c : x = y
          · subst c; simp
          · rw [decide_eq_false c]
            exact beq_eq_false_iff_ne.mpr fun q => c (Int.ofNat.inj q)
        rw [e]
        by_cases c1 : x = y <;> by_cases c2 : a = b <;> simp [c1, c2]
  intro a b
  exact key a b
abbrev nNr : List Str := ["_law_values_here", "_law_count", "_law_at", "_law_known", "_law_k", "_law_start", "_law_j"]
theorem scNamesRd : FnScope nNr ["_law_values_here", "_law_count"] (defScope sNamesRd) := C8.fnScope_by (by decide +kernel)
def spNamesRd (K : PySem.W.Frag) (G : List Addr) (L : List (Addr × Str)) : Sp := fun vs H Q _ => ∃ (vl : Addr) (l : List Nat) (c : Nat), vs = [.ref vl, .int (c : Nat)] ∧ H vl = some (.lst (vN l)) ∧ l.length ≤ 900 ∧ 2 ≤ l.length ∧ c ≤ 10 ∧
  (∀ e, nmsR l c 2 = .error e → ∀ T H', Go G L H H' → H' T = some (.tup [.int (e : Nat), .bl true]) → Q (.ref T) H') ∧
  (∀ ns p, nmsR l c 2 = .ok (ns, p) → ∀ T H', Go G L H H' → H' T = some (.tup [.int (p : Nat), .non]) → Q (.ref T) H')
theorem ok_namesRd {f : Addr} {fd : FuncData} (F : Fun K "_law_names_read" "_law_names_read" sNamesRd f fd) (zL : mg "len" = none) (zR : mg "range" = none) : FnOk P w K mg base CX0 1 f fd ["_law_values_here", "_law_count"] (spNamesRd K G L) := by
  refine F.ok scNamesRd (fun vs H Q E h => ?_) (fun cdv A outer s H vs Q E hr h => ?_)
  · obtain ⟨vl, l, c, e, _⟩ := h
    rw [e]
    rfl
  · obtain ⟨vl, l, c, e, hvl, hl, h2, c10, qE, qO⟩ := h
    subst e
    refine ⟨_, pss_cons (ps_par (i := 2) (j := 3) rfl scNamesRd.nd rfl rfl (by decide) rfl rfl (pa_cons pe_int (pa_cons (pe_lst pa_nil) pa_nil)) rfl)
(pss_cons (ps_for PassesOwn.never rfl (pi_range1 rfl zR (pa_cons (pv 1) pa_nil)) (pg_name (i := 4) scNamesRd.nd rfl (.inl rfl))
  (pss_cons (ps_set (i := 5) scNamesRd.nd rfl (Or.inl rfl) (pv 2))
  (pss_cons (ps_if (PW.pt (pw_or (pt_cmpR op_eq (pv 2) (pe_callB (r := cLen K) c_len rfl zL boot_len (pa_cons (pv 0) pa_nil)) (nomark _)) (pw_or1 (pt_not (pt_chain op_le op_le pe_int (pe_ix (r := rIxL K) ix_list (pv 0) (pv 2) (fun _ _ => rfl)) pe_int)))))
    (pss_one (ps_ret (pe_tup (pa_cons (pv 2) (pa_cons pe_bl pa_nil))))) pss_nil)
  (pss_cons (ps_for PassesOwn.never rfl (pi_range1 rfl zR (pa_cons (pe_ix (r := rIxL K) ix_list (pv 0) (pv 5) (fun _ _ => rfl)) pa_nil)) (pg_name (i := 6) scNamesRd.nd rfl (.inl rfl))
    (pss_cons (ps_set (i := 2) scNamesRd.nd rfl (Or.inl rfl) (pe_op op_add (pv 2) pe_int))
    (pss_one (ps_if (PW.pt (pw_or (pt_cmpR op_eq (pv 2) (pe_callB (r := cLen K) c_len rfl zL boot_len (pa_cons (pv 0) pa_nil)) (nomark _)) (pw_or1 (pt_cmpR op_gt (pe_ix (r := rIxL K) ix_list (pv 0) (pv 2) (fun _ _ => rfl)) pe_int (nomark _)))))
      (pss_one (ps_ret (pe_tup (pa_cons (pv 2) (pa_cons pe_bl pa_nil))))) pss_nil))))
  (pss_cons (ps_set (i := 2) scNamesRd.nd rfl (Or.inl rfl) (pe_op op_add (pv 2) pe_int))
  (pss_cons (ps_if (pt_cmpR (r := rInD K) (op_inD (u65 hr)) (pe_slice (r := rSlL K) sl_list (pv 0) (po_some (pe_op op_add (pv 5) pe_int)) (po_some (pv 2))) (pv 3) rfl)
    (pss_one (ps_ret (pe_tup (pa_cons (pv 5) (pa_cons pe_bl pa_nil))))) pss_nil)
  (pss_one (ps_expr (pe_bm PySem.F.plainAttrs_list PySem.F.slot_list_append PySem.F.type_list_append mt_append (pv 3) (pa_cons (pe_slice (r := rSlL K) sl_list (pv 0) (po_some (pe_op op_add (pv 5) pe_int)) (po_some (pv 2))) pa_nil))))))))))
(pss_one (ps_ret (pe_tup (pa_cons (pv 2) (pa_cons pe_non pa_nil)))))), ?_⟩
    rw [show L2.start nNr [V.ref vl, V.int (c : Nat)] = [some (V.ref vl), some (V.int (c : Nat)), none, none, none, none, none] from rfl]
    repeat walk_at "rs"
    refine r_par ?_
    repeat walk_at "rs"
    refine ⟨by show 0 ≤ sizeLine; decide, fun p1 n1 => ?_⟩
    generalize hH : upd _ p1 _ = H1; obtain ⟨k1, e1⟩ := new_facts hH n1; clear hH
    refine ⟨_, _, rfl, ?_⟩
    have g1 : Go G L H H1 := Go.same k1
    simp only [List.set_cons_zero, List.set_cons_succ]
    repeat walk_at "rs"
    refine forR (n := c) (H0 := H1) (fun R y => ⟨_, rfl, y⟩) (by omega) (fun i σ H' => ∃ (x4 x5 x6 : Option V) (ns : List Str) (p : Nat) (ks : List V), σ = [some (.ref vl), some (.int (c : Nat)), some (.int (p : Nat)), some (.ref p1), x4, x5, x6] ∧ nmsR l i 2 = .ok (ns, p) ∧ p ≤ l.length ∧ Go G L H H' ∧ H' p1 = some (.lst ks) ∧ RowsN p1 H' ks (ns.map nmL)) ?_ ?_ ?_
    · exact ⟨none, none, none, [], 2, [], rfl, rfl, h2, g1, e1, rfl, fun i x e => by cases e⟩
    · rintro i σ H' hi ⟨x4, x5, x6, ns, p, ks, rfl, hns, hp, g, eK, hks⟩
      have hvl' := g.lst hvl
      obtain ⟨_, gn, hnl⟩ := nmsR_seg h2 hns
      have bad : ∀ e, (match nameR l p with | .error e => Except.error e | .ok (z, p') => if z ∈ ns then .error p else .ok (ns ++ [z], p')) = .error e → nmsR l c 2 = .error e := fun e h => nmsR_err hns h c hi
      refine r_gN ?_
      simp only [List.set_cons_zero, List.set_cons_succ]
      repeat walk_at "rs"
      have ret : ∀ e, nmsR l c 2 = .error e → ∀ H2 T, Go G L H H2 → H2 T = none → Q (.ref T) (upd H2 T (.tup [.int (e : Nat), .bl true])) := fun e he H2 T g2 n => qE e he T _ (g2.trans (Go.new n)) upd_same
      refine r_lenL (.of hvl') ?_
      rw [vN_len]
      refine r_eq rfl ?_
      repeat walk_at "rs"
      refine r_if (fun cq => ?_) (fun cq => ?_)
      · have c2 : p = l.length := by
          have z := V.int.inj (of_decide_eq_true cq)
          omega
        repeat walk_at "rs"
        refine ⟨by show 2 ≤ sizeLine; decide, fun T nT => ret p (bad p ?_) H' T g nT⟩
        unfold nameR
        rw [tkR_bad fun n hn => by rw [List.getElem?_eq_none (by omega)] at hn; cases hn]
      have c2 : p < l.length := by
        have z : V.int (p : Nat) ≠ V.int (l.length : Nat) := of_decide_eq_false cq
        have z2 : p ≠ l.length := fun q => z (by rw [q])
        omega
      have hn : l[p]? = some l[p] := List.getElem?_eq_getElem c2
      generalize l[p] = n at hn
      have badT : n < 1 ∨ 8 < n → nmsR l c 2 = .error p := fun h => bad p (by
        unfold nameR
        rw [tkR_bad fun n' hn' => by rw [hn] at hn'; cases hn'; exact h])
      repeat walk_at "rs"
      refine r_ixL (.of hvl') (vN_at hn) ?_
      repeat walk_at "rs"
      refine r_if (fun c3 => ?_) (fun c3 => ?_)
      rotate_left
      · have c4 : n < 1 := by
          have z := of_decide_eq_false c3
          omega
        repeat walk_at "rs"
        exact ⟨by show 2 ≤ sizeLine; decide, fun T nT => ret p (badT (.inl c4)) H' T g nT⟩
      have c4 : 1 ≤ n := by
        have z := of_decide_eq_true c3
        omega
      repeat walk_at "rs"
      refine r_if (fun c5 => ?_) (fun c5 => ?_)
      · have c6 : 8 < n := by
          have z : decide (((n : Nat) : Int) ≤ 8) = false := by simpa using c5
          have z2 := of_decide_eq_false z
          omega
        repeat walk_at "rs"
        exact ⟨by show 2 ≤ sizeLine; decide, fun T nT => ret p (badT (.inr c6)) H' T g nT⟩
      have c6 : n ≤ 8 := by
        have z : decide (((n : Nat) : Int) ≤ 8) = true := by simpa using c5
        have z2 := of_decide_eq_true z
        omega
      have eN : nameR l p = match repR (oneR l lettersL) n (p + 1) with | .error e => .error e | .ok (cs, p') => .ok (⟨cs.toArray⟩, p') := by
        show (match tkR l 1 8 p with | .error e => _ | .ok (n, p) => _) = _
        first | (rw [tkR_good hn c4 c6]; done) | (rw [tkR_good hn c4 c6]; rfl)
      repeat walk_at "rs"
      refine forR (n := n) (H0 := H') (fun R y => r_op (r_var (v := .ref vl) rfl (r_var (v := .int (p : Nat)) rfl (r_ixL (.of hvl') (vN_at hn) y)))) (by omega) (fun j σ H2 => ∃ (x6 : Option V) (cs : List Nat), σ = [some (.ref vl), some (.int (c : Nat)), some (.int (p + j : Nat)), some (.ref p1), some (.int (i : Nat)), some (.int (p : Nat)), x6] ∧ repR (oneR l lettersL) j (p + 1) = .ok (cs, p + 1 + j) ∧ p + 1 + j ≤ l.length ∧ H2 = H') ?_ ?_ ?_
      · exact ⟨x6, [], rfl, rfl, c2, rfl⟩
      · rintro j σ H2 hj ⟨x6, cs, rfl, hcs, hpj, rfl⟩
        refine r_gN ?_
        simp only [List.set_cons_zero, List.set_cons_succ]
        refine r_seq (r_asg (r_op (r_var (v := .int (p + j : Nat)) rfl (r_c (r_I0 (r_gN ?_))))))
        rw [show ((p + j : Nat) : Int) + 1 = ((p + 1 + j : Nat) : Int) by omega]
        simp only [List.set_cons_zero, List.set_cons_succ]
        refine r_ifS (r_chk (o := p + 1 + j) (bad := fun n => decide (25 < n)) rfl rfl hvl' hpj (fun n R hn q => ?_) (fun hb => ?_) (fun m hm hb => ?_))
        · refine r_c ?_
          refine ⟨(n : Nat), 25, rfl, rfl, ?_⟩
          show R (.bl (decide ((25 : Int) < ((n : Nat) : Int)))) H2
          rw [show decide ((25 : Int) < ((n : Nat) : Int)) = decide (25 < n) from decide_eq_decide.mpr (by omega)]
          exact q
        · repeat walk_at "rs"
          refine ⟨by show 2 ≤ sizeLine; decide, fun T nT => ret (p + 1 + j) (bad _ ?_) H2 T g nT⟩
          rw [eN, repR_err hcs (oneR_bad (by decide +kernel) fun n hn => ?_) n hj]
          have z := of_decide_eq_true (hb n hn)
          show lettersL.length ≤ n
          rw [show lettersL.length = 26 from by decide +kernel]
          omega
        · have z := of_decide_eq_false hb
          have z2 := (List.getElem?_eq_some_iff.mp hm).1
          have hx : lettersL[m]? = some (lettersL[m]'(by rw [show lettersL.length = 26 from by decide +kernel]; omega)) := List.getElem?_eq_getElem _
          repeat walk_at "rs"
          exact ⟨_, _, by rw [show p + (j + 1) = p + 1 + j by omega], by rw [show p + 1 + (j + 1) = p + 1 + j + 1 by omega]; exact repR_ok hcs (oneR_good hm hx), by omega, rfl⟩
      · rintro σ H2 ⟨x6, cs, rfl, hcs, hpj, rfl⟩
        obtain ⟨sg, hcl⟩ := rep_lets c2 hcs
        have hz : nameR l p = .ok (⟨cs.toArray⟩, p + 1 + n) := by rw [eN, hcs]
        obtain ⟨_, nz1, nz2, nz3⟩ := nameR_seg hz
        have ecut : cutV (vN l) (some ((p + 1 : Nat) : Int)) (some ((p + 1 + n : Nat) : Int)) = vN (cs.map lixN) := by
          unfold cutV
          rw [HT.sIx_nat, HT.sIx_nat, vN_len, Nat.min_eq_left hpj, Nat.min_eq_left (by omega), Nat.add_sub_cancel_left]
          have z := sg.1
          unfold vN
          rw [← List.map_drop, z, List.map_append, List.take_left' (by rw [List.length_map, List.length_map]; exact repR_len hcs)]
        repeat walk_at "rs"
        rw [show ((p + n : Nat) : Int) + 1 = ((p + 1 + n : Nat) : Int) by omega, show ((p : Nat) : Int) + 1 = ((p + 1 : Nat) : Int) by omega]
        refine r_slL hvl' fun p5 H5 k5 e5 => ?_
        rw [ecut] at e5
        have g5 : Go G L H2 H5 := Go.same k5
        repeat walk_at "rs"
        have hks5 : DpAll K H5 ks (ns.map nmIx) := by
          have z := (hks.go g5).dps (K := K)
          rw [List.map_map] at z
          exact z
        have lvz : ∀ z : Str, lv 5 (nmIx z) = true := fun z => lv_lst fun y hy => by
          obtain ⟨m, _, rfl⟩ := List.mem_map.mp hy
          rfl
        refine ⟨nmIx ⟨cs.toArray⟩, ns.map nmIx, .lst (.of e5) (dps_ints _), .lst (.of (g5.lst eK)) hks5, shaped_of (n := 5) (lvz _), shaped_of (n := 6) (lv_lst fun d hd => by
          obtain ⟨z, _, rfl⟩ := List.mem_map.mp hd
          exact lvz z), ?_⟩
        have einD : ((ns.map nmIx).any fun z => PyData.eqv z (nmIx ⟨cs.toArray⟩)) = decide ((⟨cs.toArray⟩ : Str) ∈ ns) := by
          rw [List.any_map]
          refine Bool.eq_iff_iff.mpr ?_
          rw [List.any_eq_true, decide_eq_true_iff]
          constructor
          · rintro ⟨z, hzm, he⟩
            have he : PyData.eqv (nmIx z) (nmIx ⟨cs.toArray⟩) = true := he
            unfold nmIx at he
            rw [eqv_natsL] at he
            have e := lix_inj (lets_of (gn.al z hzm).1).2 hcl (of_decide_eq_true he)
            have e2 : z = (⟨cs.toArray⟩ : Str) := TL.ext_tl e
            exact e2 ▸ hzm
          · intro hm
            refine ⟨_, hm, ?_⟩
            show PyData.eqv (nmIx _) (nmIx _) = true
            unfold nmIx
            rw [eqv_natsL]
            exact decide_eq_true rfl
        rw [einD]
        repeat walk_at "rs"
        refine r_if (fun c7 => ?_) (fun c7 => ?_)
        · repeat walk_at "rs"
          exact ⟨by show 2 ≤ sizeLine; decide, fun T nT => ret p (bad p (by rw [hz]; exact if_pos (of_decide_eq_true c7))) H5 T (g.trans g5) nT⟩
        · have c8 := of_decide_eq_false c7
          repeat walk_at "rs"
          refine ⟨.inl ⟨rfl, _, .inl (.inl (g5.lst eK))⟩, ?_⟩
          repeat walk_at "rs"
          rw [show ((p : Nat) : Int) + 1 = ((p + 1 : Nat) : Int) by omega]
          refine r_slN (g5.lst hvl') fun p6 H6 n6 k6 e6 => ?_
          rw [ecut] at e6
          have g6 : Go G L H5 H6 := Go.same k6
          have eK6 := g6.lst (g5.lst eK)
          have hkl : ks.length = ns.length := by
            have z := hks.1
            rw [List.length_map] at z
            exact z
          repeat walk_at "rs"
          refine r_append eK6 (by omega) ?_
          have gD : Go G L H (upd H6 p1 (.lst (ks ++ [.ref p6]))) := ((g.trans g5).trans g6).updNew n1 eK6
          refine ⟨_, _, _, ns ++ [⟨cs.toArray⟩], p + 1 + n, ks ++ [.ref p6], rfl, nmsR_good hns hz c8, hpj, gD, upd_same, ?_⟩
          rw [List.map_append]
          exact ((hks.go g5).go g6).snoc (fun q => by rw [q, g5.lst eK] at n6; cases n6) e6
    · rintro σ H' ⟨x4, x5, x6, ns, p, ks, rfl, hns, hp, g, eK, hks⟩
      repeat walk_at "rs"
      exact ⟨by show 2 ≤ sizeLine; decide, fun T nT => qO ns p hns T _ (g.trans (Go.new nT)) upd_same⟩
end
local macro_rules | `(tactic| walk_at "rs") => `(tactic| first | (with_reducible refine r_tM1 ?_) | walk_at "rd")
theorem stN_acc (s : List Str) : ∀ (l : List Str) (a : Nat), l.foldl (fun n z => 2 * n + (if z ∈ s then 1 else 0)) a = a * 2 ^ l.length + stN s l
  | [], a => by
    show a = a * 1 + 0
    omega
  | z :: l, a => by
    have h1 := stN_acc s l (2 * a + (if z ∈ s then 1 else 0))
    have h2 : stN s (z :: l) = (2 * 0 + (if z ∈ s then 1 else 0)) * 2 ^ l.length + stN s l := stN_acc s l (2 * 0 + (if z ∈ s then 1 else 0))
    rw [List.foldl_cons, h1, h2, List.length_cons, Nat.pow_succ]
    generalize 2 ^ l.length = p
    generalize (if z ∈ s then 1 else 0) = b
    rw [Nat.mul_zero, Nat.zero_add, Nat.add_mul, Nat.mul_comm p 2, ← Nat.mul_assoc, Nat.mul_comm a 2]
    omega
theorem stN_cons (s l : List Str) (z : Str) : stN s (z :: l) = (if z ∈ s then 1 else 0) * 2 ^ l.length + stN s l := by
  have h2 : stN s (z :: l) = (2 * 0 + (if z ∈ s then 1 else 0)) * 2 ^ l.length + stN s l := stN_acc s l (2 * 0 + (if z ∈ s then 1 else 0))
  rw [h2, Nat.mul_zero, Nat.zero_add]
section
variable {P : Program} {w : World} {K : PySem.W.Frag} {mg : Str → Option Value} {base : Heap} {G : List Addr} {L : List (Addr × Str)}
theorem r_revT8 {te : TE} {σ : L2.St} {H : Hp} {Q : VK} (h : te σ H fun x H1 => ∃ a xs, x = .ref a ∧ SqT K H1 a xs ∧ ∀ p, H1 p = none → Q (.ref p) (upd H1 p (.tup xs.reverse))) : tRevT K te σ H Q := h
theorem r_wix {H : Hp} {Q : VK} {a : Addr} {w0 : Str} (h : H a = some (.lst (wordsL.map V.str))) (hw : isWord w0) (q : Q (.int (wordI w0 : Nat)) H) : rIndex K (.ref a) [.str w0] H Q := by
  rcases hw with rfl | rfl | rfl
  · exact ⟨a, _, _, 0, .str "needs", rfl, rfl, .of h, rfl, by decide, rfl, by decide +kernel, fun m z' hm => absurd hm (Nat.not_lt_zero m), q⟩
  · exact ⟨a, _, _, 1, .str "excludes", rfl, rfl, .of h, rfl, by decide, rfl, by decide +kernel, fun m z' hm e => by
      have : m = 0 := by omega
      subst this
      cases e
      decide +kernel, q⟩
  · exact ⟨a, _, _, 2, .str "either", rfl, rfl, .of h, rfl, by decide, rfl, by decide +kernel, fun m z' hm e => by
      have : m = 0 ∨ m = 1 := by omega
      rcases this with rfl | rfl
      · cases e
        decide +kernel
      · cases e
        decide +kernel, q⟩
theorem mt_index8 {X : Cx} : MtR X "list.index" (rIndex X.K) := mt_index
abbrev nCs : List Str := ["_law_values_here", "_law_total", "_law_value"]
theorem scClosed : FnScope nCs ["_law_values_here"] (defScope sClosed) := C8.fnScope_by (by decide +kernel)
def spClosed (K : PySem.W.Frag) (G : List Addr) (L : List (Addr × Str)) : Sp := fun vs H Q _ => ∃ (a : Addr) (l : List Nat), vs = [.ref a] ∧ H a = some (.lst (vN l)) ∧ l.length ≤ 2000 ∧ ∀ D H', H D = none → Go G L H H' → H' D = some (.lst (vN (closedN l))) → Q (.ref D) H'
theorem ok_closed {f : Addr} {fd : FuncData} (F : Fun K "_law_closed" "_law_closed" sClosed f fd) (zi : mg "int" = none) : FnOk P w K mg base CX0 1 f fd ["_law_values_here"] (spClosed K G L) := by
  refine F.ok scClosed (fun vs H Q E h => ?_) (fun cdv A outer s H vs Q E hr h => ?_)
  · obtain ⟨a, l, e, _⟩ := h
    rw [e]
    rfl
  · obtain ⟨a, l, e, ha, hl, q⟩ := h
    subst e
    refine ⟨_, pss_cons (ps_set (i := 1) scClosed.nd rfl (Or.inl rfl) pe_int)
(pss_cons (ps_for PassesOwn.never rfl (pi_list (pv 0)) (pg_name (i := 2) scClosed.nd rfl (.inl rfl))
  (pss_one (ps_set (i := 1) scClosed.nd rfl (Or.inl rfl) (pe_op op_mod (pe_callTy c_int rfl zi boot_int (pa_cons (pe_op op_add (pe_op op_mul pe_int (pv 1)) (pv 2)) pa_nil)) pe_int))))
(pss_one (ps_ret (pe_op op_cat (pv 0) (pe_lst (pa_cons (pv 1) pa_nil)))))), ?_⟩
    repeat walk_at "rd"
    refine forL (a := a) (xs := vN l) (fun R z => ⟨_, rfl, z⟩) (.of ha) (fun i σ H' => ∃ x2, σ = [some (.ref a), some (.int (ckN (l.take i) : Nat)), x2] ∧ H' = H) ?_ ?_ ?_ ?_
    · exact ⟨none, rfl, rfl⟩
    · rintro i σ H' _ ⟨_, _, rfl⟩
      exact .of ha
    · rintro i y σ H' ey ⟨x2, rfl, rfl⟩
      unfold vN at ey
      rw [List.getElem?_map] at ey
      cases hz : l[i]? with
      | none => rw [hz] at ey; cases ey
      | some n =>
        rw [hz] at ey
        obtain rfl : y = .int (n : Nat) := (Option.some.inj ey).symm
        refine r_gN ?_
        repeat walk_at "rd"
        refine r_I (.inl ⟨by decide, by decide⟩) ?_
        repeat walk_at "rd"
        refine r_I (by decide : (0 : Int) < 241) ?_
        repeat walk_at "rd"
        have e : (7 * ((ckN (l.take i) : Nat) : Int) + ((n : Nat) : Int)) % 241 = ((ckN (l.take (i + 1)) : Nat) : Int) := by
          rw [ckN_take hz]
          omega
        rw [e]
        exact ⟨_, rfl, rfl⟩
    · rintro σ H' ⟨x2, rfl, rfl⟩
      rw [show (vN l).length = l.length from vN_len l, List.take_length]
      repeat walk_at "rd"
      refine ⟨by show 1 ≤ sizeLine; decide, fun p1 n1 => ?_⟩
      generalize hH : upd _ p1 _ = H1; obtain ⟨k1, e1⟩ := new_facts hH n1; clear hH
      repeat walk_at "rd"
      refine r_cat (a := a) (b := p1) (k1 _ _ ha) e1 (by rw [vN_len]; show _ + 1 ≤ 5000; omega) fun p2 H2 k2 n2 e2 => ?_
      refine q p2 H2 ?_ ((Go.same k1).trans (Go.same k2)) (by rw [e2]; unfold closedN; rw [vN_app]; rfl)
      cases hh : H' p2 with
      | none => rfl
      | some o => rw [k1 p2 o hh] at n2; cases n2
abbrev nVa : List Str := ["_law_rules_here", "_law_state", "_law_changes", "_law_letters", "_law_words", "_law_found", "_law_name", "_law_word", "_law_first", "_law_second", "_law_number", "_law_bit", "_law_letter"]
theorem scValues : FnScope nVa ["_law_rules_here", "_law_state", "_law_changes"] (defScope sValues) := C8.fnScope_by (by decide +kernel)
end
local macro_rules | `(tactic| walk_at "rs") => `(tactic| first | (with_reducible refine r_tM1 ?_) | (with_reducible refine r_un ?_) | walk_at "rd")
/-- numbers that are at most so great, one after another -/
def tops (l : List Nat) : List Nat → Nat → Except Nat Nat
  | [], o => .ok o
  | t :: ts, o => match tkR l 0 t o with
    | .error e => .error e
    | .ok (_, p) => tops l ts p
theorem tops_app {l : List Nat} : ∀ {a b : List Nat} {o : Nat}, tops l (a ++ b) o = match tops l a o with | .error e => .error e | .ok p => tops l b p
  | [], b, o => rfl
  | t :: a, b, o => by
    show (match tkR l 0 t o with | .error e => Except.error e | .ok (_, p) => tops l (a ++ b) p) = match (match tkR l 0 t o with | .error e => Except.error e | .ok (_, p) => tops l a p) with | .error e => .error e | .ok p => tops l b p
    cases tkR l 0 t o with
    | error e => rfl
    | ok q => exact tops_app
theorem tops_snoc {l : List Nat} {a : List Nat} {t o p : Nat} (h : tops l a o = .ok p) : tops l (a ++ [t]) o = match tkR l 0 t p with | .error e => .error e | .ok (_, p') => .ok p' := by
  rw [tops_app, h]
  rfl
theorem tops_pre {l : List Nat} {a b : List Nat} {o e : Nat} (h : tops l a o = .error e) : tops l (a ++ b) o = .error e := by
  rw [tops_app, h]
theorem one_tk {α : Type} {l : List Nat} {xs : List α} {o : Nat} (ne : xs ≠ []) : (∃ e, oneR l xs o = .error e ∧ tkR l 0 (xs.length - 1) o = .error e) ∨ ∃ x n, oneR l xs o = .ok (x, o + 1) ∧ tkR l 0 (xs.length - 1) o = .ok (n, o + 1) := by
  have hp := List.length_pos_iff.mpr ne
  cases e : tkR l 0 (xs.length - 1) o with
  | error e' =>
    refine .inl ⟨e', ?_, rfl⟩
    unfold oneR
    rw [e]
  | ok q =>
    obtain ⟨n, p⟩ := q
    obtain ⟨h1, _, h3, rfl⟩ := tkR_ok e
    exact .inr ⟨_, n, oneR_good h1 (List.getElem?_eq_getElem (show n < xs.length by omega)), rfl⟩
theorem clause_tops {l : List Nat} {ns : List Str} {o : Nat} (ne : ns ≠ []) : (∃ e, clauseR l ns o = .error e ∧ tops l [2, ns.length - 1, ns.length - 1] o = .error e) ∨ ∃ d, clauseR l ns o = .ok (d, o + 3) ∧ tops l [2, ns.length - 1, ns.length - 1] o = .ok (o + 3) := by
  have hw : wordsL.length - 1 = 2 := rfl
  rcases one_tk (l := l) (xs := wordsL) (o := o) (by decide) with ⟨e, h1, h2⟩ | ⟨w, n, h1, h2⟩
  · rw [hw] at h2
    refine .inl ⟨e, ?_, ?_⟩
    · unfold clauseR
      rw [h1]
    · unfold tops
      rw [h2]
  rw [hw] at h2
  rcases one_tk (l := l) (xs := ns) (o := o + 1) ne with ⟨e, k1, k2⟩ | ⟨a, m, k1, k2⟩
  · refine .inl ⟨e, ?_, ?_⟩
    · unfold clauseR
      rw [h1]
      simp only
      rw [k1]
    · unfold tops
      rw [h2]
      simp only
      unfold tops
      rw [k2]
  rcases one_tk (l := l) (xs := ns) (o := o + 1 + 1) ne with ⟨e, j1, j2⟩ | ⟨b, q, j1, j2⟩
  · refine .inl ⟨e, ?_, ?_⟩
    · unfold clauseR
      rw [h1]
      simp only
      rw [k1]
      simp only
      rw [j1]
    · unfold tops
      rw [h2]
      simp only
      unfold tops
      rw [k2]
      simp only
      unfold tops
      rw [j2]
  · refine .inr ⟨clD w a b, ?_, ?_⟩
    · unfold clauseR
      rw [h1]
      simp only
      rw [k1]
      simp only
      rw [j1]
    · unfold tops
      rw [h2]
      simp only
      unfold tops
      rw [k2]
      simp only
      unfold tops
      rw [j2]
      rfl
theorem rep_tops {l : List Nat} {ns : List Str} (ne : ns ≠ []) : ∀ (m o : Nat), (∃ e, repR (clauseR l ns) m o = .error e ∧ tops l (List.replicate m [2, ns.length - 1, ns.length - 1]).flatten o = .error e) ∨ ∃ cd, repR (clauseR l ns) m o = .ok (cd, o + 3 * m) ∧ tops l (List.replicate m [2, ns.length - 1, ns.length - 1]).flatten o = .ok (o + 3 * m)
  | 0, o => .inr ⟨[], rfl, rfl⟩
  | m + 1, o => by
    rw [List.replicate_succ', List.flatten_append, List.flatten_cons, List.flatten_nil, List.append_nil]
    rcases rep_tops ne m o with ⟨e, h1, h2⟩ | ⟨cd, h1, h2⟩
    · refine .inl ⟨e, ?_, tops_pre h2⟩
      unfold repR
      rw [h1]
    · rw [tops_app, h2]
      simp only
      rcases clause_tops (l := l) (o := o + 3 * m) ne with ⟨e, k1, k2⟩ | ⟨d, k1, k2⟩
      · exact .inl ⟨e, repR_err h1 k1 (m + 1) (Nat.lt_succ_self _), k2⟩
      · exact .inr ⟨cd ++ [d], repR_ok h1 k1, k2⟩
/-- what the law's reader hands back -/
def offO (l : List Nat) : Option Nat := match decR l with
  | .error e => some e
  | .ok _ => none
def boundsN (ns : List Str) (m : Nat) : List Nat := (List.replicate m [2, ns.length - 1, ns.length - 1]).flatten ++ [255, 255]
theorem bounds_len (ns : List Str) (m : Nat) : (boundsN ns m).length = 3 * m + 2 := by
  unfold boundsN
  rw [List.length_append]
  have : ∀ m : Nat, (List.replicate m [2, ns.length - 1, ns.length - 1]).flatten.length = 3 * m := fun m => by
    rw [List.length_flatten]
    simp
    omega
  rw [this]
  rfl
section
variable {l : List Nat} {n1 p2 m : Nat} {ns : List Str}
/-- clauses and the state's bytes, by their bounds -/
theorem dec_tops (h1 : tkR l 70 70 0 = .ok (n1, 1)) (h2 : namesR l 1 = .ok (ns, p2)) (h3 : tkR l 0 40 p2 = .ok (m, p2 + 1)) (ne : ns ≠ []) :
    (∀ e, tops l (boundsN ns m) (p2 + 1) = .error e → decR l = .error e) ∧
    (∀ q, tops l (boundsN ns m) (p2 + 1) = .ok q → ∃ cd hi lo, q = p2 + 1 + 3 * m + 2 ∧ clausesR l ns p2 = .ok (cd, p2 + 1 + 3 * m) ∧ tkR l 0 255 (p2 + 1 + 3 * m) = .ok (hi, p2 + 1 + 3 * m + 1) ∧ tkR l 0 255 (p2 + 1 + 3 * m + 1) = .ok (lo, p2 + 1 + 3 * m + 2)) := by
  have ec : clausesR l ns p2 = repR (clauseR l ns) m (p2 + 1) := by
    unfold clausesR
    rw [h3]
  have ed : decR l = (match clausesR l ns p2 with
      | .error e => .error e
      | .ok (cd, p3) => match stateR l ns p3 with
        | .error e => .error e
        | .ok (st, p4) => match changesR l ns p4 with
          | .error e => .error e
          | .ok (cs, p5) => match finR l p5 with
            | .error e => .error e
            | .ok _ => .ok ⟨ns, cd, st, cs⟩) := by
    unfold decR
    rw [h1]
    simp only
    first | (rw [h2]; done) | (rw [h2]; rfl)
  unfold boundsN
  rw [tops_app]
  rcases rep_tops (l := l) ne m (p2 + 1) with ⟨e, k1, k2⟩ | ⟨cd, k1, k2⟩
  · rw [k2]
    refine ⟨fun e' he => ?_, fun q hq => by cases hq⟩
    obtain rfl := Except.error.inj he
    rw [ed, ec, k1]
  rw [k2]
  simp only
  generalize hp3 : p2 + 1 + 3 * m = p3 at k1 k2
  cases j1 : tkR l 0 255 p3 with
  | error e =>
    have es : tops l [255, 255] p3 = .error e := by
      unfold tops
      rw [j1]
    refine ⟨fun e' he => ?_, fun q hq => by rw [es] at hq; cases hq⟩
    rw [es] at he
    obtain rfl := Except.error.inj he
    have e4 : stateR l ns p3 = .error e := by
      unfold stateR
      rw [j1]
    rw [ed, ec, k1]
    simp only
    rw [e4]
  | ok q1 =>
    obtain ⟨hi, q⟩ := q1
    obtain ⟨_, _, _, rfl⟩ := tkR_ok j1
    cases j2 : tkR l 0 255 (p3 + 1) with
    | error e =>
      have es : tops l [255, 255] p3 = .error e := by
        unfold tops
        rw [j1]
        simp only
        unfold tops
        rw [j2]
      refine ⟨fun e' he => ?_, fun q hq => by rw [es] at hq; cases hq⟩
      rw [es] at he
      obtain rfl := Except.error.inj he
      have e4 : stateR l ns p3 = .error e := by
        unfold stateR
        rw [j1]
        simp only
        rw [j2]
      rw [ed, ec, k1]
      simp only
      rw [e4]
    | ok q2 =>
      obtain ⟨lo, q⟩ := q2
      obtain ⟨_, _, _, rfl⟩ := tkR_ok j2
      have es : tops l [255, 255] p3 = .ok (p3 + 2) := by
        unfold tops
        rw [j1]
        simp only
        unfold tops
        rw [j2]
        rfl
      refine ⟨fun e' he => (by rw [es] at he; cases he), fun q hq => ?_⟩
      rw [es] at hq
      obtain rfl := Except.ok.inj hq
      exact ⟨cd, hi, lo, rfl, by rw [ec, k1], rfl, rfl⟩
end
local macro_rules | `(tactic| walk_at "rs") => `(tactic| first | (with_reducible refine r_tM1 ?_) | (with_reducible refine r_un ?_) | walk_at "rd")
section
variable {P : Program} {w : World} {K : PySem.W.Frag} {mg : Str → Option Value} {base : Heap} {G : List Addr} {L : List (Addr × Str)}
abbrev nLaR : List Str := ["_law_values_here", "_law_count", "_law_at", "_law_is_bad", "_law_top", "_law_bits", "_law_k"]
theorem scLawRd : FnScope nLaR ["_law_values_here"] (defScope sLawRd) := C8.fnScope_by (by decide +kernel)
def spLawRd (K : PySem.W.Frag) (G : List Addr) (L : List (Addr × Str)) : Sp := fun vs H Q _ => ∃ (vl : Addr) (l : List Nat), vs = [.ref vl] ∧ H vl = some (.lst (vN l)) ∧ l.length ≤ 800 ∧ ∀ H', Go G L H H' → Q (optV (offO l)) H'
theorem rep_ints {xs : List V} {a : List Nat} (h : xs = vN a) (m : Nat) : (List.replicate m xs).flatten = vN (List.replicate m a).flatten := by
  subst h
  unfold vN
  rw [List.map_flatten, List.map_replicate]
theorem chk_gt {σ : L2.St} {H : Hp} {n b : Nat} {R : VK} (q : R (.bl (decide (b < n))) H) : tC (.int (b : Nat)) σ H fun y H2 => rI0 (fun i j => V.bl (decide (j < i))) (.int (n : Nat)) y H2 R := by
  refine r_c ⟨(n : Nat), (b : Nat), rfl, rfl, ?_⟩
  show R (.bl (decide (((b : Nat) : Int) < ((n : Nat) : Int)))) H
  rw [show decide (((b : Nat) : Int) < ((n : Nat) : Int)) = decide (b < n) from decide_eq_decide.mpr (by omega)]
  exact q
set_option maxHeartbeats 2000000 in
theorem ok_lawRd {f : Addr} {fd : FuncData} (F : Fun K "_law_read" "_law_read" sLawRd f fd) (zL : mg "len" = none) (zR : mg "range" = none) (NR : Fd CX0 P w K mg base "_law_names_read" 1 (spNamesRd K G L)) (LCL : Fd CX0 P w K mg base "_law_closed" 1 (spClosed K G L)) : FnOk P w K mg base CX0 2 f fd ["_law_values_here"] (spLawRd K G L) := by
  refine F.ok scLawRd (fun vs H Q E h => ?_) (fun cdv A outer s H vs Q E hr h => ?_)
  · obtain ⟨vl, l, e, _⟩ := h
    rw [e]
    rfl
  · obtain ⟨vl, l, e, hvl, hl, q⟩ := h
    subst e
    refine ⟨_, pss_cons (ps_if (pt_cmpR (op_neD (u64 hr)) (pe_slice (r := rSlL K) sl_list (pv 0) po_none (po_some pe_int)) (pe_lst (pa_cons pe_int pa_nil)) rfl)
  (pss_one (ps_ret pe_int)) pss_nil)
(pss_cons (ps_if (PW.pt (pw_or (pt_cmpR op_lt (pe_callB (r := cLen K) c_len rfl zL boot_len (pa_cons (pv 0) pa_nil)) pe_int (nomark _)) (pw_or1 (pt_not (pt_chain op_le op_le pe_int (pe_ix (r := rIxL K) ix_list (pv 0) pe_int (fun _ _ => rfl)) pe_int)))))
  (pss_one (ps_ret pe_int)) pss_nil)
(pss_cons (ps_set (i := 1) scLawRd.nd rfl (Or.inl rfl) (pe_ix (r := rIxL K) ix_list (pv 0) pe_int (fun _ _ => rfl)))
(pss_cons (ps_asg (pe_fd (E := E0) NR hr pass0 (pa_cons (pv 0) (pa_cons (pv 1) pa_nil))) (pg_tup rfl (pgs_cons (pg_name (i := 2) scLawRd.nd rfl (.inl rfl)) (pgs_cons (pg_name (i := 3) scLawRd.nd rfl (.inl rfl)) pgs_nil))))
(pss_cons (ps_if (PW.pt (pw_or (pt_truth (pv 3) (by intro _; rfl)) (pw_or (pt_cmpR op_eq (pv 2) (pe_callB (r := cLen K) c_len rfl zL boot_len (pa_cons (pv 0) pa_nil)) (nomark _)) (pw_or1 (pt_cmpR op_gt (pe_ix (r := rIxL K) ix_list (pv 0) (pv 2) (fun _ _ => rfl)) pe_int (nomark _))))))
  (pss_one (ps_ret (pv 2))) pss_nil)
(pss_cons (ps_for PassesOwn.never rfl (pi_list (pe_op op_cat (pe_op op_rep (pe_lst (pa_cons pe_int (pa_cons (pe_op op_sub (pv 1) pe_int) (pa_cons (pe_op op_sub (pv 1) pe_int) pa_nil)))) (pe_ix (r := rIxL K) ix_list (pv 0) (pv 2) (fun _ _ => rfl))) (pe_lst (pa_cons pe_int (pa_cons pe_int pa_nil))))) (pg_name (i := 4) scLawRd.nd rfl (.inl rfl))
  (pss_cons (ps_set (i := 2) scLawRd.nd rfl (Or.inl rfl) (pe_op op_add (pv 2) pe_int))
  (pss_one (ps_if (PW.pt (pw_or (pt_cmpR op_eq (pv 2) (pe_callB (r := cLen K) c_len rfl zL boot_len (pa_cons (pv 0) pa_nil)) (nomark _)) (pw_or1 (pt_cmpR op_gt (pe_ix (r := rIxL K) ix_list (pv 0) (pv 2) (fun _ _ => rfl)) (pv 4) (nomark _)))))
    (pss_one (ps_ret (pv 2))) pss_nil))))
(pss_cons (ps_set (i := 5) scLawRd.nd rfl (Or.inl rfl) pe_int)
(pss_cons (ps_for PassesOwn.never rfl (pi_range1 rfl zR (pa_cons (pv 1) pa_nil)) (pg_name (i := 6) scLawRd.nd rfl (.inl rfl))
  (pss_one (ps_set (i := 5) scLawRd.nd rfl (Or.inl rfl) (pe_op op_mul pe_int (pv 5)))))
(pss_cons (ps_if (pt_cmpR op_ge (pe_op op_add (pe_op op_mul (pe_ix (r := rIxL K) ix_list (pv 0) (pe_op op_sub (pv 2) pe_int) (fun _ _ => rfl)) pe_int) (pe_ix (r := rIxL K) ix_list (pv 0) (pv 2) (fun _ _ => rfl))) (pv 5) (nomark _))
  (pss_one (ps_ret (pe_op op_sub (pv 2) pe_int))) pss_nil)
(pss_cons (ps_set (i := 2) scLawRd.nd rfl (Or.inl rfl) (pe_op op_add (pv 2) pe_int))
(pss_cons (ps_if (PW.pt (pw_or (pt_cmpR op_eq (pv 2) (pe_callB (r := cLen K) c_len rfl zL boot_len (pa_cons (pv 0) pa_nil)) (nomark _)) (pw_or1 (pt_cmpR op_gt (pe_ix (r := rIxL K) ix_list (pv 0) (pv 2) (fun _ _ => rfl)) pe_int (nomark _)))))
  (pss_one (ps_ret (pv 2))) pss_nil)
(pss_cons (ps_for PassesOwn.never rfl (pi_range1 rfl zR (pa_cons (pe_ix (r := rIxL K) ix_list (pv 0) (pv 2) (fun _ _ => rfl)) pa_nil)) (pg_name (i := 6) scLawRd.nd rfl (.inl rfl))
  (pss_cons (ps_set (i := 2) scLawRd.nd rfl (Or.inl rfl) (pe_op op_add (pv 2) pe_int))
  (pss_one (ps_if (PW.pt (pw_or (pt_cmpR op_eq (pv 2) (pe_callB (r := cLen K) c_len rfl zL boot_len (pa_cons (pv 0) pa_nil)) (nomark _)) (pw_or1 (pt_cmpR op_ge (pe_ix (r := rIxL K) ix_list (pv 0) (pv 2) (fun _ _ => rfl)) (pv 1) (nomark _)))))
    (pss_one (ps_ret (pv 2))) pss_nil))))
(pss_cons (ps_set (i := 2) scLawRd.nd rfl (Or.inl rfl) (pe_op op_add (pv 2) pe_int))
(pss_cons (ps_if (PW.pt (pw_or (pt_cmpR op_eq (pv 2) (pe_callB (r := cLen K) c_len rfl zL boot_len (pa_cons (pv 0) pa_nil)) (nomark _)) (pw_or1 (pt_cmpR (op_neD (u64 hr)) (pe_slice (r := rSlL K) sl_list (pv 0) po_none (po_some (pe_op op_add (pv 2) pe_int))) (pe_fd (E := E0) LCL hr pass0 (pa_cons (pe_slice (r := rSlL K) sl_list (pv 0) po_none (po_some (pv 2))) pa_nil)) rfl))))
  (pss_one (ps_ret (pv 2))) pss_nil)
(pss_one (ps_ret (pe_ifExp (pt_cmpR op_gt (pe_callB (r := cLen K) c_len rfl zL boot_len (pa_cons (pv 0) pa_nil)) (pe_op op_add (pv 2) pe_int) (nomark _)) (pe_op op_add (pv 2) pe_int) pe_non)))))))))))))))), ?_⟩
    rw [show L2.start nLaR [V.ref vl] = [some (V.ref vl), none, none, none, none, none, none] from rfl]
    have bad : ∀ e, decR l = .error e → ∀ H', Go G L H H' → Q (.int (e : Nat)) H' := fun e he H' g => by
      have z := q H' g
      unfold offO at z
      rw [he] at z
      exact z
    have good : ∀ R, decR l = .ok R → ∀ H', Go G L H H' → Q .non H' := fun R he H' g => by
      have z := q H' g
      unfold offO at z
      rw [he] at z
      exact z
    clear q
    repeat walk_at "rs"
    refine r_slL hvl fun p1 H1 k1 e1 => ?_
    rw [show cutV (vN l) none (some 1) = vN (l.take 1) from by
      unfold cutV
      rw [show HT.sIx (vN l).length 0 none = 0 from rfl, show HT.sIx (vN l).length (vN l).length (some 1) = min 1 (vN l).length from HT.sIx_nat _ _ 1, List.drop_zero, Nat.sub_zero]
      unfold vN
      rw [List.map_take, ← List.take_take, List.length_map]
      congr 1
      exact (List.take_of_length_le (by rw [List.length_map]; exact Nat.le_refl _))] at e1
    have g1 : Go G L H H1 := Go.same k1
    repeat walk_at "rs"
    refine ⟨by show 1 ≤ sizeLine; decide, fun p2 n2 => ?_⟩
    generalize hH : upd _ p2 _ = H2; obtain ⟨k2, e2⟩ := new_facts hH n2; clear hH
    have g2 : Go G L H H2 := g1.trans (Go.same k2)
    refine r_neD (d := .list ((l.take 1).map fun (n : Nat) => PyData.int (n : Nat))) (e := .list (([70] : List Nat).map fun (n : Nat) => PyData.int (n : Nat))) (.lst (.of (k2 _ _ e1)) (dps_ints _)) (.lst (.of e2) (dps_ints [70])) (lv_lst fun y hy => by
      obtain ⟨m, _, rfl⟩ := List.mem_map.mp hy
      rfl) (by decide) ?_
    rw [eqv_natsL]
    repeat walk_at "rs"
    have hvl2 := g2.lst hvl
    refine r_if (fun c => ?_) (fun c => ?_)
    · have c2 : l.take 1 ≠ [70] := fun z => by
        rw [decide_eq_true z] at c
        cases c
      repeat walk_at "rs"
      refine bad 0 ?_ H2 g2
      unfold decR
      rw [tkR_bad fun n hn => ?_]
      cases l with
      | nil => cases hn
      | cons x l =>
        obtain rfl : x = n := Option.some.inj hn
        have : x ≠ 70 := fun z => c2 (by rw [z]; rfl)
        omega
    have c2 : l.take 1 = [70] := by
      cases h : decide (l.take 1 = [70]) with
      | true => exact of_decide_eq_true h
      | false => rw [h] at c; cases c
    have h0 : l[0]? = some 70 := by
      cases l with
      | nil => cases c2
      | cons x l =>
        have z := (List.cons.inj c2).1
        rw [z]
        rfl
    have t0 : tkR l 70 70 0 = .ok (70, 1) := tkR_good h0 (Nat.le_refl _) (Nat.le_refl _)
    clear c c2 e1 k1 g1 e2 k2 n2
    have eb : ∀ e, namesR l 1 = .error e → decR l = .error e := fun e he => by
      unfold decR
      rw [t0]
      simp only
      rw [he]
    repeat walk_at "rs"
    refine r_lenL (.of hvl2) ?_
    rw [vN_len]
    repeat walk_at "rs"
    have bad1 : (∀ n, l[1]? = some n → n < 1 ∨ 10 < n) → decR l = .error 1 := fun h => eb 1 (by
      unfold namesR
      rw [tkR_bad h])
    refine r_if (fun c => ?_) (fun c => ?_)
    · have c2 : l.length < 2 := by
        have z := of_decide_eq_true c
        omega
      repeat walk_at "rs"
      exact bad 1 (bad1 fun n hn => by rw [List.getElem?_eq_none (by omega)] at hn; cases hn) H2 g2
    have l2 : 2 ≤ l.length := by
      have z := of_decide_eq_false c
      omega
    have hn1 : l[1]? = some l[1] := List.getElem?_eq_getElem (by omega)
    generalize l[1] = cN at hn1
    repeat walk_at "rs"
    refine r_ixL (.of hvl2) (i := 1) (vN_at (o := 1) hn1) ?_
    repeat walk_at "rs"
    refine r_if (fun c3 => ?_) (fun c3 => ?_)
    rotate_left
    · have c4 : cN < 1 := by
        have z := of_decide_eq_false c3
        omega
      repeat walk_at "rs"
      exact bad 1 (bad1 fun n hn => by rw [hn1] at hn; cases hn; exact .inl c4) H2 g2
    have c4 : 1 ≤ cN := by
      have z := of_decide_eq_true c3
      omega
    repeat walk_at "rs"
    refine r_if (fun c5 => ?_) (fun c5 => ?_)
    · have c6 : 10 < cN := by
        have z : decide (((cN : Nat) : Int) ≤ 10) = false := by simpa using c5
        have z2 := of_decide_eq_false z
        omega
      repeat walk_at "rs"
      exact bad 1 (bad1 fun n hn => by rw [hn1] at hn; cases hn; exact .inr c6) H2 g2
    have c6 : cN ≤ 10 := by
      have z : decide (((cN : Nat) : Int) ≤ 10) = true := by simpa using c5
      have z2 := of_decide_eq_true z
      omega
    have eN : namesR l 1 = nmsR l cN 2 := by
      show (match tkR l 1 10 1 with | .error e => _ | .ok (n, p) => _) = _
      first | (rw [tkR_good hn1 c4 c6]; done) | (rw [tkR_good hn1 c4 c6]; rfl)
    clear c c3 c5 bad1
    repeat walk_at "rs"
    refine r_ixL (.of hvl2) (i := 1) (vN_at (o := 1) hn1) ?_
    repeat walk_at "rs"
    refine ⟨vl, l, cN, rfl, hvl2, by omega, l2, c6, fun e he T H3 g3 eT => ?_, fun ns p he T H3 g3 eT => ?_⟩
    · refine r_pair (.inl (.inl eT)) ?_
      repeat walk_at "rs"
      refine ⟨true, rfl, ?_⟩
      repeat walk_at "rs"
      exact bad e (eb e (by rw [eN, he])) H3 (g2.trans g3)
    refine r_pair (.inl (.inl eT)) ?_
    simp only [List.set_cons_zero, List.set_cons_succ]
    have g4 := g2.trans g3
    have hvl3 := g4.lst hvl
    obtain ⟨sg, gn, hnl⟩ := nmsR_seg l2 he
    have hns : namesR l 1 = .ok (ns, p) := by rw [eN, he]
    have nne : ns ≠ [] := fun z => by rw [z] at hnl; simp at hnl; omega
    clear g3 g2 hvl2 eT eb
    have hp : p ≤ l.length := sg.2.2
    have dcl : ∀ e, clausesR l ns p = .error e → decR l = .error e := fun e h => by
      unfold decR
      rw [t0]
      simp only
      rw [hns]
      simp only
      rw [h]
    refine r_seq (r_ifS (r_or (r_var (v := .non) rfl ⟨false, rfl, ?_⟩)))
    dsimp only
    rw [if_neg Bool.false_ne_true]
    refine r_chk (o := p) (bad := fun n => decide (40 < n)) rfl rfl hvl3 hp (fun n R hn q => chk_gt (b := 40) q) (fun hb => ?_) (fun m hm hb => ?_)
    · repeat walk_at "rs"
      refine bad p (dcl p ?_) H3 g4
      unfold clausesR
      rw [tkR_bad fun n hn => .inr (of_decide_eq_true (hb n hn))]
    have h40 : m ≤ 40 := by
      have z := of_decide_eq_false hb
      omega
    have hp1 : p + 1 ≤ l.length := (List.getElem?_eq_some_iff.mp hm).1
    have t40 : tkR l 0 40 p = .ok (m, p + 1) := tkR_good hm (Nat.zero_le _) h40
    obtain ⟨dE, dO⟩ := dec_tops t0 hns t40 nne
    repeat walk_at "rs"
    refine forLg (fun a H0 => Go G L H3 H0 ∧ H0 a = some (.lst (vN (boundsN ns m)))) (fun R z => ?_) (fun a H0 ⟨g5, ha⟩ => ⟨vN (boundsN ns m), .of ha, fun i σ H' => ∃ x4, σ = [some (.ref vl), some (.int (cN : Nat)), some (.int (p + i : Nat)), some .non, x4, none, none] ∧ H' = H0 ∧ tops l ((boundsN ns m).take i) (p + 1) = .ok (p + 1 + i) ∧ p + 1 + i ≤ l.length, ?_, ?_, ?_, ?_⟩)
    · repeat walk_at "rs"
      refine ⟨by show 3 ≤ sizeLine; decide, fun p5 n5 => ?_⟩
      generalize hH : upd _ p5 _ = H5; obtain ⟨k5, e5⟩ := new_facts hH n5; clear hH
      repeat walk_at "rs"
      refine r_ixL (.of (k5 _ _ hvl3)) (vN_at hm) ?_
      repeat walk_at "rs"
      refine r_repL (n := m) e5 (by omega) (by show 3 * m ≤ 5000; omega) fun p6 H6 n6 k6 e6 => ?_
      repeat walk_at "rs"
      refine ⟨by show 2 ≤ sizeLine; decide, fun p7 n7 => ?_⟩
      generalize hH : upd _ p7 _ = H7; obtain ⟨k7, e7⟩ := new_facts hH n7; clear hH
      refine r_cat (k7 _ _ e6) e7 ?_ fun p8 H8 k8 n8 e8 => ?_
      · rw [rep_ints (a := [2, ns.length - 1, ns.length - 1]) ?_ m]
        · have z := bounds_len ns m
          unfold boundsN at z
          rw [List.length_append] at z
          rw [vN_len]
          show _ + 2 ≤ 5000
          simp only [List.length_cons, List.length_nil] at z
          omega
        · unfold vN
          simp only [List.map_cons, List.map_nil]
          rw [show ((cN : Nat) : Int) - 1 = ((ns.length - 1 : Nat) : Int) by omega]
          rfl
      refine z p8 H8 ⟨(((Go.same k5).trans (Go.same k6)).trans (Go.same k7)).trans (Go.same k8), ?_⟩
      rw [e8]
      unfold boundsN
      rw [vN_app, ← rep_ints (xs := [V.int 2, .int (((cN : Nat) : Int) - 1), .int (((cN : Nat) : Int) - 1)]) ?_ m]
      · rfl
      · unfold vN
        simp only [List.map_cons, List.map_nil]
        rw [show ((cN : Nat) : Int) - 1 = ((ns.length - 1 : Nat) : Int) by omega]
        rfl
    · exact ⟨none, rfl, rfl, rfl, hp1⟩
    · rintro i σ H' _ ⟨_, _, rfl, _⟩
      exact .of ha
    · rintro i y σ H' ey ⟨x4, rfl, rfl, htp, hpi⟩
      have hvl0 := g5.lst hvl3
      unfold vN at ey
      rw [List.getElem?_map] at ey
      cases ht : (boundsN ns m)[i]? with
      | none => rw [ht] at ey; cases ey
      | some t =>
        rw [ht] at ey
        obtain rfl : V.int (t : Nat) = y := Option.some.inj ey
        have etk : (boundsN ns m).take (i + 1) = (boundsN ns m).take i ++ [t] := by
          rw [List.take_succ, ht]
          rfl
        refine r_gN ?_
        simp only [List.set_cons_zero, List.set_cons_succ]
        refine r_seq (r_asg (r_op (r_var (v := .int (p + i : Nat)) rfl (r_c (r_I0 (r_gN ?_))))))
        rw [show ((p + i : Nat) : Int) + 1 = ((p + 1 + i : Nat) : Int) by omega]
        simp only [List.set_cons_zero, List.set_cons_succ]
        refine r_ifS (r_chk (o := p + 1 + i) (bad := fun n => decide (t < n)) rfl rfl hvl0 hpi (fun n R hn q => r_var (v := .int (t : Nat)) rfl (chk_gt (σ := []) q)) (fun hb => ?_) (fun m2 hm2 hb => ?_))
        · repeat walk_at "rs"
          refine bad (p + 1 + i) (dE _ ?_) H' (g4.trans g5)
          have z : tops l ((boundsN ns m).take (i + 1)) (p + 1) = .error (p + 1 + i) := by
            rw [etk, tops_snoc htp, tkR_bad fun n hn => .inr (of_decide_eq_true (hb n hn))]
          have z2 := tops_pre (b := (boundsN ns m).drop (i + 1)) z
          rw [List.take_append_drop] at z2
          exact z2
        · have z := of_decide_eq_false hb
          have z2 := (List.getElem?_eq_some_iff.mp hm2).1
          repeat walk_at "rs"
          refine ⟨_, by rw [show p + (i + 1) = p + 1 + i by omega], rfl, ?_, by omega⟩
          rw [etk, tops_snoc htp, tkR_good hm2 (Nat.zero_le _) (by omega)]
          rfl
    rintro σ H' ⟨x4, rfl, rfl, htp, hpi⟩
    have g6 := g4.trans g5
    have hvl6 := hvl3
    replace hvl6 := g5.lst hvl6
    rw [vN_len, List.take_length, bounds_len] at htp
    rw [vN_len, bounds_len] at hpi ⊢
    obtain ⟨cd, hi, lo, -, hcd, thi, tlo⟩ := dO _ htp
    obtain ⟨ahi, _, bhi, _⟩ := tkR_ok thi
    obtain ⟨alo, _, blo, _⟩ := tkR_ok tlo
    clear htp dE dO ha g5 hvl3 g4
    generalize hp3 : p + 1 + 3 * m = p3 at hcd thi tlo ahi alo
    have ep4 : p + (3 * m + 2) = p3 + 1 := by omega
    rw [ep4]
    clear hpi
    repeat walk_at "rs"
    refine forR (n := cN) (H0 := H') (fun R y => ⟨_, rfl, y⟩) (by omega) (fun i σ H2 => ∃ x6, σ = [some (.ref vl), some (.int (cN : Nat)), some (.int (p3 + 1 : Nat)), some .non, x4, some (.int (2 ^ i : Nat)), x6] ∧ H2 = H') ?_ ?_ ?_
    · exact ⟨none, rfl, rfl⟩
    · rintro i σ H2 hi2 ⟨x6, rfl, rfl⟩
      refine r_gN ?_
      repeat walk_at "rs"
      refine r_I (.inl ⟨by decide, by decide⟩) ?_
      refine ⟨some (.int (i : Nat)), ?_, rfl⟩
      rw [Nat.pow_succ, show (2 : Int) * ((2 ^ i : Nat) : Int) = ((2 ^ i * 2 : Nat) : Int) by omega]
      rfl
    rintro σ H2 ⟨x6, rfl, rfl⟩
    have dst : ∀ e, stateR l ns p3 = .error e → decR l = .error e := fun e h => by
      unfold decR
      rw [t0]
      simp only
      rw [hns]
      simp only
      rw [hcd]
      simp only
      rw [h]
    have est : stateR l ns p3 = if 256 * hi + lo < 2 ^ ns.length then .ok (bitS ns (256 * hi + lo), p3 + 1 + 1) else .error p3 := by
      unfold stateR
      rw [thi]
      simp only
      first | (rw [tlo]; done) | (rw [tlo]; rfl)
    repeat walk_at "rs"
    rw [show ((p3 + 1 : Nat) : Int) - 1 = ((p3 : Nat) : Int) by omega]
    refine r_ixL (.of hvl6) (vN_at ahi) ?_
    repeat walk_at "rs"
    refine r_I (.inr ⟨by decide, by decide⟩) ?_
    repeat walk_at "rs"
    refine r_ixL (.of hvl6) (vN_at alo) ?_
    repeat walk_at "rs"
    refine r_if (fun c => ?_) (fun c => ?_)
    · have c2 : ¬ 256 * hi + lo < 2 ^ ns.length := by
        have z := of_decide_eq_true c
        rw [hnl]
        generalize 2 ^ cN = k at z ⊢
        omega
      repeat walk_at "rs"
      rw [show ((p3 + 1 : Nat) : Int) - 1 = ((p3 : Nat) : Int) by omega]
      refine bad p3 (dst p3 ?_) H2 g6
      rw [est, if_neg c2]
    have c2 : 256 * hi + lo < 2 ^ ns.length := by
      have z := of_decide_eq_false c
      rw [hnl]
      generalize 2 ^ cN = k at z ⊢
      omega
    rw [if_pos c2] at est
    generalize bitS ns (256 * hi + lo) = st at est
    clear dst c c2 thi tlo
    have hp4 : p3 + 2 ≤ l.length := (List.getElem?_eq_some_iff.mp alo).1
    have dch : ∀ e, changesR l ns (p3 + 2) = .error e → decR l = .error e := fun e h => by
      unfold decR
      rw [t0]
      simp only
      rw [hns]
      simp only
      rw [hcd]
      simp only
      rw [est]
      simp only
      rw [h]
    refine r_next ?_
    refine r_seq (r_asg (r_op (r_var (v := .int (p3 + 1 : Nat)) rfl (r_c (r_I0 (r_gN ?_))))))
    rw [show ((p3 + 1 : Nat) : Int) + 1 = ((p3 + 2 : Nat) : Int) by omega]
    simp only [List.set_cons_zero, List.set_cons_succ]
    refine r_seq (r_ifS (r_chk (o := p3 + 2) (bad := fun n => decide (200 < n)) rfl rfl hvl6 hp4 (fun n R hn q => chk_gt (b := 200) q) (fun hb => ?_) (fun k hk hb => ?_)))
    · repeat walk_at "rs"
      refine bad (p3 + 2) (dch _ ?_) H2 g6
      unfold changesR
      rw [tkR_bad fun n hn => .inr (of_decide_eq_true (hb n hn))]
    have h200 : k ≤ 200 := by
      have z := of_decide_eq_false hb
      omega
    have ech : changesR l ns (p3 + 2) = repR (oneR l ns) k (p3 + 2 + 1) := by
      unfold changesR
      rw [tkR_good hk (Nat.zero_le _) h200]
    have hp5 : p3 + 2 + 1 ≤ l.length := (List.getElem?_eq_some_iff.mp hk).1
    repeat walk_at "rs"
    refine forR (n := k) (H0 := H2) (fun R y => r_op (r_var (v := .ref vl) rfl (r_var (v := .int (p3 + 2 : Nat)) rfl (r_ixL (.of hvl6) (vN_at hk) y)))) (by omega) (fun i σ H' => ∃ x6 cs, σ = [some (.ref vl), some (.int (cN : Nat)), some (.int (p3 + 2 + i : Nat)), some .non, x4, some (.int (2 ^ cN : Nat)), x6] ∧ H' = H2 ∧ repR (oneR l ns) i (p3 + 2 + 1) = .ok (cs, p3 + 2 + 1 + i) ∧ p3 + 2 + 1 + i ≤ l.length) ?_ ?_ ?_
    · exact ⟨x6, [], rfl, rfl, rfl, hp5⟩
    · rintro i σ H' hi2 ⟨x6, cs, rfl, rfl, hcs, hpi⟩
      refine r_gN ?_
      simp only [List.set_cons_zero, List.set_cons_succ]
      refine r_seq (r_asg (r_op (r_var (v := .int (p3 + 2 + i : Nat)) rfl (r_c (r_I0 (r_gN ?_))))))
      rw [show ((p3 + 2 + i : Nat) : Int) + 1 = ((p3 + 2 + 1 + i : Nat) : Int) by omega]
      simp only [List.set_cons_zero, List.set_cons_succ]
      refine r_ifS (r_chk (o := p3 + 2 + 1 + i) (bad := fun n => decide (cN ≤ n)) rfl rfl hvl6 hpi (fun n R hn q => r_var (v := .int (cN : Nat)) rfl ⟨(n : Nat), (cN : Nat), rfl, rfl, ?_⟩) (fun hb => ?_) (fun m2 hm2 hb => ?_))
      · show R (.bl (decide (((cN : Nat) : Int) ≤ ((n : Nat) : Int)))) H'
        rw [show decide (((cN : Nat) : Int) ≤ ((n : Nat) : Int)) = decide (cN ≤ n) from decide_eq_decide.mpr (by omega)]
        exact q
      · repeat walk_at "rs"
        refine bad (p3 + 2 + 1 + i) (dch _ ?_) H' g6
        rw [ech]
        exact repR_err hcs (oneR_bad nne fun n hn => by rw [hnl]; exact of_decide_eq_true (hb n hn)) k hi2
      · have z := of_decide_eq_false hb
        have z2 := (List.getElem?_eq_some_iff.mp hm2).1
        have hx : ns[m2]? = some (ns[m2]'(by omega)) := List.getElem?_eq_getElem _
        repeat walk_at "rs"
        exact ⟨_, _, by rw [show p3 + 2 + (i + 1) = p3 + 2 + 1 + i by omega], rfl, by rw [show p3 + 2 + 1 + (i + 1) = p3 + 2 + 1 + i + 1 by omega]; exact repR_ok hcs (oneR_good hm2 hx), by omega⟩
    rintro σ H' ⟨x6', cs, rfl, rfl, hcs, hpi⟩
    have echk : changesR l ns (p3 + 2) = .ok (cs, p3 + 2 + 1 + k) := by rw [ech, hcs]
    generalize hp6 : p3 + 2 + 1 + k = p6 at hcs hpi echk
    have efi : decR l = (match finR l p6 with | .error e => .error e | .ok _ => .ok ⟨ns, cd, st, cs⟩) := by
      unfold decR
      rw [t0]
      simp only
      rw [hns]
      simp only
      rw [hcd]
      simp only
      rw [est]
      simp only
      first | (rw [echk]; done) | (rw [echk]; rfl)
    refine r_seq (r_asg (r_op (r_var (v := .int (p3 + 2 + k : Nat)) rfl (r_c (r_I0 (r_gN ?_))))))
    rw [show ((p3 + 2 + k : Nat) : Int) + 1 = ((p6 : Nat) : Int) by omega]
    simp only [List.set_cons_zero, List.set_cons_succ]
    repeat walk_at "rs"
    refine r_lenL (.of hvl6) ?_
    rw [vN_len]
    refine r_eq rfl ?_
    repeat walk_at "rs"
    refine r_if (fun c => ?_) (fun c => ?_)
    · have c2 : p6 = l.length := by
        have z := V.int.inj (of_decide_eq_true c)
        omega
      repeat walk_at "rs"
      refine bad p6 ?_ H' g6
      rw [efi]
      unfold finR
      rw [tkR_bad fun n hn => by rw [List.getElem?_eq_none (by omega)] at hn; cases hn]
    have c2 : p6 < l.length := by
      have z : V.int (p6 : Nat) ≠ V.int (l.length : Nat) := of_decide_eq_false c
      have z2 : p6 ≠ l.length := fun q => z (by rw [q])
      omega
    have hn : l[p6]? = some l[p6] := List.getElem?_eq_getElem c2
    generalize l[p6] = n at hn
    repeat walk_at "rs"
    rw [show ((p6 : Nat) : Int) + 1 = ((p6 + 1 : Nat) : Int) by omega]
    refine r_slL hvl6 fun p7 H7 k7 e7 => ?_
    rw [cut_to (by rw [vN_len]; exact c2)] at e7
    have e7' : H7 p7 = some (.lst (vN (l.take (p6 + 1)))) := by
      rw [e7]
      unfold vN
      rw [List.map_take]
    repeat walk_at "rs"
    refine r_slL (k7 _ _ hvl6) fun p8 H8 k8 e8 => ?_
    rw [cut_to (by rw [vN_len]; omega)] at e8
    have e8' : H8 p8 = some (.lst (vN (l.take p6))) := by
      rw [e8]
      unfold vN
      rw [List.map_take]
    repeat walk_at "rs"
    refine ⟨p8, l.take p6, rfl, e8', by rw [List.length_take]; omega, fun D H9 nD g9 eD => ?_⟩
    have g79 : Go G L H7 H9 := (Go.same k8).trans g9
    have g6z : Go G L H H9 := (g6.trans (Go.same k7)).trans g79
    have lvi : ∀ a : List Nat, lv 5 (.list (a.map fun (n : Nat) => PyData.int (n : Nat))) = true := fun a => lv_lst fun y hy => by
      obtain ⟨m, _, rfl⟩ := List.mem_map.mp hy
      rfl
    refine r_neD (d := .list ((l.take (p6 + 1)).map fun (n : Nat) => PyData.int (n : Nat))) (e := .list ((closedN (l.take p6)).map fun (n : Nat) => PyData.int (n : Nat))) (.lst (.of (g79.lst e7')) (dps_ints _)) (.lst (.of eD) (dps_ints _)) (lv_up (lvi _) (by decide)) (lv_up (lvi _) (by decide)) ?_
    rw [eqv_natsL]
    have etk : l.take (p6 + 1) = closedN (l.take p6) ↔ n = ckN (l.take p6) := by
      rw [List.take_succ, hn]
      unfold closedN
      constructor
      · intro z
        have z2 := List.append_cancel_left z
        exact (List.cons.inj z2).1
      · intro z
        rw [z]
        rfl
    repeat walk_at "rs"
    refine r_if (fun c3 => ?_) (fun c3 => ?_)
    · have c4 : n ≠ ckN (l.take p6) := fun z => by
        rw [decide_eq_true (etk.mpr z)] at c3
        cases c3
      repeat walk_at "rs"
      refine bad p6 ?_ H9 g6z
      rw [efi]
      unfold finR
      rw [tkR_bad fun n' hn' => by rw [hn] at hn'; cases hn'; omega]
    have c4 : n = ckN (l.take p6) := by
      cases h : decide (l.take (p6 + 1) = closedN (l.take p6)) with
      | true => exact etk.mp (of_decide_eq_true h)
      | false => rw [h] at c3; cases c3
    have efin : finR l p6 = if p6 + 1 < l.length then .error (p6 + 1) else .ok ((), p6 + 1) := by
      unfold finR
      rw [tkR_good hn (Nat.le_of_eq c4.symm) (Nat.le_of_eq c4)]
    have hvl9 := g79.lst (k7 _ _ hvl6)
    repeat walk_at "rs"
    refine r_lenL (.of hvl9) ?_
    rw [vN_len]
    repeat walk_at "rs"
    refine r_if (fun c5 => ?_) (fun c5 => ?_)
    · have c6 : p6 + 1 < l.length := by
        have z := of_decide_eq_true c5
        omega
      rw [if_pos c6] at efin
      repeat walk_at "rs"
      rw [show ((p6 : Nat) : Int) + 1 = ((p6 + 1 : Nat) : Int) by omega]
      refine bad (p6 + 1) ?_ H9 g6z
      rw [efi, efin]
    · have c6 : ¬ p6 + 1 < l.length := by
        have z := of_decide_eq_false c5
        omega
      rw [if_neg c6] at efin
      repeat walk_at "rs"
      refine good ⟨ns, cd, st, cs⟩ ?_ H9 g6z
      rw [efi, efin]
end
local macro_rules | `(tactic| walk_at "rs") => `(tactic| first | (with_reducible refine r_tM1 ?_) | walk_at "rd")
section
variable {P : Program} {w : World} {K : PySem.W.Frag} {mg : Str → Option Value} {base : Heap} {G : List Addr} {L : List (Addr × Str)}
theorem RulesW.kt {H H' : Hp} {x : Addr} {ns : List Str} {cd : List PyData} (h : RulesW K H x ns cd) (k : KT H H') : RulesW K H' x ns cd := by
  obtain ⟨dx, an, ac, xs, h1, h2, h3, h4⟩ := h
  exact ⟨dx, an, ac, xs, k x _ (fun _ z => by cases z) (fun _ z => by cases z) h1, h2.kt k, h3.kt k, h4.kt k⟩
theorem r_pclausesW {σ : L2.St} {H : Hp} {Q : VK} {ta : TE} {x : Addr} {ns : List Str} {cd : List PyData} (hx : ∀ R : VK, R (.ref x) H → ta σ H R) (h : RulesW K H x ns cd) (q : ∀ ac xs, Tp H ac xs → Ims H xs cd → Q (.ref ac) H) : tProp (cR K) (getSp (cR K) "_clauses") [] E0 ta σ H Q := by
  obtain ⟨dx, an, ac, xs, h1, _, h3, h4⟩ := h
  exact hx _ ⟨x, dx, _, rfl, h1, x, dx, _, .ref ac, rfl, h1, rfl, q ac xs h3 h4⟩
def spValuesV (K : PySem.W.Frag) (G : List Addr) (L : List (Addr × Str)) : Sp := fun vs H Q _ => ∃ (x : Addr) (v : V) (ca : Addr) (ns : List Str) (cd : List PyData) (s cs : List Str), vs = [.ref x, v, .ref ca] ∧ RulesW K H x ns cd ∧ (cd ≠ [] ∨ cs ≠ [] → RulesAt K H x ns cd) ∧ GoodN ns ∧ ns.length ≤ 10 ∧ (∀ d ∈ cd, ClD ns d) ∧ cd.length ≤ 40 ∧ Dp K H v (.tuple (s.map PyData.str)) ∧ s.Sublist ns ∧ H ca = some (.lst (cs.map V.str)) ∧ (∀ z ∈ cs, z ∈ ns) ∧ cs.length ≤ 200 ∧
  ∀ D H', Nw H D → Go G L H H' → H' D = some (.lst (vN (closedN (rollN ns cd s cs)))) → Q (.ref D) H'
theorem ok_valuesV {f : Addr} {fd : FuncData} (F : Fun K "_law_values" "_law_values" sValues f fd) (zL : mg "len" = none) (zi : mg "int" = none) (FN : Fp P w K mg base "names" "_names") (FCL : Fp P w K mg base "clauses" "_clauses") (LCL : Fd CX0 P w K mg base "_law_closed" 1 (spClosed K G L)) :
    FnOk P w K mg base CX0 3 f fd ["_law_rules_here", "_law_state", "_law_changes"] (spValuesV K G L) := by
  refine F.ok scValues (fun vs H Q E h => ?_) (fun cdv A outer s H vs Q E hr h => ?_)
  · obtain ⟨x, v, ca, ns, cd, st, cs, e, _⟩ := h
    rw [e]
    rfl
  · obtain ⟨x, v, ca, ns, cd, st, cs, e, RA, RT, gn, n10, hcl, h40, hd, hsub, hca, hcs, h200, q⟩ := h
    subst e
    refine ⟨_, pss_cons (ps_asg (pe_tup (pa_cons pe_str (pa_cons (pe_lst (pa_cons pe_str (pa_cons pe_str (pa_cons pe_str pa_nil)))) pa_nil))) (pg_tup rfl (pgs_cons (pg_name (i := 3) scValues.nd rfl (.inr rfl)) (pgs_cons (pg_name (i := 4) scValues.nd rfl (.inl rfl)) pgs_nil))))
(pss_cons (ps_set (i := 5) scValues.nd rfl (Or.inl rfl) (pe_lst (pa_cons pe_int (pa_cons (pe_callB (r := cLen K) c_len rfl zL boot_len (pa_cons (pe_fp FN hr (pv 0)) pa_nil)) pa_nil))))
(pss_cons (ps_for PassesOwn.never rfl (pi_tup (pe_fp FN hr (pv 0))) (pg_name (i := 6) scValues.nd rfl (.inl rfl))
  (pss_one (ps_set (i := 5) scValues.nd rfl (Or.inl rfl) (pe_op op_cat (pe_op op_cat (pv 5) (pe_lst (pa_cons (pe_callB (r := cLenS) c_lenS rfl zL boot_len (pa_cons (pv 6) pa_nil)) pa_nil))) (pe_lc (own := [("_law_letter", 12)]) (g := gName 12) (tt := tYes) rfl scValues.nd (pi_str (pv 6))
            (blkOk_by (own := [("_law_letter", 12)]) (N := nVa) (sc := defScope sValues) (by decide +kernel)) (fun _ _ _ _ _ => pg_name (i := 12) scValues.nd rfl (.inl rfl)) (fun _ _ _ _ _ => pts_nil)
            (fun _ _ _ _ _ => show PE _ _ (tM1 rSix _ _) from pe_m1 PySem.F.slot_str_index PySem.F.type_str_index mt_six (pv 3) (pv 12)))))))
(pss_cons (ps_expr (pe_bm PySem.F.plainAttrs_list PySem.F.slot_list_append PySem.F.type_list_append mt_append (pv 5) (pa_cons (pe_callB (r := cLen K) c_len rfl zL boot_len (pa_cons (pe_fp FCL hr (pv 0)) pa_nil)) pa_nil)))
(pss_cons (ps_for PassesOwn.never rfl (pi_tup (pe_fp FCL hr (pv 0))) (pg_tup rfl (pgs_cons (pg_name (i := 7) scValues.nd rfl (.inl rfl)) (pgs_cons (pg_name (i := 8) scValues.nd rfl (.inl rfl)) (pgs_cons (pg_name (i := 9) scValues.nd rfl (.inl rfl)) pgs_nil))))
  (pss_one (ps_set (i := 5) scValues.nd rfl (Or.inl rfl) (pe_op op_cat (pv 5) (pe_lst (pa_cons (pe_bm (r := rIndex K) PySem.F.plainAttrs_list PySem.F.slot_list_index PySem.F.type_list_index mt_index8 (pv 4) (pa_cons (pv 7) pa_nil)) (pa_cons (pe_tm (r := rTix K) PySem.F.plainAttrs_tuple PySem.F.slot_tuple_index PySem.F.type_tuple_index mt_tix (pe_fp FN hr (pv 0)) (pa_cons (pv 8) pa_nil)) (pa_cons (pe_tm (r := rTix K) PySem.F.plainAttrs_tuple PySem.F.slot_tuple_index PySem.F.type_tuple_index mt_tix (pe_fp FN hr (pv 0)) (pa_cons (pv 9) pa_nil)) pa_nil))))))))
(pss_cons (ps_asg (pe_tup (pa_cons pe_int (pa_cons pe_int pa_nil))) (pg_tup rfl (pgs_cons (pg_name (i := 10) scValues.nd rfl (.inl rfl)) (pgs_cons (pg_name (i := 11) scValues.nd rfl (.inl rfl)) pgs_nil))))
(pss_cons (ps_for PassesOwn.never rfl (pi_tup (pe_revT (pe_fp FN hr (pv 0)))) (pg_name (i := 6) scValues.nd rfl (.inl rfl))
  (pss_one (ps_par (i := 10) (j := 11) rfl scValues.nd rfl rfl (by decide) rfl rfl (pa_cons (pe_op op_add (pv 10) (pe_op op_mul (pv 11) (pe_callTy c_int rfl zi boot_int (pa_cons (pe_cmpR (op_inT (u65 hr)) (pv 6) (pv 1) rfl) pa_nil)))) (pa_cons (pe_op op_mul pe_int (pv 11)) pa_nil)) rfl)))
(pss_cons (ps_set (i := 5) scValues.nd rfl (Or.inl rfl) (pe_op op_cat (pv 5) (pe_lst (pa_cons (pe_op op_fdiv (pv 10) pe_int) (pa_cons (pe_op op_mod (pv 10) pe_int) (pa_cons (pe_callB (r := cLen K) c_len rfl zL boot_len (pa_cons (pv 2) pa_nil)) pa_nil))))))
(pss_one (ps_ret (pe_fd (E := E0) LCL hr pass0 (pa_cons (pe_op op_cat (pv 5) (pe_lc (own := [("_law_name", 6)]) (g := gName 6) (tt := tYes) rfl scValues.nd (pi_list (pv 2))
            (blkOk_by (own := [("_law_name", 6)]) (N := nVa) (sc := defScope sValues) (by decide +kernel)) (fun _ _ _ _ _ => pg_name (i := 6) scValues.nd rfl (.inl rfl)) (fun _ _ _ _ _ => pts_nil)
            (fun _ _ _ _ _ => pe_tm (r := rTix K) (to := tProp (cR K) (getSp (cR K) "_names") [] E0 (tVar 0)) PySem.F.plainAttrs_tuple PySem.F.slot_tuple_index PySem.F.type_tuple_index mt_tix (pe_fp FN hr (pv 0)) (pa_cons (pv 6) pa_nil)))) pa_nil))))))))))), ?_⟩
    obtain ⟨a1, a2⟩ := nmsN_ok gn n10
    obtain ⟨b1, b2⟩ := clauN_ok hcl n10 h40
    have hok : ∀ z ∈ ns, PyData.strOk z = true := fun z hz => (gn.al z hz).2.1
    repeat walk_at "rs"
    refine ⟨by show 3 ≤ sizeLine; decide, fun p1 n1 => ?_⟩
    generalize hH : upd _ p1 _ = H1; obtain ⟨k1, e1⟩ := new_facts hH n1; clear hH
    repeat walk_at "rs"
    refine ⟨by show 2 ≤ sizeLine; decide, fun p2 n2 => ?_⟩
    generalize hH : upd _ p2 _ = H2; obtain ⟨k2, e2⟩ := new_facts hH n2; clear hH
    refine r_pair (.of e2) ?_
    repeat walk_at "rs"
    have g2 : Go G L H H2 := (Go.same k1).trans (Go.same k2)
    have e1' : H2 p1 = some (.lst (wordsL.map V.str)) := k2 _ _ e1
    refine r_pnamesW (fun R z => ⟨_, rfl, z⟩) (RA.kt g2.kt) fun an han => ?_
    repeat walk_at "rs"
    refine r_lenT han.seq ?_
    repeat walk_at "rs"
    refine ⟨by show 2 ≤ sizeLine; decide, fun p3 n3 => ?_⟩
    generalize hH : upd _ p3 _ = H3; obtain ⟨k3, e3⟩ := new_facts hH n3; clear hH
    repeat walk_at "rs"
    have g3 : Go G L H H3 := g2.trans (Go.same k3)
    have e3' : H3 p3 = some (.lst (vN (([70] ++ [ns.length]) ++ (ns.take 0).flatMap nmN))) := by
      rw [e3, List.length_map]
      rfl
    have hw3 := k3 _ _ e1'
    refine forTg (fun a0 H0 => H0 = H3 ∧ Tp H3 a0 (ns.map V.str)) (fun R z => ?_) ?_
    · exact r_pnamesW (fun R z => ⟨_, rfl, z⟩) (RA.kt g3.kt) fun an han => z an H3 ⟨rfl, han⟩
    rintro a0 H0 ⟨rfl, hn0⟩
    refine ⟨ns.map V.str, hn0.seq, fun i σ H' => ∃ (x6 : Option V) (B : Addr), σ = [some (.ref x), some v, some (.ref ca), some (.str letters), some (.ref p1), some (.ref B), x6, none, none, none, none, none, none] ∧ Go G L H0 H' ∧ Nw H B ∧ B ≠ p1 ∧ H' B = some (.lst (vN (([70] ++ [ns.length]) ++ (ns.take i).flatMap nmN))), ?_, ?_, ?_, ?_⟩
    · exact ⟨none, p3, rfl, Go.refl _, Nw.backG g2 (.of n3), (fun q => by rw [q, e1'] at n3; cases n3), e3'⟩
    · rintro i σ H' _ ⟨_, _, _, g, _⟩
      exact (hn0.kt g.kt).seq
    · rintro i y σ H' ey ⟨x6, B, rfl, g, nB, nB1, e⟩
      rw [List.getElem?_map] at ey
      cases hz : ns[i]? with
      | none => rw [hz] at ey; cases ey
      | some z =>
        rw [hz] at ey
        obtain rfl : y = .str z := (Option.some.inj ey).symm
        obtain ⟨z8, zl⟩ := lets_of (gn.al z (List.mem_of_getElem? hz)).1
        have hz8 : z.cps.toList.length ≤ 8 := by
          rw [Array.length_toList]
          exact z8
        have hfl : ((ns.take i).flatMap nmN).length ≤ 90 := by
          have zz := flat_len (f := nmN) (k := 9) (l := ns.take i) fun z hz => (nmN_ok (gn.al z (List.mem_of_mem_take hz)).1).1
          rw [List.length_take] at zz
          have : min i ns.length * 9 ≤ 90 := by
            have := Nat.min_le_right i ns.length
            omega
          omega
        refine r_gN ?_
        repeat walk_at "rs"
        refine r_lenS (by rw [sizeLine_eq]; omega) ?_
        repeat walk_at "rs"
        refine ⟨by show 1 ≤ sizeLine; decide, fun p4 n4 => ?_⟩
        generalize hH : upd _ p4 _ = H4; obtain ⟨k4, e4⟩ := new_facts hH n4; clear hH
        repeat walk_at "rs"
        have g4 : Go G L H' H4 := Go.same k4
        refine r_cat (a := B) (b := p4) (g4.lst e) e4 (by simp only [vN_len, List.length_append, List.length_singleton]; omega) fun p5 H5 k5 n5 e5 => ?_
        repeat walk_at "rs"
        have g5 : Go G L H' H5 := g4.trans (Go.same k5)
        refine lcStr (z := z) (fun R y => ⟨_, rfl, y⟩) (fun D j H6 => Go G L H5 H6 ∧ H6 D = some (.lst (vN ((z.cps.toList.take j).map lixN)))) ?_ ?_ ?_
        · intro D hD
          exact ⟨Go.new hD, upd_same⟩
        · rintro D j c H6 hD hc ⟨g6, e6⟩
          rw [← Array.getElem?_toList] at hc
          refine r_gN ⟨rfl, r_yes ?_⟩
          repeat walk_at "rs"
          refine ⟨⟨_, rfl⟩, ?_⟩
          repeat walk_at "rs"
          refine r_six (zl c (List.mem_of_getElem? hc)) ⟨_, e6, by rw [vN_len, List.length_map, List.length_take, sizeLine_eq]; omega, g6.updNew hD e6, ?_⟩
          rw [upd_same, List.take_succ, hc, List.map_append, vN_app]
          rfl
        · rintro D H6 hD ⟨g6, e6⟩
          rw [show z.cps.size = z.cps.toList.length from (Array.length_toList ..).symm, List.take_length] at e6
          repeat walk_at "rs"
          refine r_cat (a := p5) (b := D) (g6.lst e5) e6 (by simp only [vN_len, List.length_append, List.length_singleton, List.length_map]; omega) fun p7 H7 k7 n7 e7 => ?_
          have g06 := (g.trans g5).trans g6
          refine ⟨_, p7, rfl, g06.trans (Go.same k7), Nw.backG (g3.trans g06) (.of n7), (fun q => by rw [q, g06.lst hw3] at n7; cases n7), ?_⟩
          rw [e7, List.take_succ, hz, List.flatMap_append]
          congr 2
          unfold vN nmN
          simp
    · rintro σ H' ⟨x6, B, rfl, g, nB, nB1, e⟩
      rw [List.length_map, List.take_length] at e
      have g03 := g3.trans g
      repeat walk_at "rs"
      refine ⟨.inl ⟨rfl, _, .of e⟩, ?_⟩
      repeat walk_at "rs"
      refine r_pclausesW (fun R z => ⟨_, rfl, z⟩) (RA.kt g03.kt) fun ac cs' hac hcs' => ?_
      have hcsl := hcs'.length
      repeat walk_at "rs"
      refine r_lenT hac.seq ?_
      repeat walk_at "rs"
      refine r_append e (by simp only [vN_len, List.length_append, List.length_singleton]; show 1 + 1 + _ ≤ 5000; have : (nmsN ns).length = (ns.flatMap nmN).length + 1 := rfl; omega) ?_
      have gA := g03.updNw (ys := vN (([70] ++ [ns.length]) ++ ns.flatMap nmN) ++ [V.int (cs'.length : Nat)]) nB e
      have eA : upd H' B (.lst (vN (([70] ++ [ns.length]) ++ ns.flatMap nmN) ++ [V.int (cs'.length : Nat)])) B = some (.lst (vN ((([70] ++ nmsN ns) ++ [cd.length]) ++ (cd.take 0).flatMap (clN ns)))) := by
        rw [upd_same, hcsl]
        unfold vN nmsN
        simp
      have hwA : upd H' B (.lst (vN (([70] ++ [ns.length]) ++ ns.flatMap nmN) ++ [V.int (cs'.length : Nat)])) p1 = some (.lst (wordsL.map V.str)) := by
        rw [upd_ne nB1.symm]
        exact g.lst hw3
      generalize upd H' B (.lst (vN (([70] ++ [ns.length]) ++ ns.flatMap nmN) ++ [V.int (cs'.length : Nat)])) = HA at gA eA hwA ⊢
      repeat walk_at "rs"
      refine forTg (fun a0 H0 => H0 = HA ∧ ∃ cs, Tp HA a0 cs ∧ Ims HA cs cd) (fun R z => ?_) ?_
      · exact r_pclausesW (fun R z => ⟨_, rfl, z⟩) (RA.kt gA.kt) fun a2 c2 h2 h3 => z a2 HA ⟨rfl, c2, h2, h3⟩
      rintro a9 H0 ⟨rfl, ds, hds, hims⟩
      have hdl := hims.length
      have hc121 : ∀ i, ((cd.take i).flatMap (clN ns)).length ≤ 120 := fun i => by
        have zz := flat_len (f := clN ns) (k := 3) (l := cd.take i) fun d hd => by
          obtain ⟨w, a, b, _, e, _⟩ := clN_eq (hcl d (List.mem_of_mem_take hd))
          rw [e]
          exact Nat.le_refl 3
        rw [List.length_take] at zz
        omega
      refine ⟨ds, hds.seq, fun i σ H' => ∃ (x7 x8 x9 : Option V) (B : Addr), σ = [some (.ref x), some v, some (.ref ca), some (.str letters), some (.ref p1), some (.ref B), x6, x7, x8, x9, none, none, none] ∧ Go G L H0 H' ∧ H' B = some (.lst (vN ((([70] ++ nmsN ns) ++ [cd.length]) ++ (cd.take i).flatMap (clN ns)))), ?_, ?_, ?_, ?_⟩
      · exact ⟨none, none, none, B, rfl, Go.refl _, eA⟩
      · rintro i σ H' _ ⟨_, _, _, _, _, g, _⟩
        exact (hds.kt g.kt).seq
      · rintro i y σ H' ey ⟨x7, x8, x9, B, rfl, g, e⟩
        obtain ⟨d, hd1, hy⟩ := (hims.kt g.kt).get ey
        obtain ⟨w0, a, b, rfl, ec, hw, ha, hb⟩ := clN_eq (hcl d (List.mem_of_getElem? hd1))
        obtain ⟨T, rfl, hT⟩ := im_clD hy
        have hfl := hc121 i
        refine g_three hT.seq ?_
        repeat walk_at "rs"
        refine ⟨.inl ⟨rfl, _, .of (g.lst hwA)⟩, ?_⟩
        repeat walk_at "rs"
        refine r_wix (g.lst hwA) hw ?_
        repeat walk_at "rs"
        refine r_pnames (fun R z => ⟨_, rfl, z⟩) ((RT (.inl fun q => by rw [q] at hd1; cases hd1)).kt (gA.trans g).kt) fun an han => ⟨⟨an, _, rfl, han⟩, ?_⟩
        repeat walk_at "rs"
        refine r_tix (σ := []) han.tp.seq ha ?_
        repeat walk_at "rs"
        refine r_pnames (fun R z => ⟨_, rfl, z⟩) ((RT (.inl fun q => by rw [q] at hd1; cases hd1)).kt (gA.trans g).kt) fun an han => ⟨⟨an, _, rfl, han⟩, ?_⟩
        repeat walk_at "rs"
        refine r_tix (σ := []) han.tp.seq hb ?_
        repeat walk_at "rs"
        refine ⟨by show 3 ≤ sizeLine; decide, fun p4 n4 => ?_⟩
        generalize hH : upd _ p4 _ = H4; obtain ⟨k4, e4⟩ := new_facts hH n4; clear hH
        repeat walk_at "rs"
        have g4 : Go G L H' H4 := Go.same k4
        refine r_cat (a := B) (b := p4) (g4.lst e) e4 (by simp only [vN_len, List.length_append, List.length_singleton]; show 1 + _ + 1 + _ + 3 ≤ 5000; omega) fun p5 H5 k5 n5 e5 => ?_
        refine ⟨_, _, _, p5, rfl, (g.trans g4).trans (Go.same k5), ?_⟩
        rw [e5, List.take_succ, hd1, List.flatMap_append]
        congr 2
        unfold vN
        simp [ec]
      · rintro σ H' ⟨x7, x8, x9, B, rfl, g, e⟩
        rw [hdl, List.take_length] at e
        have gB := gA.trans g
        repeat walk_at "rs"
        refine ⟨by show 2 ≤ sizeLine; decide, fun pC nC => ?_⟩
        generalize hH : upd _ pC _ = HC; obtain ⟨kC, eC⟩ := new_facts hH nC; clear hH
        refine r_pair (.of eC) ?_
        repeat walk_at "rs"
        have gC := gB.trans (Go.same (G := G) (L := L) kC)
        have eB := kC _ _ e
        refine forTg (fun a0 H0 => Go G L HC H0 ∧ Tp H0 a0 (ns.map V.str).reverse) (fun R z => ?_) ?_
        · refine r_revT8 (r_pnamesW (fun R z => ⟨_, rfl, z⟩) (RA.kt gC.kt) fun an han => ⟨an, _, rfl, han.seq, fun p hp => z p _ ⟨Go.new hp, .inl upd_same⟩⟩)
        rintro aR HR ⟨gR, hRv⟩
        refine ⟨(ns.map V.str).reverse, hRv.seq, fun i σ H' => ∃ (x6 : Option V), σ = [some (.ref x), some v, some (.ref ca), some (.str letters), some (.ref p1), some (.ref B), x6, x7, x8, x9, some (.int (stN st (ns.drop (ns.length - i)) : Nat)), some (.int (2 ^ i : Nat)), none] ∧ H' = HR, ?_, ?_, ?_, ?_⟩
        · refine ⟨x6, ?_, rfl⟩
          rw [Nat.sub_zero, List.drop_length]
          rfl
        · rintro i σ H' _ ⟨_, _, rfl⟩
          exact hRv.seq
        · rintro i y σ H' ey ⟨x6, rfl, rfl⟩
          have hi : i < ns.length := by
            have := (List.getElem?_eq_some_iff.mp ey).1
            rw [List.length_reverse, List.length_map] at this
            exact this
          rw [List.getElem?_reverse (by rw [List.length_map]; exact hi), List.length_map, List.getElem?_map] at ey
          have hj : ns.length - 1 - i < ns.length := by omega
          have hz : ns[ns.length - 1 - i]? = some ns[ns.length - 1 - i] := List.getElem?_eq_getElem hj
          have hdrop : ns.drop (ns.length - 1 - i) = ns[ns.length - 1 - i] :: ns.drop (ns.length - 1 - i + 1) := List.drop_eq_getElem_cons hj
          generalize ns[ns.length - 1 - i] = z at hz hdrop
          rw [hz] at ey
          obtain rfl : V.str z = y := Option.some.inj ey
          have e1 : ns.length - 1 - i + 1 = ns.length - i := by omega
          have e2 : ns.length - (i + 1) = ns.length - 1 - i := by omega
          have est := stN_cons st (ns.drop (ns.length - i)) z
          rw [e1] at hdrop
          rw [← hdrop, ← e2, List.length_drop, show ns.length - (ns.length - i) = i by omega] at est
          have p10 : 2 ^ i ≤ 1024 := Nat.pow_le_pow_right (by decide : 0 < 2) (by omega : i ≤ 10)
          have hp : (2 : Nat) ^ (i + 1) = 2 * 2 ^ i := by
            rw [Nat.pow_succ, Nat.mul_comm]
          have hb : (-(2 ^ 64) : Int) < ((2 ^ i : Nat) : Int) ∧ ((2 ^ i : Nat) : Int) < 2 ^ 64 := by
            generalize 2 ^ i = m at p10 ⊢
            omega
          have e4 : 2 * ((2 ^ i : Nat) : Int) = ((2 ^ (i + 1) : Nat) : Int) := by
            rw [hp]
            generalize 2 ^ i = m
            omega
          have e3 : (((stN st (ns.drop (ns.length - i)) : Nat) : Int) + ((2 ^ i : Nat) : Int) * (if decide (z ∈ st) = true then 1 else 0)) = ((stN st (ns.drop (ns.length - (i + 1))) : Nat) : Int) := by
            rw [est]
            generalize 2 ^ i = m
            by_cases c : z ∈ st
            · rw [decide_eq_true c, if_pos rfl, if_pos c]
              omega
            · rw [decide_eq_false c, if_neg Bool.false_ne_true, if_neg c]
              omega
          refine r_gN ?_
          repeat walk_at "rs"
          refine r_par ?_
          repeat walk_at "rs"
          refine r_inT (d := .str z) (ds := st.map PyData.str) (.str z) (Dp.go (gC.trans gR).1 hd) (lv_str (hok z (List.mem_of_getElem? hz))) (lv_strs fun y hy => hok y (hsub.subset hy)) ?_
          rw [show inD (.str z) (st.map PyData.str) = decide (z ∈ st) from in_strs ..]
          repeat walk_at "rs"
          refine r_I (.inl hb) ?_
          repeat walk_at "rs"
          refine r_I (.inl ⟨by decide, by decide⟩) ?_
          repeat walk_at "rs"
          refine ⟨_, _, rfl, some (.str z), ?_, rfl⟩
          rw [e3, e4]
          rfl
        · rintro σ H' ⟨x6, rfl, rfl⟩
          rw [List.length_reverse, List.length_map, Nat.sub_self, List.drop_zero]
          generalize 2 ^ ns.length = m
          have gD := gC.trans gR
          have eB2 := gR.lst eB
          repeat walk_at "rs"
          refine r_I ⟨by decide, by decide⟩ ?_
          repeat walk_at "rs"
          refine r_I (by decide : (0 : Int) < 256) ?_
          repeat walk_at "rs"
          refine r_lenL (.of (gD.lst hca)) ?_
          repeat walk_at "rs"
          rw [List.length_map]
          refine ⟨by show 3 ≤ sizeLine; decide, fun pD nD => ?_⟩
          generalize hH : upd _ pD _ = HD; obtain ⟨kD, eD⟩ := new_facts hH nD; clear hH
          repeat walk_at "rs"
          have hsz : (stsN ns st).length = 2 := rfl
          refine r_cat (a := B) (b := pD) (kD _ _ eB2) eD (by have := hc121 cd.length; rw [List.take_length] at this; simp only [vN_len, List.length_append, List.length_singleton]; show 1 + _ + 1 + _ + 3 ≤ 5000; omega) fun pE HE kE nE eE => ?_
          have gE := (gD.trans (Go.same (G := G) (L := L) kD)).trans (Go.same kE)
          have eE' : HE pE = some (.lst (vN (((([70] ++ nmsN ns) ++ clauN ns cd) ++ stsN ns st) ++ [cs.length]))) := by
            rw [eE]
            have h1 : ((stN st ns : Nat) : Int) / 256 = ((stN st ns / 256 : Nat) : Int) := by omega
            have h2 : ((stN st ns : Nat) : Int) % 256 = ((stN st ns % 256 : Nat) : Int) := by omega
            rw [h1, h2]
            unfold vN clauN stsN
            simp
          repeat walk_at "rs"
          refine lcL (a := ca) (xs := cs.map V.str) (fun R z => ⟨_, rfl, z⟩) (.of (gE.lst hca)) (fun D i H1 => Go G L HE H1 ∧ H1 D = some (.lst (vN ((cs.take i).map ns.idxOf)))) ?_ ?_ ?_ ?_
          · intro D hD
            exact ⟨Go.new hD, upd_same⟩
          · rintro D i H1 hD _ ⟨gF, _⟩
            exact .of ((gE.trans gF).lst hca)
          · rintro D i y H1 hD hy ⟨gF, eF⟩
            rw [List.getElem?_map] at hy
            cases hz : cs[i]? with
            | none => rw [hz] at hy; cases hy
            | some z =>
              rw [hz] at hy
              obtain rfl : y = .str z := (Option.some.inj hy).symm
              refine r_gN ⟨rfl, r_yes ?_⟩
              repeat walk_at "rs"
              refine r_pnames (fun R z => ⟨_, rfl, z⟩) ((RT (.inr fun q => by rw [q] at hz; cases hz)).kt (gE.trans gF).kt) fun an han => ⟨⟨an, _, rfl, han⟩, ?_⟩
              repeat walk_at "rs"
              refine r_tix (σ := []) han.tp.seq (hcs z (List.mem_of_getElem? hz)) ?_
              refine ⟨_, eF, by rw [vN_len, List.length_map, List.length_take, sizeLine_eq]; omega, gF.updNew hD eF, ?_⟩
              rw [upd_same, List.take_succ, hz, List.map_append, vN_app]
              rfl
          · rintro D H1 hD ⟨gF, eF⟩
            rw [List.length_map, List.take_length] at eF
            repeat walk_at "rs"
            refine r_cat (a := pE) (b := D) (gF.lst eE') eF (by simp only [List.length_append, vN_len, List.length_map, hsz, List.length_singleton]; omega) fun pG HG kG nG eG => ?_
            obtain ⟨r1, r2⟩ := rollN_ok (s := st) gn n10 hcl h40 hcs h200
            have eG' : HG pG = some (.lst (vN (rollN ns cd st cs))) := by
              rw [eG]
              unfold rollN vN
              simp
            repeat walk_at "rs"
            refine ⟨pG, _, rfl, eG', by omega, fun D2 H2 nD2 g2 e2 => ?_⟩
            repeat walk_at "rs"
            have gG := (gE.trans gF).trans (Go.same (G := G) (L := L) kG)
            refine q D2 H2 (Nw.backG gG (.of nD2)) (gG.trans g2) e2
end
section
end
/-- what _law_told wants of an error -/
def TE5 (K : PySem.W.Frag) (G : List Addr) (L : List (Addr × Str)) (Q : VK) : XK := fun cls d H' => ∃ D, Told5 K cls d H' D ∧ ∀ v H2, Go G L H' H2 → Im H2 v D → Q v H2
section
variable {G : List Addr} {L : List (Addr × Str)}
/-- a lambda given to a def that calls it -/
theorem give_at {X : Cx} {k : Nat} {TT : (XK → Hp → VK → Prop) → Hp → VK → Prop} {σ : L2.St} {H : Hp} {Q : VK} {ps : Arguments} {b : Expr} {sc : Scope} {df : Option Int} {f c' : Addr} (la : LamAt X ps b sc df H f c') (Lm : LamS1 X.N X.env.scope sc) (bd : LamBind ps b sc df) (t : XK → TE)
    (body : ∀ (A : Around) (outer : List Env) (s : Shared) (H : Hp) (E : XK) (f c' : Addr), Room k (A.deeper (LamX.lamEnv X sc s.heap.objs.size f c')) → PE (LamX.lamCx X A outer s H E sc f c') b (t E)) (h : TT (fun E H' Q' => t E σ H' Q') H Q) :
    ∃ (l : LamK X k) (g c0 : Addr), V.ref f = .ref g ∧ LamAt X l.ps l.b l.sc l.df H g c0 ∧ TT (fun E H' Q' => l.t E σ H' Q') H Q := ⟨⟨ps, b, sc, df, t, Lm, bd, body⟩, f, c', rfl, la, h⟩
theorem r_give {X : Cx} {k : Nat} {te : TE} {TT : (XK → Hp → VK → Prop) → Hp → VK → Prop} {σ : L2.St} {H : Hp} {Q : VK} (h : te σ H fun v H1 => ∃ (l : LamK X k) (f c' : Addr), v = .ref f ∧ LamAt X l.ps l.b l.sc l.df H1 f c' ∧ TT (fun E H' Q' => l.t E σ H' Q') H1 Q) : tGive X k te TT σ H Q := h
theorem r_tr5 {K : PySem.W.Frag} {tl : XK → Hp → VK → Prop} {H : Hp} {Q : VK} (h : tl (TE5 K G L Q) H Q) : TR5 K G L tl H Q := h
theorem lamBind1 {ps : Arguments} {b : Expr} {sc : Scope} {i : Int} (x0 : Str) (h0 : sc.names.lookup x0 = some .local) (h : ∀ (q : Str) (cl : List (Str × Addr)) (T : Addr) (doc pm cv ct u : Value), ∃ r, bindArgs (PySem.W.kdv_fn "<lambda>" q ps (.expr b) sc cl (.ref T) doc pm cv ct) ⟨[], []⟩ = (seqItems? (.ref T) >>= r) ∧ r (some #[u]) = pure [(x0, u)]) : LamBind ps b sc (some i) := ⟨x0, h0, h⟩
end
section
variable {K : PySem.W.Frag} {mg : Str → Option Value} {G : List Addr} {L : List (Addr × Str)}
end
/-- a step -/
local macro_rules | `(tactic| walk_at "rl") => `(tactic| first | (with_reducible refine r_tM1 ?_) | (with_reducible refine r_un ?_) | (with_reducible refine r_u1 ?_) | (with_reducible refine r_par ?_) | walk_at "rd")
section
variable {P : Program} {w : World} {K : PySem.W.Frag} {mg : Str → Option Value} {base : Heap} {G : List Addr} {L : List (Addr × Str)}
def RqE (K : PySem.W.Frag) : Prop := PySem.W.mroIn K (cR K) (.type "object") = some true ∧ PySem.W.findIn K (.ref (cR K)) "__eq__" = some (some (.builtin "object.__eq__"))
theorem rqB_ok {K : PySem.W.Frag} (h : rqB K = true) : RqE K := by
  unfold rqB at h
  rw [Bool.and_eq_true] at h
  exact ⟨of_decide_eq_true h.1, of_decide_eq_true h.2⟩
theorem ne_row6 {H : Hp} {ρ : Rid} {p : Addr} (hR : Row K H ρ) (hp : H p = none) : p ≠ ρ.r := by
  obtain ⟨zs, z⟩ := hR.lst
  exact (ne_of_none z hp).symm
/-- an if of which both outcomes go on -/
theorem r_ifJ6 {b : Bool} {ta tb : TS} {D : Ends} {σ : L2.St} {H : Hp} (Post : L2.St → Hp → Prop) (h1 : b = true → ∀ D' : Ends, (∀ σ' H', Post σ' H' → D'.nx σ' H') → ta D' σ H) (h2 : b = false → ∀ D' : Ends, (∀ σ' H', Post σ' H' → D'.nx σ' H') → tb D' σ H) (q : ∀ σ' H', Post σ' H' → D.nx σ' H') : (if b = true then ta D σ H else tb D σ H) := by
  cases b with
  | true => exact h1 rfl D q
  | false => exact h2 rfl D q
theorem r_pickL {H : Hp} {Q : VK} {E : XK} {ρ : Rid} {p : Addr} {xs : List V} (hR : Row K H ρ) (e : H p = some (.lst xs)) (np : p ≠ ρ.r) (h0 : 0 < xs.length) (hl : xs.length < 1000000) (q : ∀ (i : Nat) v H', xs[i]? = some v → GoR G L ρ.r H H' → Row K H' ρ → Q v H') : spPick K G L ([.ref ρ.r, .ref p] ++ []) H Q E :=
  ⟨ρ, p, xs, rfl, hR, h0, hl, fun H' h => by
    rcases h with rfl | h
    · exact .inl (.of e)
    · exact .inl (.of (h.lst np e)), fun i v H' ev g hR' => q i v H' ev g hR'⟩
theorem cut_m1 {xs : List V} : cutV xs none (some (-1)) = xs.dropLast := by
  unfold cutV
  rw [HT.sIx_none, List.drop_zero, Nat.sub_zero, List.dropLast_eq_take]
  congr 1
  unfold HT.sIx
  simp
  omega
theorem ixN_at {n k : Nat} (h : k < n) : ixN n ((k : Nat) : Int) = some k := by
  unfold ixN
  rw [if_pos (by omega), if_pos (by omega)]
  all_goals rfl
theorem dropLast_vN (l : List Nat) : (vN l).dropLast = vN l.dropLast := by
  unfold vN
  rw [List.map_dropLast]
/-- between 0 and 255 -/
theorem clip_ok (z : Int) : ∃ n : Nat, n ≤ 255 ∧ (if (if z < 255 then z else 255) > 0 then (if z < 255 then z else 255) else 0) = ((n : Nat) : Int) := by
  refine ⟨(if (if z < 255 then z else 255) > 0 then (if z < 255 then z else 255) else 0 : Int).toNat, ?_, ?_⟩
  · split <;> split <;> omega
  · split <;> split <;> omega
/-- what the call is told -/
def errDE (e : Nat) : PyData := .tuple [.str "error", .str "DecodeError", .int (e : Nat)]
def errIl (j : Nat) : PyData := .tuple [.str "error", .str "IllegalState", .int (j : Nat)]
theorem lv_errDE (e : Nat) : lv 8 (errDE e) = true := lv_tup fun x hx => by
  rcases List.mem_cons.mp hx with rfl | hx
  · decide +kernel
  rcases List.mem_cons.mp hx with rfl | hx
  · decide +kernel
  rw [List.mem_singleton.mp hx]
  rfl
theorem told_DE {H : Hp} {dd : Addr} {e : Nat} (h : H dd = some (.xd [("offset", .int (e : Nat))])) : Told5 K (.ref (He.ga K "DecodeError")) (some dd) H (errDE e) :=
  ⟨"DecodeError", [.int (e : Nat)], by decide, rfl, rfl, (by show ∃ dd' kv v e es, _; exact ⟨dd, _, _, _, _, rfl, rfl, h, rfl, .int _, rfl⟩), .inr ⟨dd, _, rfl, h⟩⟩
theorem told_il {cls : Value} {dd : Option Addr} {H : Hp} {j : Nat} (hT : Told K cls dd H (illD j)) : Told5 K cls dd H (errIl j) := by
  have go : ∀ a, H a = some (.xd [("index", .int (j : Nat))]) → Told5 K (.ref (He.ga K "IllegalState")) (some a) H (errIl j) := fun a h =>
    ⟨"IllegalState", [.int (j : Nat)], by decide, rfl, rfl, (by show ∃ dd' kv v e es, _; exact ⟨a, _, _, _, _, rfl, rfl, h, rfl, .int _, rfl⟩), .inr ⟨a, _, rfl, h⟩⟩
  rcases hT with ⟨a, p, i, e1, e2, e3, e4⟩ | ⟨a, i, e1, e2, e3, e4⟩ | ⟨e1, e2, e4⟩ | ⟨e1, e2, e4⟩ | ⟨e1, e2, e4⟩ | ⟨a, i, e1, e2, e3, e4⟩ | ⟨a, i, j2, e1, e2, e3, e4⟩ | ⟨a, v, e, e1, e2, e3, _, e4⟩ | ⟨a, v, e, e1, e2, e3, _, e4⟩
  all_goals first | (unfold illD at e4; simp at e4; done) | (exact absurd (PyData.str.inj (List.cons.inj (PyData.tuple.inj e4)).1) (by decide +kernel)) | skip
  unfold illD at e4
  simp only [PyData.tuple.injEq, List.cons.injEq, PyData.str.injEq, PyData.int.injEq, and_true, true_and] at e4
  subst e1 e2 e4
  exact go a e3
theorem il_tup {H : Hp} {v : V} {j : Nat} (h : Im H v (errIl j)) : ∃ p, v = .ref p ∧ Tp H p [.str "error", .str "IllegalState", .int (j : Nat)] := by
  unfold errIl at h
  cases h with
  | tup hT hx =>
    cases hx with
    | cons a b =>
      cases a
      cases b with
      | cons a b =>
        cases a
        cases b with
        | cons a b =>
          cases a
          cases b
          exact ⟨_, rfl, hT⟩
theorem r_eqI6 {H : Hp} {Q : VK} {v w : V} {D : PyData} (h1 : Dp K H v D) (h2 : Dp K H w D) (l : lv 8 D = true) (q : Q (.bl true) H) : rEqD K v w H Q := r_eqD h1 h2 l l (by rw [eqv_same l]; exact q)
theorem off_err {l : List Nat} {e : Nat} (h : offO l = some e) : decR l = .error e := by
  unfold offO at h
  cases c : decR l with
  | error e' => rw [c] at h; rw [Option.some.inj h]
  | ok R => rw [c] at h; cases h
theorem set_ok {l : List Nat} {k n : Nat} (h : ∀ x ∈ l, x ≤ 255) (hn : n ≤ 255) : ∀ x ∈ l.set k n, x ≤ 255 := fun x hx => by
  rcases List.mem_or_eq_of_mem_set hx with hx | rfl
  · exact h x hx
  · exact hn
theorem set_vN (l : List Nat) (k n : Nat) : (vN l).set k (.int (n : Nat)) = vN (l.set k n) := by
  unfold vN
  rw [List.map_set]
def abN : List Str := ["ab", "ac"]
theorem ab_good : GoodN abN := ⟨by decide +kernel, by decide +kernel⟩
def fixN : List Nat := closedN (rollN abN [] [] [])
def badN : List Nat := closedN ((fixN.set 7 1).dropLast)
theorem bad_at : offO badN = some 5 := by decide +kernel
theorem bad_ok : badN.length ≤ 500 ∧ ∀ n ∈ badN, n ≤ 255 := by decide +kernel
theorem fix_len : fixN.length = 13 := by decide +kernel
abbrev nLaw : List Str := ["_law_script", "_law_d", "_law_turn", "_law_rules_here", "_law_legal_here", "_law_changes", "_law_values_here", "_law_k", "_law_pick_here", "_law_low", "_law_offset", "_law_found"]
theorem scLaw : FnScope nLaw ["_law_script"] (defScope sLaw) := C8.fnScope_by (by decide +kernel)
set_option maxHeartbeats 4000000 in
theorem ok_law {f c Pn : Addr} {fd : FuncData} (F : Fun K "law" "law" sLaw f fd) (hc : fd.code = .ref c) (TB : LamX.TabB base mg c Pn) (hL : (Pn, lamQ "law") ∈ L) (AP : Apart G L) (zL : mg "len" = none) (zR : mg "range" = none) (zM : mg "min" = none) (zX : mg "max" = none) (zI : mg "isinstance" = none) (zT : mg "tuple" = none) (RQ : RqE K)
    (DI : Fd CX0 P w K mg base "_law_dice" 1 (spDice K G L)) (NX : Fd CX0 P w K mg base "_law_next" 1 (spTaken K G L)) (PK : Fd CX0 P w K mg base "_law_pick" 2 (spPick K G L)) (RU : Fd CX0 P w K mg base "_law_rules" 6 (spRules5 K G L)) (M : Mkr P w K mg base G L) (FN : Fp P w K mg base "names" "_names")
    (LVA : Fd CX0 P w K mg base "_law_values" 3 (spValuesV K G L)) (LCL : Fd CX0 P w K mg base "_law_closed" 1 (spClosed K G L)) (LRD : Fd CX0 P w K mg base "_law_read" 2 (spLawRd K G L)) (ENC : Fd (L2.CX P w) P w K mg base "encode_rollout" 6 (spEnc K G L)) (UPB : Fd CX0 P w K mg base "unpack_bytes" 1 (spUnpack K)) (PKB : Fd (L2.CX P w) P w K mg base "pack_bytes" 3 (spPack K G L)) (DEC : Fd (L2.CX P w) P w K mg base "decode_rollout" 7 (spDecX K G L)) (TO : TzD K mg) :
    FnOk P w K mg base CX0 14 f fd ["_law_script"] (spLaw K G L) := by
  obtain ⟨oc, od, kV, doc, pm, an, cdv, ct, osl, efd, lk, hcd⟩ := F.ex
  subst efd
  have ec : cdv = .ref c := hc
  subst ec
  refine fn_of lk hcd scLaw (fun vs H Q E h => ?_) (fun A outer s H vs Q E hr h => ?_)
  · obtain ⟨a, ns, e, _⟩ := h
    rw [e]
    rfl
  · obtain ⟨a, ns, e, hlen, hS, ht, q⟩ := h
    subst e
    refine ⟨_, PSs.nox (pss_cons (ps_set (i := 1) scLaw.nd rfl (Or.inr rfl) (pe_fd (E := E0) DI hr pass0 (pa_cons (pv 0) pa_nil)))
(pss_cons (ps_for PassesOwn.never rfl (pi_range1 rfl zR (pa_cons pe_int pa_nil)) (pg_name (i := 2) scLaw.nd rfl (.inl rfl))
  (pss_cons (ps_asg (pe_fd (E := E0) RU hr pass0 (pa_cons (pv 1) (pa_cons pe_int (pa_cons pe_int pa_nil)))) (pg_tup rfl (pgs_cons (pg_name (i := 3) scLaw.nd rfl (.inr rfl)) (pgs_cons (pg_name (i := 4) scLaw.nd rfl (.inl rfl)) pgs_nil))))
  (pss_cons (ps_setLc (i := 5) (own := [("_law_k", 7)]) (g := gName 7) (tt := tYes) rfl scLaw.nd rfl rfl (sw_true rfl rfl rfl rfl) (pi_range1 rfl zR (pa_cons (pe_fd (E := E0) NX hr pass0 (pa_cons (pv 1) (pa_cons pe_int pa_nil))) pa_nil))
            (blkOk_by (own := [("_law_k", 7)]) (N := nLaw) (sc := defScope sLaw) (by decide +kernel)) (fun _ _ _ _ _ => pg_name (i := 7) scLaw.nd rfl (.inl rfl)) (fun _ _ _ _ _ => pts_nil)
            (fun _ _ _ _ _ => show PE _ _ (tCall (spPick K G L) [] E0 (tCons (tVar 1) (tCons (tProp (cR K) (getSp (cR K) "_names") [] E0 (tVar 3)) tNil))) from pe_fd (E := E0) PK hr pass0 (pa_cons (pv 1) (pa_cons (pe_fp FN hr (pv 3)) pa_nil))))
  (pss_cons (ps_set (i := 6) scLaw.nd rfl (Or.inr rfl) (pe_fd (E := E0) LVA hr pass0 (pa_cons (pv 3) (pa_cons (pe_fd (E := E0) PK hr pass0 (pa_cons (pv 1) (pa_cons (pv 4) pa_nil))) (pa_cons (pv 5) pa_nil)))))
  (pss_cons (ps_par (i := 7) (j := 8) rfl scLaw.nd rfl rfl (by decide) rfl rfl (pa_cons (pe_fd (E := E0) NX hr pass0 (pa_cons (pv 1) (pa_cons (pe_callB (r := cLen K) c_len rfl zL boot_len (pa_cons (pv 6) pa_nil)) pa_nil))) (pa_cons (pe_fd (E := E0) NX hr pass0 (pa_cons (pv 1) (pa_cons pe_int pa_nil))) pa_nil)) rfl)
  (pss_cons (ps_if (pt_cmpR op_lt (pv 8) pe_int (nomark _))
    (pss_cons (ps_set (i := 9) scLaw.nd rfl (Or.inl rfl) (pe_fd (E := E0) PK hr pass0 (pa_cons (pv 1) (pa_cons (pe_lst (pa_cons (pe_op op_add (pe_ix (r := rIxL K) ix_list (pv 6) (pv 7) (fun _ _ => rfl)) pe_int) (pa_cons (pe_op op_sub (pe_ix (r := rIxL K) ix_list (pv 6) (pv 7) (fun _ _ => rfl)) pe_int) (pa_cons pe_int (pa_cons pe_int (pa_cons pe_int (pa_cons pe_int (pa_cons pe_int (pa_cons pe_int (pa_cons pe_int (pa_cons pe_int (pa_cons (pe_callB (r := cLen K) c_len rfl zL boot_len (pa_cons (pe_fp FN hr (pv 3)) pa_nil)) pa_nil)))))))))))) pa_nil))))
    (pss_cons (ps_asg (pe_callB (r := cMax) (c_max rfl) rfl zX boot_max (pa_cons pe_int (pa_cons (pe_callB (r := cMin) (c_min rfl) rfl zM boot_min (pa_cons pe_int (pa_cons (pv 9) pa_nil))) pa_nil))) (pg_sub (pv 6) (pv 7) set_list (fun _ => rfl)))
    (pss_one (ps_set (i := 6) scLaw.nd rfl (Or.inr rfl) (pe_ifExp (pt_cmpR op_eq (pv 8) pe_int (nomark _)) (pe_fd (E := E0) LCL hr pass0 (pa_cons (pe_slice (r := rSlL K) sl_list (pv 6) po_none (po_some (pe_un un_neg pe_int))) pa_nil)) (pv 6)))))) (pss_one (ps_if (pt_cmpR op_eq (pv 8) pe_int (nomark _))
      (pss_one (ps_set (i := 6) scLaw.nd rfl (Or.inr rfl) (pe_slice (r := rSlL K) sl_list (pv 6) po_none (po_some (pv 7))))) (pss_one (ps_set (i := 6) scLaw.nd rfl (Or.inr rfl) (pe_op op_cat (pv 6) (pe_lst (pa_cons (pe_fd (E := E0) NX hr pass0 (pa_cons (pv 1) (pa_cons pe_int pa_nil))) pa_nil))))))))
  (pss_cons (ps_set (i := 10) scLaw.nd rfl (Or.inl rfl) (pe_fd (E := E0) LRD hr pass0 (pa_cons (pv 6) pa_nil)))
  (pss_cons (ps_set (i := 11) scLaw.nd rfl (Or.inl rfl) (pe_told (G := G) (L := L) (k := 11) TO TB rfl hr (LamX.lamS_by (sc := defScope sLaw) (by decide +kernel)) (fun A outer s H E f c' hr2 => pe_fdL DEC hr2 (pa_cons (pe_fdL PKB hr2 (pa_cons (pv 6) pa_nil)) pa_nil))))
  (pss_cons (ps_if (PW.pt (pw_and (pt_cmpR op_notN (pv 10) pe_non (nomark _)) (pw_and1 (pt_cmpR (op_neD (u64 hr)) (pv 11) (pe_tup (pa_cons pe_str (pa_cons pe_str (pa_cons (pv 10) pa_nil)))) rfl))))
    (pss_one (ps_ret pe_bl)) pss_nil)
  (pss_one (ps_if (pt_cmpR op_isN (pv 10) pe_non (nomark _))
    (pss_one (ps_if (PW.pt (pw_and (pt_val (pe_callB call_isi rfl zI boot_isinstance (pa_cons (pv 11) (pa_cons (pe_bltn (v := .ty "tuple") rfl zT (by decide +kernel) rfl) pa_nil)))) (pw_and1 (pt_cmpR (op_eqM (u64 hr)) (pe_ix (r := rIxT K) ix_tup (pv 11) pe_int (fun _ _ => rfl)) pe_str rfl))))
      (pss_one (ps_if (pt_cmpR op_ne (pe_ix (r := rIxT K) ix_tup (pv 11) pe_int (fun _ _ => rfl)) pe_str (nomark _))
        (pss_one (ps_ret pe_bl)) pss_nil)) (pss_one (ps_if (pt_cmpR (op_neD (u64 hr)) (pe_fd (E := E0) UPB hr pass0 (pa_cons (pe_fd (E := E0) ENC hr passN (pa_cons (pe_ix (r := rIxT K) ix_tup (pv 11) pe_int (fun _ _ => rfl)) (pa_cons (pe_ix (r := rIxT K) ix_tup (pv 11) pe_int (fun _ _ => rfl)) (pa_cons (pe_ix (r := rIxT K) ix_tup (pv 11) pe_int (fun _ _ => rfl)) pa_nil)))) pa_nil)) (pv 6) rfl)
        (pss_one (ps_ret pe_bl)) pss_nil)))) pss_nil)))))))))))
(pss_cons (ps_set (i := 6) scLaw.nd rfl (Or.inr rfl) (pe_fd (E := E0) LVA hr pass0 (pa_cons (pe_rules (E := E0) M hr passN (pa_cons (pe_tup (pa_cons pe_str (pa_cons pe_str pa_nil))) (pa_cons (pe_tup pa_nil) pa_nil))) (pa_cons (pe_tup pa_nil) (pa_cons (pe_lst pa_nil) pa_nil)))))
(pss_cons (ps_asg pe_int (pg_sub (pv 6) pe_int set_list (fun _ => rfl)))
(pss_cons (ps_set (i := 11) scLaw.nd rfl (Or.inl rfl) (pe_toldV (G := G) (L := L) (k := 11) TO hr (pe_lamW1 TB rfl (lamS1_by (N := nLaw) (sc0 := defScope sLaw) (by decide +kernel)) pe_int)))
(pss_one (ps_ret (pe_cmpR (op_eqD (u64 hr)) (pv 11) (pe_tup (pa_cons pe_str (pa_cons pe_str (pa_cons pe_int pa_nil)))) rfl)))))))), ?_⟩
    repeat walk_at "rl"
    refine ⟨a, ns, rfl, hlen, hS, fun r H1 g1 hr' hR1 => ?_⟩
    have ht1 := g1.2 ht
    generalize hρ : (⟨r, a, ns⟩ : Rid) = ρ at hR1
    have er : r = ρ.r := by rw [← hρ]
    subst er
    clear hS ht hr' hρ g1
    repeat walk_at "rl"
    refine forR (n := 6) (H0 := H1) (fun R z => r_c z) (by decide) (fun i σ H' => ∃ (x2 x3 x4 x5 x6 x7 x8 x9 x10 x11 : Option V), σ = [some (.ref a), some (.ref ρ.r), x2, x3, x4, x5, x6, x7, x8, x9, x10, x11] ∧ TBS G L H' ∧ Row K H' ρ) ?_ ?_ ?_
    · exact ⟨none, none, none, none, none, none, none, none, none, none, rfl, ht1, hR1⟩
    · rintro i' σ H2 hi ⟨x2, x3, x4, x5, x6, x7, x8, x9, x10, x11, rfl, ht2, hR2⟩
      clear hR1 ht1
      refine r_gN ?_
      try dsimp only
      repeat walk_at "rl"
      refine ⟨ρ, 5, 5, rfl, hR2, ht2, by decide, by decide, by decide, fun ns cd p x l lx H3 n0 nm hns hcl hcd5 hne hp RA nl hl hlx g3 hR3 => ?_⟩
      refine r_pair hp.seq ?_
      have ht3 := g3.2 ht2
      have gn := hns.gn
      have n10 : ns.length ≤ 10 := by omega
      have h40 : cd.length ≤ 40 := by omega
      have nlr : l ≠ ρ.r := by
        obtain ⟨zs, z⟩ := hR2.lst
        exact nl.lst z
      clear g3 hR2 ht2 hp nl hns
      try dsimp only
      repeat walk_at "rl"
      refine lcRg (fun n H0 => n ≤ 5 ∧ GoR G L ρ.r H3 H0 ∧ Row K H0 ρ) (fun R z => ?_) (fun n H0 ⟨hn5, g0, hR0⟩ => ⟨by omega, fun D j H' => ∃ cs : List Str, D ≠ ρ.r ∧ D ≠ l ∧ GoR G L ρ.r H0 H' ∧ Row K H' ρ ∧ H' D = some (.lst (cs.map V.str)) ∧ (∀ z ∈ cs, z ∈ ns) ∧ cs.length = j, ?_, ?_, ?_⟩)
      · repeat walk_at "rl"
        refine r_taken hR3 (by decide) (by decide) fun kk H4 hkk g4 hR4 => ?_
        exact z kk H4 ⟨by omega, g4, hR4⟩
      · intro D hD
        have gN : Go G L H0 (upd H0 D (.lst [])) := Go.new hD
        have nDl : D ≠ l := fun q => by rw [q, g0.lst nlr hl] at hD; cases hD
        exact ⟨[], ne_row6 hR0 hD, nDl, gN.toR, hR0.go gN, upd_same, fun d hd => (by cases hd), rfl⟩
      · rintro D j H4 hD hj ⟨cs, nD, nDl, g4, hR4, eD, hcs, hcl2⟩
        refine r_gN ⟨rfl, r_yes ?_⟩
        repeat walk_at "rl"
        refine r_pnames (fun R z => ⟨_, rfl, z⟩) (RA.kt (hR3.kt (g0.trans g4))) fun an han => ?_
        refine ⟨ρ, an, ns.map V.str, rfl, hR4, by rw [List.length_map]; exact n0, by rw [List.length_map]; omega, fun H' h => ?_, fun i0 v H5 ev g5 hR5 => ?_⟩
        · rcases h with rfl | h
          · exact .inr han.seq
          · exact .inr (han.kt (hR4.kt h)).seq
        rw [List.getElem?_map] at ev
        cases hz : ns[i0]? with
        | none => rw [hz] at ev; cases ev
        | some z =>
          rw [hz] at ev
          obtain rfl : V.str z = v := Option.some.inj ev
          have eD5 := g5.lst nD eD
          refine ⟨_, eD5, by rw [List.length_map, sizeLine_eq]; omega, cs ++ [z], nD, nDl, (g4.trans g5).updNew hD eD5, hR0.re hR5 ((g4.trans g5).updNew hD eD5).1 (by rw [upd_ne nD.symm]), ?_, fun y hy => ?_, by rw [List.length_append, hcl2]; rfl⟩
          · rw [upd_same, List.map_append]
            rfl
          · rcases List.mem_append.mp hy with hy | hy
            · exact hcs y hy
            · rw [List.mem_singleton.mp hy]
              exact List.mem_of_getElem? hz
      rintro D H4 hD ⟨cs, nD, nDl, g4, hR4, eD, hcs, hcl2⟩
      have h200 : cs.length ≤ 200 := by omega
      have k34 := hR3.kt (g0.trans g4)
      have RA4 := RA.kt k34
      have hl4 := (g0.trans g4).lst nlr hl
      have hlx4 := hlx.kt k34
      have ht4 := (g0.trans g4).2 ht3
      have hLl : (legalD ns cd).length ≤ 2000 := Nat.le_trans (List.length_filter_le _ _) (allD_len n10)
      have hLp : 0 < (legalD ns cd).length := List.length_pos_iff.mpr hne
      clear k34 RA hl hlx ht3 g0 g4 hR0 hR3 hD hn5 hcl2
      repeat walk_at "rl"
      refine r_pickL hR4 hl4 nlr (by rw [hlx4.len]; exact hLp) (by rw [hlx4.len]; omega) fun i0 v H5 ev g5 hR5 => ?_
      obtain ⟨S, st, hst, rfl, hS⟩ := sts_get hlx4 ev
      have hsub : st.Sublist ns := allD_sub n10 (List.mem_filter.mp (List.mem_of_getElem? hst)).1
      have k45 := hR4.kt g5
      have RA5 := RA4.kt k45
      have hS5 := hS.kt k45
      have eD5 := g5.lst nD eD
      have ht5 := g5.2 ht4
      obtain ⟨r1, r2⟩ := rollN_ok (s := st) gn n10 hcl h40 hcs h200
      obtain ⟨s1, s2⟩ := closedN_ok r1 r2
      clear k45 g5 hS hst ev ht4 eD RA4 hl4 hlx4 hR4 hLl hLp hne
      repeat walk_at "rl"
      refine ⟨x, .ref S, D, ns, cd, st, cs, rfl, RA5.w, fun _ => RA5, gn, n10, hcl, h40, .tup hS5.seq (dps_strs _), hsub, eD5, hcs, h200, fun B H6 nB g6 eB => ?_⟩
      have RA6 := RA5.kt g6.kt
      have ht6 := g6.2 ht5
      have hR6 := hR5.go g6
      have nBr : B ≠ ρ.r := by
        obtain ⟨zs, z⟩ := hR5.lst
        exact nB.lst z
      clear RA5 hS5 hsub hcs h200 eD5 nD nDl nlr r1 r2
      generalize hlv : closedN (rollN ns cd st cs) = vl at eB s1 s2
      have hv0 : 0 < vl.length := by
        rw [← hlv]
        unfold closedN
        rw [List.length_append]
        show 0 < _ + 1
        omega
      clear hlv
      repeat walk_at "rl"
      refine r_lenL (.of eB) ?_
      rw [vN_len]
      repeat walk_at "rl"
      refine r_taken hR6 (by omega) (by omega) fun kk H7 hkk g7 hR7 => ?_
      repeat walk_at "rl"
      refine r_taken hR7 (by decide) (by decide) fun pk H8 hpk g8 hR8 => ?_
      have hk : kk < vl.length := by omega
      have hkv : vl[kk]? = some vl[kk] := List.getElem?_eq_getElem hk
      generalize vl[kk] = w0 at hkv
      have g68 := g7.trans g8
      have g58 := g6.toR.trans g68
      have ht8 := g68.2 ht6
      have eB8 := g68.lst nBr eB
      have RA8 := RA6.kt (hR6.kt g68)
      clear g7 g8 hR7 eB RA6 ht6 g68 hR6 hkk
      refine ⟨_, _, rfl, ?_⟩
      simp only [List.set_cons_zero, List.set_cons_succ]
      repeat walk_at "rl"
      refine r_ifJ6 (fun σ' H' => ∃ (x9 : Option V) (B : Addr) (vl : List Nat), σ' = [some (.ref a), some (.ref ρ.r), some (.int (i' : Nat)), some (.ref x), some (.ref l), some (.ref D), some (.ref B), some (.int (kk : Nat)), some (.int (pk : Nat)), x9, x10, x11] ∧ H' B = some (.lst (vN vl)) ∧ vl.length ≤ 600 ∧ (∀ n ∈ vl, n ≤ 255) ∧ TBS G L H' ∧ Row K H' ρ) (fun _ D' z => ?_) (fun _ D' z => ?_) ?_
      · repeat walk_at "rl"
        refine r_ixL (.of eB8) (vN_at hkv) ?_
        repeat walk_at "rl"
        refine r_ixL (.of eB8) (vN_at hkv) ?_
        repeat walk_at "rl"
        refine r_pnames (fun R z => ⟨_, rfl, z⟩) RA8 fun an han => ?_
        repeat walk_at "rl"
        refine r_lenT han.seq ?_
        repeat walk_at "rl"
        refine ⟨by show 11 ≤ sizeLine; decide, fun p9 n9 => ?_⟩
        generalize hH : upd _ p9 _ = H9; obtain ⟨k9, e9⟩ := new_facts hH n9; clear hH
        have n9r := ne_row6 hR8 n9
        have hR9 := hR8.go (Go.same (G := G) (L := L) k9)
        repeat walk_at "rl"
        refine r_pickL hR9 e9 n9r (by show 0 < 11; decide) (by show 11 < 1000000; decide) fun i0 v HA ev gA hRA => ?_
        obtain ⟨z0, rfl⟩ : ∃ z0 : Int, v = .int z0 := by
          have hm := List.mem_of_getElem? ev
          simp only [List.mem_cons, List.not_mem_nil, or_false] at hm
          rcases hm with rfl | rfl | rfl | rfl | rfl | rfl | rfl | rfl | rfl | rfl | rfl <;> exact ⟨_, rfl⟩
        have g5A := g58.trans ((Go.same (G := G) (L := L) k9).toR.trans gA)
        have htA := ((Go.same (G := G) (L := L) k9).toR.trans gA).2 ht8
        have eBA := gA.lst nBr (k9 _ _ eB8)
        clear ev gA e9 k9 n9 n9r hR9
        repeat walk_at "rl"
        refine ⟨_, _, rfl, ?_⟩
        repeat walk_at "rl"
        refine ⟨_, _, rfl, ?_⟩
        obtain ⟨n, hn, ez⟩ := clip_ok z0
        rw [ez]
        clear ez
        repeat walk_at "rl"
        refine r_setL eBA (j := kk) ?_ ?_
        · exact ixN_at (by rw [vN_len]; exact hk)
        rw [set_vN]
        have s2' := set_ok (k := kk) s2 hn
        have hl' : (vl.set kk n).length = vl.length := List.length_set
        generalize vl.set kk n = vm at s2' hl'
        have gS := g5A.updNw (ys := vN vm) nB eBA
        have htS : TBS G L (upd HA B (.lst (vN vm))) := (GoR.upd (G := G) (L := L) eBA).2 htA
        have hRS : Row K (upd HA B (.lst (vN vm))) ρ := hR5.re hRA gS.1 (by rw [upd_ne nBr.symm])
        have eBS : (upd HA B (.lst (vN vm))) B = some (.lst (vN vm)) := upd_same
        generalize upd HA B (.lst (vN vm)) = HS at gS htS hRS eBS
        repeat walk_at "rl"
        refine r_eq rfl ?_
        repeat walk_at "rl"
        refine r_if (fun _ => ?_) (fun _ => ?_)
        · repeat walk_at "rl"
          refine ⟨1, rfl, _, rfl, ?_⟩
          refine r_slL eBS fun pC HC kC eC => ?_
          rw [cut_m1, dropLast_vN] at eC
          repeat walk_at "rl"
          refine ⟨pC, vm.dropLast, rfl, eC, by rw [List.length_dropLast]; omega, fun pD HD nD gD eD => ?_⟩
          have gCD := (Go.same (G := G) (L := L) kC).trans gD
          have hd : vm.dropLast.length ≤ 500 ∧ ∀ n ∈ vm.dropLast, n ≤ 255 := ⟨by rw [List.length_dropLast]; omega, fun n hn => s2' n ((List.dropLast_sublist vm).subset hn)⟩
          obtain ⟨c1, c2⟩ := closedN_ok hd.1 hd.2
          repeat walk_at "rl"
          exact z _ _ ⟨_, pD, _, rfl, eD, by omega, c2, gCD.2 htS, hRS.go gCD⟩
        · repeat walk_at "rl"
          exact z _ _ ⟨_, B, vm, rfl, eBS, by omega, s2', htS, hRS⟩
      · repeat walk_at "rl"
        refine r_eq rfl ?_
        repeat walk_at "rl"
        refine r_if (fun _ => ?_) (fun _ => ?_)
        · repeat walk_at "rl"
          refine r_slL eB8 fun pC HC kC eC => ?_
          rw [cut_to (by rw [vN_len]; omega)] at eC
          have eC' : HC pC = some (.lst (vN (vl.take kk))) := by
            rw [eC]
            unfold vN
            rw [List.map_take]
          have gC : Go G L H8 HC := Go.same kC
          repeat walk_at "rl"
          exact z _ _ ⟨_, pC, _, rfl, eC', by rw [List.length_take]; omega, fun n hn => s2 n (List.mem_of_mem_take hn), gC.2 ht8, hR8.go gC⟩
        · repeat walk_at "rl"
          refine r_taken hR8 (by decide) (by decide) fun nn H9 hnn g9 hR9 => ?_
          repeat walk_at "rl"
          refine ⟨by show 1 ≤ sizeLine; decide, fun pA nA => ?_⟩
          generalize hH : upd _ pA _ = HA; obtain ⟨kA, eA⟩ := new_facts hH nA; clear hH
          repeat walk_at "rl"
          refine r_cat (a := B) (b := pA) (kA _ _ (g9.lst nBr eB8)) eA (by rw [vN_len]; show _ + 1 ≤ 5000; omega) fun pC HC kC nC eC => ?_
          have gC : Go G L H9 HC := (Go.same kA).trans (Go.same kC)
          have eC' : HC pC = some (.lst (vN (vl ++ [nn]))) := by
            rw [eC, vN_app]
            rfl
          repeat walk_at "rl"
          exact z _ _ ⟨_, pC, _, rfl, eC', by rw [List.length_append]; show _ + 1 ≤ 600; omega, fun n hn => by
            rcases List.mem_append.mp hn with hn | hn
            · exact s2 n hn
            · rw [List.mem_singleton.mp hn]
              omega, gC.2 (g9.2 ht8), hR9.go gC⟩
      clear eB8 RA8 hR8 ht8 g58 hkv hk s1 s2 hv0 nBr g6 nB hR5 ht5 hpk
      rintro σ' H1 ⟨x9, B, vl, rfl, eB, s1, s2, ht1, hR1⟩
      repeat walk_at "rl"
      refine ⟨B, vl, rfl, eB, by omega, fun H5 g5 => ?_⟩
      have eB5 := g5.lst eB
      have ht5 := g5.2 ht1
      have hR5 := hR1.go g5
      clear g5 eB ht1 hR1
      have pack : ∀ {H : Hp} {Q : VK} {E : XK}, H B = some (.lst (vN vl)) → (∀ H', Go G L H H' → Q (.byt (bytN vl)) H') → spPack K G L ([.ref B] ++ []) H Q E := fun {H} {Q} {E} e q => by
        refine ⟨.ref B, .list (vl.map fun (n : Nat) => PyData.int (n : Nat)), rfl, .lst (.of e) (dps_ints _), fun ds e => ?_, fun e => ?_, fun l' e H8 g8 => ?_⟩
        · cases e
          rw [List.length_map]
          omega
        · rw [packD_ok s2] at e
          cases e
        rw [packD_ok s2] at e
        obtain rfl := Option.some.inj e
        exact q H8 g8
      cases hd : decR vl with
      | error e =>
        rw [show offO vl = some e by unfold offO; rw [hd], show optV (some e) = V.int (e : Nat) from rfl]
        repeat walk_at "rl"
        refine r_toldL AP hL ht5 fun H6 g6 => ?_
        repeat walk_at "rl"
        refine pack (g6.lst eB5) fun H7 g7 => ?_
        repeat walk_at "rl"
        refine ⟨vl, rfl, s2, by omega, (g6.trans g7).2 ht5, fun e' he dd H8 g8 hdd => ?_, fun R hR => (by rw [hd] at hR; cases hR)⟩
        rw [hd] at he
        obtain rfl := Except.error.inj he
        refine ⟨_, told_DE hdd, fun v H9 g9 him => ?_⟩
        have g59 := ((g6.trans g7).trans g8).trans g9
        repeat walk_at "rl"
        refine ⟨rfl, true, rfl, ?_⟩
        try dsimp only
        rw [if_pos rfl]
        repeat walk_at "rl"
        refine ⟨by show 3 ≤ sizeLine; decide, fun pA nA => ?_⟩
        generalize hH : upd _ pA _ = HA; obtain ⟨kA, eA⟩ := new_facts hH nA; clear hH
        have gA : Go G L H9 HA := Go.same kA
        refine r_neI (D := errDE e) (him.kt gA.kt).dp (.tup (.inl (.inl eA)) (.cons (.str _) (.cons (.str _) (.cons (.int _) .nil)))) (lv_errDE e) ?_
        repeat walk_at "rl"
        refine ⟨rfl, false, rfl, ?_⟩
        try dsimp only
        rw [if_neg Bool.false_ne_true]
        repeat walk_at "rl"
        exact ⟨_, _, _, _, _, _, _, _, _, _, rfl, (g59.trans gA).2 ht5, hR5.go (g59.trans gA)⟩
      | ok R =>
        rw [show offO vl = none by unfold offO; rw [hd], show optV none = V.non from rfl]
        obtain ⟨e1, e2, e3, e4, e5, e6, e7, e8, e9⟩ := decR_ok hd
        repeat walk_at "rl"
        refine r_toldL AP hL ht5 fun H6 g6 => ?_
        repeat walk_at "rl"
        refine pack (g6.lst eB5) fun H7 g7 => ?_
        repeat walk_at "rl"
        refine ⟨vl, rfl, s2, by omega, (g6.trans g7).2 ht5, fun e' he => (by rw [hd] at he; cases he), fun R' hR' => ?_⟩
        rw [hd] at hR'
        obtain rfl := Except.ok.inj hR'
        refine ⟨fun j rest hb cls dd H8 g8 hT => ?_, fun hb T x S D H8 g8 eT RB hSB eDB => ?_⟩
        · refine ⟨_, told_il hT, fun v H9 g9 him => ?_⟩
          have g59 := ((g6.trans g7).trans g8).trans g9
          repeat walk_at "rl"
          refine ⟨rfl, false, rfl, ?_⟩
          try dsimp only
          rw [if_neg Bool.false_ne_true]
          repeat walk_at "rl"
          refine ⟨rfl, true, rfl, ?_⟩
          try dsimp only
          rw [if_pos rfl]
          repeat walk_at "rl"
          refine r_isB (m := "tuple") (b := true) (Dp.kd him.dp) rfl (by decide) ?_
          repeat walk_at "rl"
          obtain ⟨p, rfl, hT5⟩ := il_tup him
          refine r_ixT (i := 0) hT5.seq rfl ?_
          repeat walk_at "rl"
          refine .inl ⟨rfl, ?_⟩
          rw [decide_eq_true rfl]
          repeat walk_at "rl"
          refine r_ixT (i := 1) hT5.seq rfl ?_
          repeat walk_at "rl"
          refine r_ne rfl ?_
          rw [decide_eq_true rfl]
          repeat walk_at "rl"
          exact ⟨_, _, _, _, _, _, _, _, _, _, rfl, g59.2 ht5, hR5.go g59⟩
        · have g58 := (g6.trans g7).trans g8
          repeat walk_at "rl"
          refine ⟨rfl, false, rfl, ?_⟩
          try dsimp only
          rw [if_neg Bool.false_ne_true]
          repeat walk_at "rl"
          refine ⟨rfl, true, rfl, ?_⟩
          try dsimp only
          rw [if_pos rfl]
          repeat walk_at "rl"
          refine r_isB (n := "tuple") (m := "tuple") (b := true) ⟨by decide, .base (.tup eT)⟩ rfl (by decide) ?_
          repeat walk_at "rl"
          refine r_ixT (i := 0) (.inl (.inl eT)) rfl ?_
          repeat walk_at "rl"
          have RB2 := RB
          obtain ⟨dx, an, ac, xs, hx, _⟩ := RB2
          refine .inr ⟨x, cR K, dx, _, "error", rfl, rfl, hx, RQ.1, RQ.2, ?_⟩
          clear hx
          have okR := e2.okR e3 e4 e5 e6
          obtain ⟨l7, hl60⟩ := strs_lv okR.gs e7
          have hnok : ∀ z ∈ R.ns, PyData.strOk z = true := fun z hz => (e2.al z hz).2.1
          repeat walk_at "rl"
          refine r_ixT (i := 0) (.inl (.inl eT)) rfl ?_
          repeat walk_at "rl"
          refine r_ixT (i := 1) (.inl (.inl eT)) rfl ?_
          repeat walk_at "rl"
          refine r_ixT (i := 2) (.inl (.inl eT)) rfl ?_
          repeat walk_at "rl"
          refine ⟨x, .ref S, D, R.ns, R.cd, .tuple (R.st.map PyData.str), R.cs, rfl, RB, okR, e2, e4, e5, .tup hSB.seq (dps_strs _), l7, hl60, eDB, by omega, fun z hz => hnok z (e8 z hz), fun ds ed _ => by cases ed; exact hb, fun _ => ⟨R.st, rfl, e7⟩, fun k hk => (by rw [st_none e7] at hk; cases hk), fun _ h => by omega, fun _ _ k z hz _ hno => absurd (e8 z (List.mem_of_getElem? hz)) hno, fun st' es hs' _ _ H9 g9 => ?_⟩
          obtain rfl : R.st = st' := by
            have z := PyData.tuple.inj es
            exact (List.map_inj_right (fun a b h => PyData.str.inj h)).mp z
          rw [← e1]
          have g59 := g58.trans g9
          repeat walk_at "rl"
          refine ⟨vl, rfl, s2, by omega, fun p7 n7 => ?_⟩
          generalize hH : upd H9 p7 _ = HA
          obtain ⟨k7, e7'⟩ := new_facts hH n7
          clear hH
          have gA := g59.trans (Go.same k7)
          repeat walk_at "rl"
          refine r_neI (D := .list (vl.map fun (n : Nat) => PyData.int (n : Nat))) (.lst (.of e7') (dps_ints _)) (.lst (.of (gA.lst eB5)) (dps_ints _)) (lv_lst fun y hy => by
            obtain ⟨n, _, rfl⟩ := List.mem_map.mp hy
            rfl) ?_
          repeat walk_at "rl"
          exact ⟨_, _, _, _, _, _, _, _, _, _, rfl, gA.2 ht5, hR5.go gA⟩
    · rintro σ H2 ⟨x2, x3, x4, x5, x6, x7, x8, x9, x10, x11, rfl, ht2, hR2⟩
      clear hR1 ht1
      repeat walk_at "rl"
      refine ⟨by show 2 ≤ sizeLine; decide, fun p3 n3 => ?_⟩
      generalize hH : upd _ p3 _ = H3; obtain ⟨k3, e3⟩ := new_facts hH n3; clear hH
      repeat walk_at "rl"
      refine ⟨by show 0 ≤ sizeLine; decide, fun p4 n4 => ?_⟩
      generalize hH : upd _ p4 _ = H4; obtain ⟨k4, e4⟩ := new_facts hH n4; clear hH
      repeat walk_at "rl"
      have g24 : Go G L H2 H4 := (Go.same k3).trans (Go.same k4)
      refine mk5 (ns := abN) (cd := []) ab_good (by decide) (by decide) (fun d hd => by cases hd) (by decide) (.inl (k4 _ _ e3)) (.inl e4) .nil (g24.2 ht2) fun x5' H5 g5 RW _ => ?_
      repeat walk_at "rl"
      refine ⟨by show 0 ≤ sizeLine; decide, fun p6 n6 => ?_⟩
      generalize hH : upd _ p6 _ = H6; obtain ⟨k6, e6⟩ := new_facts hH n6; clear hH
      repeat walk_at "rl"
      refine ⟨by show 0 ≤ sizeLine; decide, fun p7 n7 => ?_⟩
      generalize hH : upd _ p7 _ = H7; obtain ⟨k7, e7⟩ := new_facts hH n7; clear hH
      repeat walk_at "rl"
      have g57 : Go G L H5 H7 := (Go.same k6).trans (Go.same k7)
      have g27 := (g24.trans g5).trans g57
      refine ⟨x5', .ref p6, p7, abN, [], [], [], rfl, RW.kt g57.kt, fun q => (by rcases q with q | q <;> exact absurd rfl q), ab_good, by decide, fun d hd => (by cases hd), by decide, .tup (.inl (.inl (k7 _ _ e6))) .nil, List.nil_sublist _, e7, fun z hz => (by cases hz), by decide, fun B H8 nB g8 eB => ?_⟩
      have ht8 := (g27.trans g8).2 ht2
      clear g27 g57 g24 g5 g8 nB RW e3 e4 e6 e7 k3 k4 k6 k7 n3 n4 n6 n7 hR2 ht2
      repeat walk_at "rl"
      refine r_setL eB (j := 7) (by rw [vN_len]; exact ixN_at (k := 7) (by show 7 < fixN.length; rw [fix_len]; decide)) ?_
      have ht9 : TBS G L (upd H8 B (.lst (vN (fixN.set 7 1)))) := (GoR.upd (G := G) (L := L) eB).2 ht8
      have eB9 : (upd H8 B (.lst (vN (fixN.set 7 1)))) B = some (.lst (vN (fixN.set 7 1))) := upd_same
      have es : (vN (closedN (rollN abN [] [] []))).set 7 (V.int 1) = vN (fixN.set 7 1) := set_vN fixN 7 1
      rw [es]
      generalize upd H8 B (.lst (vN (fixN.set 7 1))) = H9 at ht9 eB9
      clear eB ht8 es
      repeat walk_at "rl"
      refine r_give ?_
      refine r_lamV rfl AP hL ht9 fun f6 c6 HA gA la6 => ?_
      refine give_at la6 (lamS1_by (N := nLaw) (sc0 := defScope sLaw) (by decide +kernel)) (lamBind1 "_law_a" rfl fun _ _ _ _ _ _ _ _ => ⟨_, rfl, rfl⟩) _ (fun A outer s H E f c' hr2 => pe_fdL DEC hr2 (pa_cons (pe_fdL PKB hr2 (pa_cons (pe_fd (E := E0) LCL hr2 pass0 (pa_cons (pe_slice (r := rSlL K) sl_list (pv 6) po_none (po_some (pe_un un_neg pe_int))) pa_nil)) pa_nil)) pa_nil)) ?_
      refine r_tr5 ?_
      repeat walk_at "rl"
      refine ⟨1, rfl, _, rfl, ?_⟩
      refine r_slL (gA.lst eB9) fun pC HC kC eC => ?_
      rw [cut_m1, dropLast_vN] at eC
      repeat walk_at "rl"
      refine ⟨pC, (fixN.set 7 1).dropLast, rfl, eC, by rw [List.length_dropLast, List.length_set, fix_len]; decide, fun pD HD nD gD eD => ?_⟩
      have g9D := (gA.trans (Go.same (G := G) (L := L) kC)).trans gD
      have eD' : HD pD = some (.lst (vN badN)) := eD
      obtain ⟨b1, b2⟩ := bad_ok
      repeat walk_at "rl"
      refine ⟨.ref pD, .list (badN.map fun (n : Nat) => PyData.int (n : Nat)), rfl, .lst (.of eD') (dps_ints _), fun ds e => (by cases e; rw [List.length_map]; omega), fun e => (by rw [packD_ok b2] at e; cases e), fun l' e HE gE => ?_⟩
      rw [packD_ok b2] at e
      obtain rfl := Option.some.inj e
      have g9E := g9D.trans gE
      have hd := off_err bad_at
      repeat walk_at "rl"
      refine ⟨badN, rfl, b2, by omega, g9E.2 ht9, fun e' he dd HF gF hdd => ?_, fun R hR => (by rw [hd] at hR; cases hR)⟩
      rw [hd] at he
      obtain rfl := Except.error.inj he
      refine ⟨_, told_DE hdd, fun v HG gG him => ?_⟩
      repeat walk_at "rl"
      refine ⟨by show 3 ≤ sizeLine; decide, fun pI nI => ?_⟩
      generalize hH : upd _ pI _ = HI; obtain ⟨kI, eI⟩ := new_facts hH nI; clear hH
      have gI : Go G L HG HI := Go.same kI
      refine r_eqI6 (D := errDE 5) (him.kt gI.kt).dp (.tup (.inl (.inl eI)) (.cons (.str _) (.cons (.str _) (.cons (.int _) .nil)))) (lv_errDE 5) ?_
      repeat walk_at "rl"
      exact q _
end
section
variable {K : PySem.W.Frag} {h : Heap}
theorem isB_ok {a b : Option Bool} (h : isB a b = true) : a = b := of_decide_eq_true h
theorem oexB_ok {C : Addr} (h : oexB K C = true) : OexC K C := by
  obtain ⟨h1, h⟩ := He.ba h
  obtain ⟨h2, h⟩ := He.ba h
  obtain ⟨h3, h⟩ := He.ba h
  obtain ⟨h4, h5⟩ := He.ba h
  refine ⟨?_, He.eqO_ok h2, isB_ok h3, of_decide_eq_true h4, h5⟩
  unfold oxB at h1
  split at h1
  · rename_i t dd cd sl ho
    split at h1
    · rename_i D bm k0 k1 k2 k3 n k5 hm hs
      obtain ⟨a1, h1⟩ := He.ba h1
      obtain ⟨a2, h1⟩ := He.ba h1
      obtain ⟨a3, h1⟩ := He.ba h1
      obtain ⟨a4, h1⟩ := He.ba h1
      obtain ⟨a5, a6⟩ := He.ba h1
      have e1 := of_decide_eq_true a1
      have e2 := of_decide_eq_true a2
      have e3 := of_decide_eq_true a3
      obtain ⟨nm, bs, mro, ns, qn, hd, sn, sub, ab, col, del⟩ := cd
      dsimp only at hm a4 a5
      have e4 : del = false := by
        cases del
        · rfl
        · cases a4
      subst hm e1 e2 e3 e4 a5
      have hsl : sl = #[k0, k1, k2, k3, some (.builtin "ValueError.__new__"), k5] := by
        obtain ⟨l⟩ := sl
        simp only at hs
        rw [hs]
      subst hsl
      exact ⟨nm, qn, ns, bs, bm, sn, sub, ab, col, dd, k0, k1, k2, k3, k5, ho, a6⟩
    · cases h1
  · cases h1
theorem ecB_ok {C : Addr} (h : ecB K C = true) : ExcC K C := by
  obtain ⟨h1, h⟩ := He.ba h
  obtain ⟨h2, h⟩ := He.ba h
  obtain ⟨h3, h⟩ := He.ba h
  obtain ⟨h4, h⟩ := He.ba h
  obtain ⟨h5, h⟩ := He.ba h
  obtain ⟨h6, h⟩ := He.ba h
  obtain ⟨h7, h8⟩ := He.ba h
  exact ⟨He.eqO_ok h1, He.eqO_ok h2, isB_ok h3, h4, He.eqO_ok h5, He.eqO_ok h6, isB_ok h7, isB_ok h8⟩
theorem prB_ok {m : Str} (h : prB K m = true) : PropOf K (cR K) m (He.ma K (cR K) m) (pgO K m) := by
  obtain ⟨h1, h⟩ := He.ba h
  obtain ⟨h2, h⟩ := He.ba h
  obtain ⟨h3, h4⟩ := He.ba h
  refine ⟨He.eqO_ok h1, He.eqO_ok h2, isB_ok h3, ?_⟩
  unfold pgO
  split at h4
  · rename_i g r e
    exact ⟨r, by rw [e]⟩
  · cases h4
theorem crB_ok {C : Addr} (h : crB K C = true) : ClX.CRead K C (.type "type") := by
  obtain ⟨h1, h2⟩ := He.ba h
  exact ⟨h1, He.eqO_ok h2⟩
theorem fvB_ok (h : fvB K = true) : PySem.W.findCls K (.ref (He.ga K "StepError")) (.type "type") "__init__" = some (.val (.builtin "ValueError.__init__")) := by
  unfold fvB at h
  split at h
  · rename_i n e
    rw [e, of_decide_eq_true h]
  · cases h
theorem obT_eq (s : PySem.W.SharedT) : obT s = hkF.obs s.abs := by
  have e : HandSHeadRun.getT s = s.abs.heap.get? := funext (HandSHeadRun.getT_eq s)
  unfold obT
  rw [e]
  rfl
end
section
variable {K : PySem.W.Frag} {h : Heap} {mg : Str → Option Value}
theorem SaysF.fa (c : SaysF h K) {f : He.Fa} (hf : f ∈ faL) : f.ok K = true := by
  obtain ⟨i, hi, e⟩ := List.mem_iff_getElem.mp hf
  exact c.a.fact i (f := f) (by rw [List.getElem?_eq_getElem hi, e])
theorem SaysF.glo (c : SaysF h K) (X : K.In h) (G : h.Ns mainGlobals mg) : ∀ x ∈ gloN, mg x = some (.ref (He.ga K x)) := fun x hx =>
  He.glo_ok X G (c.fa (List.mem_append.mpr (.inl (List.mem_append.mpr (.inr (List.mem_map_of_mem hx))))))
theorem SaysF.free (c : SaysF h K) (X : K.In h) (G : h.Ns mainGlobals mg) : ∀ x ∈ freeN, mg x = none := fun x hx =>
  He.free_ok X G (c.fa (List.mem_append.mpr (.inr (List.mem_map_of_mem hx))))
theorem SaysF.ex (c : SaysF h K) (i : Nat) {b : Bool} (e : (exL K)[i]? = some b := by rfl) : b = true := List.all_eq_true.mp c.more b (List.mem_of_getElem? e)
theorem SaysF.dt (c : SaysF h K) (i : Nat) {x : Str} {j : Nat} (e : fnL[i]? = some (dT x j) := by rfl) : ∃ fd, L2.FunD K x x (defArgs (top j)) (defBody (top j)) (defScope (top j)) [] [] (He.ga K x) fd := c.a.def_ i e
theorem SaysF.dr (c : SaysF h K) (i : Nat) {m q : Str} {j : Nat} (e : fnL[i]? = some (dR m q j) := by rfl) : ∃ fd, L2.FunD K m q (defArgs (sM j)) (defBody (sM j)) (defScope (sM j)) [] [] (He.ma K (cR K) m) fd := c.a.def_ i e
theorem SaysF.dg (c : SaysF h K) (i : Nat) {m q : Str} {j : Nat} (e : fnL[i]? = some (dG m q j) := by rfl) : ∃ fd, L2.FunD K m q (defArgs (sM j)) (defBody (sM j)) (defScope (sM j)) [] [] (pgO K m) fd := c.a.def_ i e
theorem SaysF.de (c : SaysF h K) (i : Nat) {C q : Str} {j : Nat} (e : fnL[i]? = some (dE C q j) := by rfl) : ∃ fd, L2.FunD K "__init__" q (defArgs (sErr j)) (defBody (sErr j)) (defScope (sErr j)) [] [] (He.ma K (He.ga K C) "__init__") fd := c.a.def_ i e
theorem code_at {x : Str} {st : Stmt} {fd : FuncData} (F : L2.FunD K x x (defArgs st) (defBody st) (defScope st) [] [] (He.ga K x) fd) : fd.code = .ref (He.cT K (x, none)).1 := by
  obtain ⟨oc, od, dV, kV, doc, pm, an, cdv, ct, osl, e, l, hc, _⟩ := F.ex
  obtain ⟨cc, ec⟩ := He.codeIn_ref hc
  subst e
  have e2 : cdv = .ref cc := ec
  subst e2
  have z : He.codeOf K (x, none) = cc := He.codeOf_eq (p := (x, none)) l rfl
  show Value.ref cc = .ref (He.codeOf K (x, none))
  rw [z]
theorem apart2 {t0 t1 : Addr} {q1 : Str} (h : [t0, t1].Nodup) : Apart [t0] [(t1, q1)] := by
  simp only [List.nodup_cons, List.mem_cons, List.not_mem_nil, or_false, not_false_eq_true, List.nodup_nil, and_true] at h
  refine ⟨fun p hp z => ?_, fun p hp q hq e => ?_⟩
  · have z' := List.mem_singleton.mp z
    rw [List.mem_singleton.mp hp] at z'
    exact h z'.symm
  · rw [List.mem_singleton.mp hp, List.mem_singleton.mp hq]
theorem initB_ok {K : PySem.W.Frag} {x : Str} (h : initB K x = true) : OexC K (He.ga K x) ∧ PySem.W.findIn K (.ref (He.ga K x)) "__init__" = some (some (.ref (He.ma K (He.ga K x) "__init__"))) ∧ PySem.W.typeIn K (.ref (He.ma K (He.ga K x) "__init__")) = some (.type "function") := by
  obtain ⟨h1, h⟩ := He.ba h
  obtain ⟨h2, h3⟩ := He.ba h
  exact ⟨oexB_ok h1, He.eqO_ok h2, of_decide_eq_true h3⟩
theorem tab0 {H : Hp} {P : Addr} (e : H P = some (.tbl #[])) : GxR.TabG H P := ⟨#[], e, trivial⟩
theorem tabS0 {H : Hp} {P : Addr} {q : Str} (e : H P = some (.tbl #[])) : LamX.TabS H P q := ⟨#[], e, trivial, fun _ _ z => by cases z⟩
theorem SaysF.dd {K : PySem.W.Frag} {h : Heap} (c : SaysF h K) (i : Nat) {m q : Str} {j : Nat} (e : fnL[i]? = some (dD m q j) := by rfl) : ∃ fd, L2.FunD K m q (defArgs (sD j)) (defBody (sD j)) (defScope (sD j)) [] [] (He.ma K (cD K) m) fd := c.a.def_ i e
theorem erB_ok {K : PySem.W.Frag} {x : Str} (h : erB K x = true) : PySem.W.excIn K (He.ga K x) He.veBase "ValueError.__new__" = true ∧ PySem.W.keepIn K (.ref (He.ga K x)) = true ∧ PySem.W.subIn K (.ref (He.ga K x)) (.type "BaseException") = some true ∧ PySem.W.typeIn K (.ref (He.ga K x)) = some (.type "type") := by
  obtain ⟨h1, h⟩ := He.ba h
  obtain ⟨h2, h⟩ := He.ba h
  obtain ⟨h3, h4⟩ := He.ba h
  exact ⟨h1, h2, isB_ok h3, of_decide_eq_true h4⟩
theorem facts (w : World) (X : K.In h) (G : h.Ns mainGlobals mg) {f : Addr} (hfa : mg "law" = some (.ref f)) (c : SaysF h K) : LamX.LawAtS PySem.Challenge.rw_flagsteps_k61_invalid_bytes w K CX0 14 63 "_law_script" mg f h := by
  have gg := c.glo X G
  have zz := c.free X G
  obtain ⟨t8, g8⟩ := He.int_ok X G (c.a.fact 0 (f := .int "MOST_LETTERS" 8) rfl)
  obtain ⟨t10, g10⟩ := He.int_ok X G (c.a.fact 1 (f := .int "MOST_NAMES" 10) rfl)
  obtain ⟨t40, g40⟩ := He.int_ok X G (c.a.fact 2 (f := .int "MOST_CLAUSES" 40) rfl)
  obtain ⟨tz, gL⟩ := He.str_ok X G (c.a.fact 3 (f := .str "LETTERS" letters) rfl)
  have kCls := He.cls_ok (c.a.fact 4 (f := .cls "Rules") rfl)
  have kN1 := He.noat_ok (c.a.fact 5 (f := .noat "Rules" "_names") rfl)
  have kN2 := He.noat_ok (c.a.fact 6 (f := .noat "Rules" "_clauses") rfl)
  have kMk := He.mkr_ok (c.a.fact 7 (f := .mkr "Rules") rfl)
  have mBR := He.meth_ok (c.a.fact 8 (f := .meth "Rules" "broken_clauses") rfl)
  have kClsD := He.cls_ok (c.a.fact 9 (f := .cls "Reader") rfl)
  have kNd1 := He.noat_ok (c.a.fact 10 (f := .noat "Reader" "numbers") rfl)
  have kNd2 := He.noat_ok (c.a.fact 11 (f := .noat "Reader" "offset") rfl)
  have kMkD := He.mkr_ok (c.a.fact 12 (f := .mkr "Reader") rfl)
  obtain ⟨t70, g70⟩ := He.int_ok X G (c.a.fact 13 (f := .int "FIRST_BYTE" 70) rfl)
  obtain ⟨t255, g255⟩ := He.int_ok X G (c.a.fact 14 (f := .int "GREATEST_BYTE" 255) rfl)
  obtain ⟨t200, g200⟩ := He.int_ok X G (c.a.fact 15 (f := .int "MOST_CHANGES" 200) rfl)
  have mTKE := He.meth_ok (c.a.fact 16 (f := .meth "Reader" "take") rfl)
  have mTK1X := He.meth_ok (c.a.fact 17 (f := .meth "Reader" "take_one_of") rfl)
  obtain ⟨dxNAM, FxNAM⟩ := c.dt 0 (x := "is_name") (j := 29)
  obtain ⟨dxCLA, FxCLA⟩ := c.dt 1 (x := "is_clause") (j := 30)
  obtain ⟨dxFUL, FxFUL⟩ := c.dt 2 (x := "fulfils") (j := 36)
  obtain ⟨dxAM, FxAM⟩ := c.dt 3 (x := "broken_among") (j := 37)
  obtain ⟨dxER, FxER⟩ := c.de 4 (C := "InvalidRules") (q := "InvalidRules.__init__") (j := 3)
  obtain ⟨dxES, FxES⟩ := c.de 5 (C := "InvalidState") (q := "InvalidState.__init__") (j := 7)
  obtain ⟨dxEI, FxEI⟩ := c.de 6 (C := "IllegalState") (q := "IllegalState.__init__") (j := 8)
  obtain ⟨dxEU, FxEU⟩ := c.de 7 (C := "UnknownSwitch") (q := "UnknownSwitch.__init__") (j := 6)
  obtain ⟨dxCHN, FxCHN⟩ := c.dt 8 (x := "check_names") (j := 31)
  obtain ⟨dxCHC, FxCHC⟩ := c.dt 9 (x := "check_clauses") (j := 32)
  obtain ⟨dxCHS, FxCHS⟩ := c.dt 10 (x := "check_state") (j := 33)
  obtain ⟨dxMK, FxMK⟩ := c.dr 11 (m := "__init__") (q := "Rules.__init__") (j := 0)
  obtain ⟨dxBR, FxBR⟩ := c.dr 12 (m := "broken_clauses") (q := "Rules.broken_clauses") (j := 6)
  obtain ⟨dxFN, FxFN⟩ := c.dg 13 (m := "names") (q := "Rules.names") (j := 1)
  obtain ⟨dxFCL, FxFCL⟩ := c.dg 14 (m := "clauses") (q := "Rules.clauses") (j := 2)
  obtain ⟨dxCHL, FxCHL⟩ := c.dt 15 (x := "check_legal") (j := 40)
  obtain ⟨dxTO, FxTO⟩ := c.dt 16 (x := "_law_told") (j := 66)
  obtain ⟨dxCSW, FxCSW⟩ := c.dt 17 (x := "check_switch") (j := 34)
  obtain ⟨dxDI, FxDI⟩ := c.dt 18 (x := "_law_dice") (j := 63)
  obtain ⟨dxNX, FxNX⟩ := c.dt 19 (x := "_law_next") (j := 64)
  obtain ⟨dxPK, FxPK⟩ := c.dt 20 (x := "_law_pick") (j := 65)
  obtain ⟨dxNM, FxNM⟩ := c.dt 21 (x := "_law_names") (j := 67)
  obtain ⟨dxCL, FxCL⟩ := c.dt 22 (x := "_law_clause") (j := 68)
  obtain ⟨dxKE, FxKE⟩ := c.dt 23 (x := "_law_keeps") (j := 69)
  obtain ⟨dxLAL, FxLAL⟩ := c.dt 24 (x := "_law_all") (j := 70)
  obtain ⟨dxLG, FxLG⟩ := c.dt 25 (x := "_law_legal") (j := 71)
  obtain ⟨dxRU, FxRU⟩ := c.dt 26 (x := "_law_rules") (j := 72)
  obtain ⟨dxEDE, FxEDE⟩ := c.de 27 (C := "DecodeError") (q := "DecodeError.__init__") (j := 21)
  obtain ⟨dxINU, FxINU⟩ := c.dt 28 (x := "is_number") (j := 28)
  obtain ⟨dxIBY, FxIBY⟩ := c.dt 29 (x := "_is_byte") (j := 45)
  obtain ⟨dxPKB, FxPKB⟩ := c.dt 30 (x := "pack_bytes") (j := 46)
  obtain ⟨dxUPB, FxUPB⟩ := c.dt 31 (x := "unpack_bytes") (j := 47)
  obtain ⟨dxCKS, FxCKS⟩ := c.dt 32 (x := "_checksum") (j := 48)
  obtain ⟨dxNUN, FxNUN⟩ := c.dt 33 (x := "_numbers_of_names") (j := 49)
  obtain ⟨dxNUC, FxNUC⟩ := c.dt 34 (x := "_numbers_of_clauses") (j := 50)
  obtain ⟨dxNUS, FxNUS⟩ := c.dt 35 (x := "_numbers_of_state") (j := 51)
  obtain ⟨dxENC, FxENC⟩ := c.dt 36 (x := "encode_rollout") (j := 52)
  obtain ⟨dxMD, FxMD⟩ := c.dd 37 (m := "__init__") (q := "Reader.__init__") (j := 0)
  obtain ⟨dxTKE, FxTKE⟩ := c.dd 38 (m := "take") (q := "Reader.take") (j := 1)
  obtain ⟨dxLCL, FxLCL⟩ := c.dt 39 (x := "_law_closed") (j := 74)
  obtain ⟨dxTK1X, FxTK1X⟩ := c.dd 40 (m := "take_one_of") (q := "Reader.take_one_of") (j := 2)
  obtain ⟨dxRDNX, FxRDNX⟩ := c.dt 41 (x := "_read_name") (j := 54)
  obtain ⟨dxRDNSX, FxRDNSX⟩ := c.dt 42 (x := "_read_names") (j := 55)
  obtain ⟨dxRDCX, FxRDCX⟩ := c.dt 43 (x := "_read_clause") (j := 56)
  obtain ⟨dxRDCSX, FxRDCSX⟩ := c.dt 44 (x := "_read_clauses") (j := 57)
  obtain ⟨dxRDSX, FxRDSX⟩ := c.dt 45 (x := "_read_state") (j := 58)
  obtain ⟨dxRDCHX, FxRDCHX⟩ := c.dt 46 (x := "_read_changes") (j := 59)
  obtain ⟨dxRDEX, FxRDEX⟩ := c.dt 47 (x := "_read_end") (j := 60)
  obtain ⟨dxDECX, FxDECX⟩ := c.dt 48 (x := "decode_rollout") (j := 61)
  obtain ⟨dxNRD, FxNRD⟩ := c.dt 49 (x := "_law_names_read") (j := 75)
  obtain ⟨dxLRD, FxLRD⟩ := c.dt 50 (x := "_law_read") (j := 76)
  obtain ⟨dxLVAV, FxLVAV⟩ := c.dt 51 (x := "_law_values") (j := 73)
  obtain ⟨dxLAW, FxLAW⟩ := c.dt 52 (x := "law") (j := 77)
  obtain ⟨oER, iER, tER⟩ := initB_ok (c.ex 0)
  obtain ⟨oES, iES, tES⟩ := initB_ok (c.ex 1)
  obtain ⟨oEI, iEI, tEI⟩ := initB_ok (c.ex 2)
  obtain ⟨oEU, iEU, tEU⟩ := initB_ok (c.ex 3)
  obtain ⟨oEDE, iEDE, tEDE⟩ := initB_ok (c.ex 4)
  have cS := crB_ok (c.ex 5)
  have fv := fvB_ok (c.ex 6)
  have tec := List.all_eq_true.mp (c.ex 7)
  have txm := List.all_eq_true.mp (c.ex 8)
  have tkv := List.all_eq_true.mp (c.ex 9)
  have tkt := List.all_eq_true.mp (c.ex 10)
  have txf := List.all_eq_true.mp (c.ex 11)
  have tnf := List.all_eq_true.mp (c.ex 12)
  obtain ⟨EIC1, EIC2, EIC3, EIC4⟩ := erB_ok (c.ex 13)
  have e14 := List.all_eq_true.mp (c.ex 16)
  have pFN := prB_ok (c.ex 17)
  have pFCL := prB_ok (c.ex 18)
  have hW := He.tupB_ok (c.ex 19)
  have nd : (tbL K).Nodup := of_decide_eq_true (c.ex 20)
  have nf : ∀ p ∈ fldH, PySem.W.findIn K (.ref (He.ga K p.1)) p.2 = some none := fun p hp => He.eqO_ok (e14 p hp)
  have hWd := wdB_ok (c.ex 14)
  have RQ := rqB_ok (c.ex 15)
  have hf : f = He.ga K "law" := by
    have z := gg "law" (by decide +kernel)
    rw [hfa] at z
    injection z with z
    injection z
  subst hf
  refine ⟨dxLAW, tfL.map (He.cT K), spLaw K [(He.cT K ("is_name", none)).2] [((He.cT K ("law", none)).2, lamQ "law")], fun p hp => ?_, fun p hp => ?_, fun p hp => ?_, fun s u => ?_, fun H a ns hl _ ht hS => ?_, fun base Xb Gb TB => ?_⟩
  · obtain ⟨q, hq, e⟩ := List.mem_map.mp hp
    rw [← e]
    exact c.empty q hq
  · obtain ⟨q, hq, e⟩ := List.mem_map.mp hp
    rw [← e]
    exact c.out q hq
  · obtain ⟨q, hq, e⟩ := List.mem_map.mp hp
    rw [← e]
    exact PySem.W.codeHd_of_K X (c.hd q hq)
  · exact FxLAW.bindsA (ps := ["_law_script"]) (fun _ _ _ _ _ _ us hl => match us, hl with | [_], _ => rfl) s [u] rfl
  · have tt : ∀ x, (x, none) ∈ tfL → H (He.cT K (x, none)).2 = some (.tbl #[]) := fun x hx => ht _ (List.mem_map_of_mem hx)
    refine ⟨a, ns, rfl, hl, hS, ⟨fun p hp => ?_, fun p hp => ?_⟩, fun _ => rfl⟩
    · rw [List.mem_singleton.mp hp]
      exact tab0 (tt _ (by decide +kernel))
    · rw [List.mem_singleton.mp hp]
      exact tabS0 (tt "law" (by decide +kernel))
  · have tb : ∀ x, (x, none) ∈ tfL → LamX.TabB base mg (He.cT K (x, none)).1 (He.cT K (x, none)).2 := fun x hx => TB _ (List.mem_map_of_mem hx)
    have tNam := tb "is_name" (by decide +kernel)
    have tLaw := tb "law" (by decide +kernel)
    have AP : Apart [(He.cT K ("is_name", none)).2] [((He.cT K ("law", none)).2, lamQ "law")] := apart2 nd
    have cNam := code_at FxNAM
    have cLaw := code_at FxLAW
    generalize hG : [(He.cT K ("is_name", none)).2] = GG at AP ⊢
    have hPN : (He.cT K ("is_name", none)).2 ∈ GG := by rw [← hG]; exact List.mem_singleton_self _
    generalize hLL : [((He.cT K ("law", none)).2, lamQ "law")] = LL at AP ⊢
    have hP3 : ((He.cT K ("law", none)).2, lamQ "law") ∈ LL := by rw [← hLL]; exact List.mem_singleton_self _
    clear hG hLL TB tb
    have zVE := zz "ValueError" (by decide +kernel)
    have zA := zz "all" (by decide +kernel)
    have zB := zz "bool" (by decide +kernel)
    have zb := zz "bytes" (by decide +kernel)
    have zE := zz "enumerate" (by decide +kernel)
    have zi := zz "int" (by decide +kernel)
    have zI := zz "isinstance" (by decide +kernel)
    have zL := zz "len" (by decide +kernel)
    have zl := zz "list" (by decide +kernel)
    have zX := zz "max" (by decide +kernel)
    have zM := zz "min" (by decide +kernel)
    have zR := zz "range" (by decide +kernel)
    have zV := zz "reversed" (by decide +kernel)
    have zS := zz "sorted" (by decide +kernel)
    have zs := zz "str" (by decide +kernel)
    have zT := zz "tuple" (by decide +kernel)
    have BC : BaseC K mg (He.ga K "StepError") := ⟨gg _ (by decide +kernel), cS, fv⟩
    have EIC : Er0 K mg "InvalidCount" := ⟨EIC1, gg _ (by decide +kernel), EIC2, EIC3, EIC4⟩
    have RDC0 : RdC K mg := ⟨kClsD, kNd1, kNd2, gg _ (by decide +kernel)⟩
    have NAM : Fd CX0 PG0 w K mg base "is_name" 1 (spIsName K GG LL) := ⟨_, _, _, gg _ (by decide +kernel), FxNAM.kp, ok_isName (He5.fun_of FxNAM) cNam ⟨tNam.code, tNam.bm, tNam.gP⟩ hPN AP zI zs zL zA gL g8, FxNAM.bindsN fun _ _ _ _ _ _ us hl => match us, hl with | [_], _ => rfl⟩
    have CLA : Fd CX0 PG0 w K mg base "is_clause" 1 (spIsClause K) := ⟨_, _, _, gg _ (by decide +kernel), FxCLA.kp, ok_isClause (He5.fun_of FxCLA) zI zT zL (gg "WORDS" (by decide +kernel)) hW, FxCLA.bindsN fun _ _ _ _ _ _ us hl => match us, hl with | [_, _], _ => rfl⟩
    have FUL : Fd CX0 PG0 w K mg base "fulfils" 1 (spFul K) := ⟨_, _, _, gg _ (by decide +kernel), FxFUL.kp, ok_fulfils (He5.fun_of FxFUL), FxFUL.bindsN fun _ _ _ _ _ _ us hl => match us, hl with | [_, _], _ => rfl⟩
    have AM : Fd CX0 PG0 w K mg base "broken_among" 2 (spAmong K GG LL) := ⟨_, _, _, gg _ (by decide +kernel), FxAM.kp, ok_among (He5.fun_of FxAM) zE FUL, FxAM.bindsN fun _ _ _ _ _ _ us hl => match us, hl with | [_, _], _ => rfl⟩
    have ER : Err PG0 w K mg base "InvalidRules" (spIR K (He.ga K "InvalidRules")) := ⟨oER, gg _ (by decide +kernel), _, _, _, iER, tER, ok_IR (He5.fun_of FxER) BC oER (nf ("InvalidRules", "part") (by decide +kernel)) (nf ("InvalidRules", "index") (by decide +kernel)), FxER.bindsN fun _ _ _ _ _ _ us hl => match us, hl with | [_, _, _], _ => rfl⟩
    have ES : Err PG0 w K mg base "InvalidState" (spIS K (He.ga K "InvalidState")) := ⟨oES, gg _ (by decide +kernel), _, _, _, iES, tES, ok_IS (He5.fun_of FxES) BC oES (nf ("InvalidState", "index") (by decide +kernel)), FxES.bindsN fun _ _ _ _ _ _ us hl => match us, hl with | [_, _], _ => rfl⟩
    have EI : Err PG0 w K mg base "IllegalState" (spIS K (He.ga K "IllegalState")) := ⟨oEI, gg _ (by decide +kernel), _, _, _, iEI, tEI, ok_IlS (He5.fun_of FxEI) BC oEI (nf ("IllegalState", "index") (by decide +kernel)), FxEI.bindsN fun _ _ _ _ _ _ us hl => match us, hl with | [_, _], _ => rfl⟩
    have EU : Err PG0 w K mg base "UnknownSwitch" (spUS K (He.ga K "UnknownSwitch")) := ⟨oEU, gg _ (by decide +kernel), _, _, _, iEU, tEU, ok_US (He5.fun_of FxEU) BC oEU (nf ("UnknownSwitch", "name") (by decide +kernel)), FxEU.bindsN fun _ _ _ _ _ _ us hl => match us, hl with | [_, _], _ => rfl⟩
    have CHN : Fd (L2.CX PG0 w) PG0 w K mg base "check_names" 3 (spChkNames K GG LL) := ⟨_, _, _, gg _ (by decide +kernel), FxCHN.kp, ok_chkNames (He5.fun_of FxCHN) zI zT zL zE g10 ER NAM, FxCHN.bindsN fun _ _ _ _ _ _ us hl => match us, hl with | [_], _ => rfl⟩
    have CHC : Fd (L2.CX PG0 w) PG0 w K mg base "check_clauses" 3 (spChkClauses K GG LL) := ⟨_, _, _, gg _ (by decide +kernel), FxCHC.kp, ok_chkClauses (He5.fun_of FxCHC) zI zT zE g40 ER CLA, FxCHC.bindsN fun _ _ _ _ _ _ us hl => match us, hl with | [_, _], _ => rfl⟩
    have CHS : Fd (L2.CX PG0 w) PG0 w K mg base "check_state" 3 (spChkState K GG LL) := ⟨_, _, _, gg _ (by decide +kernel), FxCHS.kp, ok_chkState (He5.fun_of FxCHS) zI zT zE ES, FxCHS.bindsN fun _ _ _ _ _ _ us hl => match us, hl with | [_, _], _ => rfl⟩
    have RC : RulC K mg := ⟨kCls, kN1, kN2, gg _ (by decide +kernel)⟩
    have MK : Mkr PG0 w K mg base GG LL := ⟨RC, _, _, _, kMk, ok_init (He5.fun_of FxMK) RC CHN CHC, FxMK.bindsN fun _ _ _ _ _ _ us hl => match us, hl with | [_, _, _], _ => rfl⟩
    have BR : Fm PG0 w K mg base "broken_clauses" 4 (spBroken K GG LL) := ⟨kCls, _, _, _, mBR, ok_broken (He5.fun_of FxBR) RC CHS AM, FxBR.bindsN fun _ _ _ _ _ _ us hl => match us, hl with | [_, _], _ => rfl⟩
    have FN : Fp PG0 w K mg base "names" "_names" := ⟨kCls, _, _, _, pFN, ok_names (He5.fun_of FxFN) RC, FxFN.bindsN fun _ _ _ _ _ _ us hl => match us, hl with | [_], _ => rfl⟩
    have FCL : Fp PG0 w K mg base "clauses" "_clauses" := ⟨kCls, _, _, _, pFCL, ok_clauses (He5.fun_of FxFCL) RC, FxFCL.bindsN fun _ _ _ _ _ _ us hl => match us, hl with | [_], _ => rfl⟩
    have CHL : Fd (L2.CX PG0 w) PG0 w K mg base "check_legal" 5 (spChkLegal K GG LL) := ⟨_, _, _, gg _ (by decide +kernel), FxCHL.kp, ok_chkLegal (He5.fun_of FxCHL) BR EI, FxCHL.bindsN fun _ _ _ _ _ _ us hl => match us, hl with | [_, _], _ => rfl⟩
    have kg5 : ∀ x ∈ kinds5, x ∈ gloN := by decide +kernel
    have TZ0 : Rz5 K mg := ⟨zI, zVE, gg _ (by decide +kernel), fun x hx => gg x (kg5 x hx), fun x hx => ecB_ok (tec x hx), fun x hx => isB_ok (txm x hx), fun x hx => isB_ok (tkv x hx), fun x hx y hy => isB_ok (List.all_eq_true.mp (tkt x hx) y hy), fun x hx hne => xfB_ok (by have z := txf x hx; rw [decide_eq_false hne, Bool.false_or] at z; exact z), fun x hx f hf => He.eqO_ok (List.all_eq_true.mp (tnf x hx) f hf)⟩
    have TO : TzD K mg := ⟨TZ0, _, _, (He5.fun_of FxTO), gg _ (by decide +kernel), FxTO.bindsN fun _ _ _ _ _ _ us hl => match us, hl with | [_], _ => rfl⟩
    have CSW : Fd (L2.CX PG0 w) PG0 w K mg base "check_switch" 3 (spChkSwitch K GG LL) := ⟨_, _, _, gg _ (by decide +kernel), FxCSW.kp, ok_chkSwitch (He5.fun_of FxCSW) EU, FxCSW.bindsN fun _ _ _ _ _ _ us hl => match us, hl with | [_, _], _ => rfl⟩
    have DI : Fd CX0 PG0 w K mg base "_law_dice" 1 (spDice K GG LL) := ⟨_, _, _, gg _ (by decide +kernel), FxDI.kp, ok_dice (He5.fun_of FxDI) zi zL, FxDI.bindsN fun _ _ _ _ _ _ us hl => match us, hl with | [_], _ => rfl⟩
    have NX : Fd CX0 PG0 w K mg base "_law_next" 1 (spTaken K GG LL) := ⟨_, _, _, gg _ (by decide +kernel), FxNX.kp, ok_next (He5.fun_of FxNX) zi zL, FxNX.bindsN fun _ _ _ _ _ _ us hl => match us, hl with | [_, _], _ => rfl⟩
    have PK : Fd CX0 PG0 w K mg base "_law_pick" 2 (spPick K GG LL) := ⟨_, _, _, gg _ (by decide +kernel), FxPK.kp, ok_pick (He5.fun_of FxPK) zL NX, FxPK.bindsN fun _ _ _ _ _ _ us hl => match us, hl with | [_, _], _ => rfl⟩
    have NM : Fd CX0 PG0 w K mg base "_law_names" 2 (spNames K GG LL) := ⟨_, _, _, gg _ (by decide +kernel), FxNM.kp, ok_names5 (He5.fun_of FxNM) zR zT NX, FxNM.bindsN fun _ _ _ _ _ _ us hl => match us, hl with | [_, _], _ => rfl⟩
    have CL : Fd CX0 PG0 w K mg base "_law_clause" 3 (spClause K GG LL) := ⟨_, _, _, gg _ (by decide +kernel), FxCL.kp, ok_clause5 (He5.fun_of FxCL) NX PK, FxCL.bindsN fun _ _ _ _ _ _ us hl => match us, hl with | [_, _], _ => rfl⟩
    have KE : Fd CX0 PG0 w K mg base "_law_keeps" 1 (spKeeps K) := ⟨_, _, _, gg _ (by decide +kernel), FxKE.kp, ok_keeps (He5.fun_of FxKE), FxKE.bindsN fun _ _ _ _ _ _ us hl => match us, hl with | [_, _], _ => rfl⟩
    have LAL : Fd CX0 PG0 w K mg base "_law_all" 1 (spAll5 K GG LL) := ⟨_, _, _, gg _ (by decide +kernel), FxLAL.kp, ok_all5 (He5.fun_of FxLAL) zL zR zS, FxLAL.bindsN fun _ _ _ _ _ _ us hl => match us, hl with | [_], _ => rfl⟩
    have LG : Fd CX0 PG0 w K mg base "_law_legal" 2 (spLegal5 K GG LL) := ⟨_, _, _, gg _ (by decide +kernel), FxLG.kp, ok_legal5 (He5.fun_of FxLG) LAL KE, FxLG.bindsN fun _ _ _ _ _ _ us hl => match us, hl with | [_, _], _ => rfl⟩
    have RU : Fd CX0 PG0 w K mg base "_law_rules" 6 (spRules5 K GG LL) := ⟨_, _, _, gg _ (by decide +kernel), FxRU.kp, ok_rules5 (He5.fun_of FxRU) zR zT zi NX NM PK LAL CL KE MK LG, FxRU.bindsN fun _ _ _ _ _ _ us hl => match us, hl with | [_, _, _], _ => rfl⟩
    have EDE : Err PG0 w K mg base "DecodeError" (spDE K (He.ga K "DecodeError")) := ⟨oEDE, gg _ (by decide +kernel), _, _, _, iEDE, tEDE, ok_DE (He5.fun_of FxEDE) BC oEDE (nf ("DecodeError", "offset") (by decide +kernel)), FxEDE.bindsN fun _ _ _ _ _ _ us hl => match us, hl with | [_, _], _ => rfl⟩
    have INU : Fd CX0 PG0 w K mg base "is_number" 1 (spNumD K) := ⟨_, _, _, gg _ (by decide +kernel), FxINU.kp, ok_isNumB (He5.fun_of FxINU) zI zi zB, FxINU.bindsN fun _ _ _ _ _ _ us hl => match us, hl with | [_], _ => rfl⟩
    have IBY : Fd CX0 PG0 w K mg base "_is_byte" 2 (spByte K) := ⟨_, _, _, gg _ (by decide +kernel), FxIBY.kp, ok_isByte (He5.fun_of FxIBY) g255 INU, FxIBY.bindsN fun _ _ _ _ _ _ us hl => match us, hl with | [_], _ => rfl⟩
    have PKB : Fd (L2.CX PG0 w) PG0 w K mg base "pack_bytes" 3 (spPack K GG LL) := ⟨_, _, _, gg _ (by decide +kernel), FxPKB.kp, ok_packB (He5.fun_of FxPKB) zI zl zA zb IBY EIC, FxPKB.bindsN fun _ _ _ _ _ _ us hl => match us, hl with | [_], _ => rfl⟩
    have UPB : Fd CX0 PG0 w K mg base "unpack_bytes" 1 (spUnpack K) := ⟨_, _, _, gg _ (by decide +kernel), FxUPB.kp, ok_unpackB (He5.fun_of FxUPB) zl, FxUPB.bindsN fun _ _ _ _ _ _ us hl => match us, hl with | [_], _ => rfl⟩
    have CKS : Fd CX0 PG0 w K mg base "_checksum" 1 (spCheck K) := ⟨_, _, _, gg _ (by decide +kernel), FxCKS.kp, ok_checkB (He5.fun_of FxCKS) zi, FxCKS.bindsN fun _ _ _ _ _ _ us hl => match us, hl with | [_], _ => rfl⟩
    have NUN : Fd CX0 PG0 w K mg base "_numbers_of_names" 1 (spNumN K GG LL) := ⟨_, _, _, gg _ (by decide +kernel), FxNUN.kp, ok_numN (He5.fun_of FxNUN) zL gL, FxNUN.bindsN fun _ _ _ _ _ _ us hl => match us, hl with | [_], _ => rfl⟩
    have NUC : Fd CX0 PG0 w K mg base "_numbers_of_clauses" 3 (spNumC K GG LL) := ⟨_, _, _, gg _ (by decide +kernel), FxNUC.kp, ok_numC (He5.fun_of FxNUC) zL FN FCL (gg "WORDS" (by decide +kernel)) hW hWd, FxNUC.bindsN fun _ _ _ _ _ _ us hl => match us, hl with | [_], _ => rfl⟩
    have NUS : Fd CX0 PG0 w K mg base "_numbers_of_state" 1 (spNumS K GG LL) := ⟨_, _, _, gg _ (by decide +kernel), FxNUS.kp, ok_numS (He5.fun_of FxNUS) zi g255, FxNUS.bindsN fun _ _ _ _ _ _ us hl => match us, hl with | [_, _], _ => rfl⟩
    have ENC : Fd (L2.CX PG0 w) PG0 w K mg base "encode_rollout" 6 (spEnc K GG LL) := ⟨_, _, _, gg _ (by decide +kernel), FxENC.kp, ok_encode (He5.fun_of FxENC) zL g70 g200 FN CHL CSW NUN NUC NUS PKB CKS EIC, FxENC.bindsN fun _ _ _ _ _ _ us hl => match us, hl with | [_, _, _], _ => rfl⟩
    have MD : MkrD PG0 w K mg base := ⟨_, _, _, kMkD, ok_rinit (He5.fun_of FxMD) RDC0, FxMD.bindsN fun _ _ _ _ _ _ us hl => match us, hl with | [_, _], _ => rfl⟩
    have TKE : FmC PG0 w K mg base (cD K) "take" 3 (spTake K GG LL) := ⟨kClsD, _, _, _, mTKE, ok_take (He5.fun_of FxTKE) zL RDC0 EDE, FxTKE.bindsN fun _ _ _ _ _ _ us hl => match us, hl with | [_, _, _], _ => rfl⟩
    have LCL : Fd CX0 PG0 w K mg base "_law_closed" 1 (spClosed K GG LL) := ⟨_, _, _, gg _ (by decide +kernel), FxLCL.kp, ok_closed (He5.fun_of FxLCL) zi, FxLCL.bindsN fun _ _ _ _ _ _ us hl => match us, hl with | [_], _ => rfl⟩
    have TK1X : FmC PG0 w K mg base (cD K) "take_one_of" 4 (spTakeOneX K GG LL) := ⟨kClsD, _, _, _, mTK1X, ok_takeOneX (He5.fun_of FxTK1X) zL TKE, FxTK1X.bindsN fun _ _ _ _ _ _ us hl => match us, hl with | [_, _], _ => rfl⟩
    have RDNX : Fd (L2.CX PG0 w) PG0 w K mg base "_read_name" 5 (spReadNameX K GG LL) := ⟨_, _, _, gg _ (by decide +kernel), FxRDNX.kp, ok_readNameX (He5.fun_of FxRDNX) zR g8 gL TKE TK1X, FxRDNX.bindsN fun _ _ _ _ _ _ us hl => match us, hl with | [_], _ => rfl⟩
    have RDNSX : Fd (L2.CX PG0 w) PG0 w K mg base "_read_names" 6 (spReadNamesX K GG LL) := ⟨_, _, _, gg _ (by decide +kernel), FxRDNSX.kp, ok_readNamesX (He5.fun_of FxRDNSX) zR g10 RDC0 EDE TKE RDNX, FxRDNSX.bindsN fun _ _ _ _ _ _ us hl => match us, hl with | [_], _ => rfl⟩
    have RDCX : Fd (L2.CX PG0 w) PG0 w K mg base "_read_clause" 5 (spReadClauseX K GG LL) := ⟨_, _, _, gg _ (by decide +kernel), FxRDCX.kp, ok_readClauseX (He5.fun_of FxRDCX) (gg "WORDS" (by decide +kernel)) hW TK1X, FxRDCX.bindsN fun _ _ _ _ _ _ us hl => match us, hl with | [_, _], _ => rfl⟩
    have RDCSX : Fd (L2.CX PG0 w) PG0 w K mg base "_read_clauses" 6 (spReadClausesX K GG LL) := ⟨_, _, _, gg _ (by decide +kernel), FxRDCSX.kp, ok_readClausesX (He5.fun_of FxRDCSX) zR zT g40 TKE RDCX, FxRDCSX.bindsN fun _ _ _ _ _ _ us hl => match us, hl with | [_, _], _ => rfl⟩
    have RDSX : Fd (L2.CX PG0 w) PG0 w K mg base "_read_state" 4 (spReadStateX K GG LL) := ⟨_, _, _, gg _ (by decide +kernel), FxRDSX.kp, ok_readStateX (He5.fun_of FxRDSX) zV g255 RDC0 EDE TKE, FxRDSX.bindsN fun _ _ _ _ _ _ us hl => match us, hl with | [_, _], _ => rfl⟩
    have RDCHX : Fd (L2.CX PG0 w) PG0 w K mg base "_read_changes" 5 (spReadChX K GG LL) := ⟨_, _, _, gg _ (by decide +kernel), FxRDCHX.kp, ok_readChX (He5.fun_of FxRDCHX) zR g200 TKE TK1X, FxRDCHX.bindsN fun _ _ _ _ _ _ us hl => match us, hl with | [_, _], _ => rfl⟩
    have RDEX : Fd (L2.CX PG0 w) PG0 w K mg base "_read_end" 4 (spReadEndX K GG LL) := ⟨_, _, _, gg _ (by decide +kernel), FxRDEX.kp, ok_readEndX (He5.fun_of FxRDEX) zL RDC0 EDE TKE CKS, FxRDEX.bindsN fun _ _ _ _ _ _ us hl => match us, hl with | [_], _ => rfl⟩
    have DECX : Fd (L2.CX PG0 w) PG0 w K mg base "decode_rollout" 7 (spDecX K GG LL) := ⟨_, _, _, gg _ (by decide +kernel), FxDECX.kp, ok_decodeX (He5.fun_of FxDECX) zI zb g70 RDC0 MD EDE MK UPB TKE RDNSX RDCSX RDSX RDCHX RDEX CHL, FxDECX.bindsN fun _ _ _ _ _ _ us hl => match us, hl with | [_], _ => rfl⟩
    have NRD : Fd CX0 PG0 w K mg base "_law_names_read" 1 (spNamesRd K GG LL) := ⟨_, _, _, gg _ (by decide +kernel), FxNRD.kp, ok_namesRd (He5.fun_of FxNRD) zL zR, FxNRD.bindsN fun _ _ _ _ _ _ us hl => match us, hl with | [_, _], _ => rfl⟩
    have LRD : Fd CX0 PG0 w K mg base "_law_read" 2 (spLawRd K GG LL) := ⟨_, _, _, gg _ (by decide +kernel), FxLRD.kp, ok_lawRd (He5.fun_of FxLRD) zL zR NRD LCL, FxLRD.bindsN fun _ _ _ _ _ _ us hl => match us, hl with | [_], _ => rfl⟩
    have LVAV : Fd CX0 PG0 w K mg base "_law_values" 3 (spValuesV K GG LL) := ⟨_, _, _, gg _ (by decide +kernel), FxLVAV.kp, ok_valuesV (He5.fun_of FxLVAV) zL zi FN FCL LCL, FxLVAV.bindsN fun _ _ _ _ _ _ us hl => match us, hl with | [_, _, _], _ => rfl⟩
    exact ok_law (He5.fun_of FxLAW) cLaw tLaw hP3 AP zL zR zM zX zI zT RQ DI NX PK RU MK FN LVAV LCL LRD ENC UPB PKB DECX TO
end
end FS
set_option maxHeartbeats 0
open PySem PySem.W PySem.Calls PyProof.Rows
theorem PySem.Challenge.cw_flagsteps_k61_invalid_bytes_holds : PySem.Challenge.rw_flagsteps_k61_invalid_bytes.Holds := by
  w_on; o_law
  refine HandSHeadRun.head_any (r := OpenLaw.row PySem.Challenge.rw_flagsteps_k61_invalid_bytes) (q := FS.qv) (H := FS.hkF) (ob := FS.obT) (M := 12000) (loose := FS.looseN) (d := HandSHeadRun.topDef (OpenLaw.row PySem.Challenge.rw_flagsteps_k61_invalid_bytes).prog 77) (kwd := []) FS.obT_eq
    (by kernel_rfl) (fun s => by kernel_rfl) FS.runF (by kernel_rfl) (by kernel_rfl) (by kernel_rfl) (by rfl) (by first | assumption | decide +kernel) (by decide +kernel) ⟨rfl, rfl, rfl, rfl, rfl, by decide +kernel⟩ ?hw ?hc
  case hw => w_witness2
  case hc =>
    refine LamX.walk_ofTsE (l := PySem.Challenge.rw_flagsteps_k61_invalid_bytes) (n := 63) (k := 14) (x := "_law_script") (CX := fun _ => L2.CX0) rfl (by decide) (by kernel_rfl) ⟨rfl, by decide, by decide⟩ ?F (fun _ _ _ _ _ z => z)
    intro w mg fa h Y G hmg0
    obtain ⟨K, KX, c⟩ := Y
    have hmg : mg ("law" : PySem.Str) = some (.ref fa) := by
      have e : (HandSHeadRun.topDef (OpenLaw.row PySem.Challenge.rw_flagsteps_k61_invalid_bytes).prog 77).name = ("law" : PySem.Str) := by kernel_rfl
      rw [← e]
      exact hmg0
    exact ⟨K, KX, FS.facts w KX G hmg c⟩

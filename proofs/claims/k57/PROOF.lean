import PyProof.Rows.All
import HandS.ForMost
import HandS.AnyAll
import HandS.GenList
import HandS.EndTab
import HandS.SetBool
import HandS.Strs
import HandS.WordsExc
import HandS.Style
import HandS.IsInst
import HandS.Zip
import HandS.Wide
import HandS.TupAny
import HandS.SetKeys
import HandS.Gcd
import KE.KMathGC
import KE.GoesEnum
import KE.GoesEnumKw
import KE.GoesMore
import KE.GoesZip
import HandS.Iter
import KE.DataMinMax
import HandS.Conv
import PyProof.Rows.FactsT3
import KE.KStateDown
import HandS.Ends
import HandS.Head0
import HandS.Head1
import HandS.Head2
import HandS.HeadEnd
import HandS.HeadHook1
import HandS.HeadHook2
import HandS.HeadHook3
import HandS.HeadHook4
import HandS.HeadWalk
import HandS.Rev
import HandS.StrMore
import HandS.Flow
import HandS.ExcIs
import HandS.SetFor
import HandS.RaiseMore
import HandS.SortKw
import KE.KTupSum
import HandS.SortInts
import KE.KIndexOf
import PyProof.ReprRoads
import KE.DataFind
import HandS.TupSets
import KE.KDictZip
import HandS.Star
import HandS.NamedTupSort
import PyProof.ZipIter
import HandS.NoneIn
import HandS.TryMany
import PyProof.SetRoads
import HandS.MakeKwOnly
import HandS.Deep
import HandS.ExcInit
import HandS.ExcField
import KE.KExcIs
import HandS.WideBits
import HandS.TupLen
import HandS.Walk
import HandS.More
import HandS.WrittenGet
import HandS.Text
import PyProof.Rows.StrMul
import PyProof.StrBlock2
import HandS.Codes
import OpenK.XHead
import PySem.Challenge.RW_schemebound_k57_words_of_a_session
set_option Elab.async false
set_option linter.all false
set_option maxRecDepth 100000
set_option maxHeartbeats 3900000
namespace Gx
open PySem PySem.Spec PyProof.Rows L2 GxR GenW
/-- names of a generator expression: its own ones with their places in N, or captured ones -/
structure Nm (N : List Str) (sc gs : Scope) (own : List (Str × Nat)) : Prop where
  kind : gs.kind = .function
  co : gs.isCoroutine = false
  uniq : ∀ y ∈ gs.names, gs.names.lookup y.1 = some y.2
  nocell : ∀ y ∈ gs.names, y.2 ≠ .cell
  dot : gs.names.lookup (".0" : Str) = some .local
  ix : ∀ q ∈ own, N[q.2]? = some q.1
  free : ∀ y ∈ gs.names, y.2 = .free → sc.names.lookup y.1 = some .cell ∨ sc.names.lookup y.1 = some .free
  own : ∀ y ∈ gs.names, y.2 = .local → y.1 ∈ own.map (·.1) ∨ y.1 ∉ N
/-- the context of its frame -/
abbrev gctx (X : Cx) (A2 : Around) (s : Shared) (H : Hp) (cenv : Env) (fp : List Addr) (pn : List (Addr × Obj)) : Cx :=
  { X with A := A2.deeper cenv, s_0 := s, H_0 := H, env := cenv, outer := X.stack, stack := cenv :: X.stack, ex := fp, fn := fun _ => false, calm := true, pn := pn, xe := fun _ _ => False }
abbrev genv (X : Cx) (gs : Scope) (C : Addr) (code : Value) : Env := genEnv gs (cloFrom X.env.cells gs.names []) C code builtinsNs X.env
section
variable {X : Cx} {H : Hp} {s : Shared} {σ : L2.St} {pins : List (Addr × Obj)}
theorem g_start {gs : Scope} {own : List (Str × Nat)} {fp : List Addr} {A2 : Around} {go : Obj} {it code : Value} {s5 : Shared}
    (I : Inv X pins σ H s) (ok : Nm X.N X.env.scope gs own) (hN : X.N.Nodup) (hh : A2.handled = none) (hA : A2.frames = X.A.frames)
    (hfp : ∀ b ∈ fp, FpOk X pins H b ∧ b < s.heap.objs.size)
    (k : ∀ b o, s.heap.get? b = some o → s5.heap.get? b = some o)
    (hns : s5.heap.Ns s.heap.objs.size (fun y => if y = ".0" then some it else none))
    (hgo : s5.heap.get? (s.heap.objs.size + 1) = some go) (hgd : ∀ v, go.data ≠ .cell v) (hos : s5.os = s.os) (hb : AllBare s5.gens) :
    Inv (gctx X A2 s H (genv X gs s.heap.objs.size code) fp [(s.heap.objs.size + 1, go)]) [] (wipe σ (own.map (·.2))) H s5 := by
  have hfree : ∀ y ∈ gs.names, y.2 = .free → ∃ c, X.env.cells.lookup y.1 = some c := fun y hy e => by
    rcases ok.free y hy e with q | q
    · exact I.ok.has _ (.inl q)
    · exact I.ok.has _ (.inr q)
  have cm : ∀ {y c}, (genv X gs s.heap.objs.size code).cells.lookup y = some c → X.env.cells.lookup y = some c ∧ c < s.heap.objs.size ∧ (y, NameKind.free) ∈ gs.names := fun {y c} e => by
    have e' : (cloFrom X.env.cells gs.names []).lookup y = some c := e
    rcases cloFrom_mem (PySem.mem_of_lookup e') with hm | ⟨h1, rfl⟩
    · cases hm
    · obtain ⟨c0, hc⟩ := hfree _ h1 rfl
      obtain ⟨w0, z⟩ := I.cell _ _ hc
      rw [hc]
      exact ⟨rfl, z.lt, h1⟩
  have look : ∀ {y}, (y, NameKind.free) ∈ gs.names → ∃ c, (genv X gs s.heap.objs.size code).cells.lookup y = some c := fun {y} hy =>
    mem_lookup (cloFrom_has (cells := X.env.cells) (acc := []) hy)
  have fresh : H s.heap.objs.size = none := I.hok.fresh (Nat.le_refl _)
  have fslt : ∀ b ∈ frs X.stack, b < s.heap.objs.size := fun b hm => by
    obtain ⟨_, o, ho, _⟩ := I.stack.mem hm
    exact Heap.lt_size ho
  refine ⟨⟨I.ok.mod, ok.kind, I.ok.glob, rfl, Nat.le_refl _, fun x y c e1 e2 => I.ok.inj x y c (cm e1).1 (cm e2).1, fun y hy => ?_, fun y c z _ => ?_, fun _ => hh,
    Around.frames_deeper (hA.trans I.ok.frames), .inr ⟨rfl, rfl⟩, fun b hb' => ⟨?_, fun x c e z => ?_⟩, I.bs, Nat.le_trans I.ok.bsz I.sz, fun b o e hb' => ?_, fun b hb' z => ?_, I.stack, I.stkFree⟩,
    hos, hb, Un.kept k, ⟨_, hns, fun i y v e1 e2 e3 => ?_⟩, fun y c e => ?_, fresh, fun y c e => I.freeC y c (cm e).1, fun p hp => ?_, I.hok.kept k, by rw [wipe_length]; exact I.len⟩
  · rcases hy with hy | hy
    · have hy' : gs.names.lookup y = some .cell := hy
      exact absurd rfl (ok.nocell _ (PySem.mem_of_lookup hy'))
    · have hy' : gs.names.lookup y = some .free := hy
      exact look (PySem.mem_of_lookup hy')
  · cases z
  · exact Nat.ne_of_lt (hfp b hb').2
  · exact (hfp b hb').1.2.2.2.2.1 x c (cm e).1 z
  · rcases (hfp b hb').1.2.2.2.1 with z | z
    · exact I.ok.noex b o e z
    · exact (Nat.lt_irrefl _ (Nat.lt_of_lt_of_le (Heap.lt_size e) (Nat.le_trans I.ok.bsz z))).elim
  · obtain z | z := List.mem_cons.mp (I.stkSub b z)
    · exact (hfp b hb').1.2.1 z
    · exact (hfp b hb').1.2.2.1 z
  · have ⟨e2, hne⟩ := wipe_some e2
    have hfr : gs.names.lookup y = some .free := by
      have e3 : gs.names.lookup y = some .local ∨ gs.names.lookup y = some .cell ∨ gs.names.lookup y = some .free := e3
      rcases e3 with e3 | e3 | e3
      · rcases ok.own _ (PySem.mem_of_lookup e3) rfl with e' | e'
        · have ⟨p, hp, hpy⟩ := List.mem_map.mp e'
          have e4 := ok.ix p hp
          have hpy' : p.1 = y := hpy
          rw [hpy'] at e4
          exact absurd (List.mem_map.mpr ⟨p, hp, nodup_ix hN e4 e1⟩) hne
        · exact absurd (List.mem_of_getElem? e1) e'
      · exact absurd rfl (ok.nocell _ (PySem.mem_of_lookup e3))
      · exact e3
    have hm := PySem.mem_of_lookup hfr
    obtain ⟨m, hn, hl⟩ := I.loc
    have hvis : Vis X.env.scope y := (ok.free _ hm rfl).elim (fun q => .inr (.inl q)) fun q => .inr (.inr q)
    obtain ⟨u, r, q⟩ := hl i y v e1 e2 hvis
    obtain ⟨c, h1⟩ := look hm
    refine ⟨u, r, .inr ⟨.inr hfr, c, h1, ?_⟩⟩
    rcases q with ⟨kk, _⟩ | ⟨_, c', e', z⟩
    · have kk : X.env.scope.names.lookup y = some .local := kk
      rcases ok.free _ hm rfl with k' | k' <;> (rw [show X.env.scope.names.lookup y = _ from k'] at kk; cases kk)
    · have e5 := (cm h1).1
      rw [e'] at e5
      cases e5
      exact z.keeps k
  · obtain ⟨w, z⟩ := I.cell y c (cm e).1
    exact ⟨w, z.keeps k⟩
  · have hp' : p = (s.heap.objs.size + 1, go) := by simpa using hp
    subst hp'
    refine ⟨hgo, I.hok.fresh (Nat.le_succ _), Nat.succ_ne_self _, fun z => ?_, hgd⟩
    have := fslt _ z
    exact absurd this (by show ¬ (s.heap.objs.size + 1 < s.heap.objs.size); omega)
end
end Gx
namespace Gx
open PySem PySem.Spec PyProof.Rows L2 GxR GenW
theorem over_gen {A : Around} {elt : Expr} {gens : List Comprehension} {scope : Scope} {pos : Pos} {it acc : Value} {cenv : Env} :
    A.over (.compLoop (.GeneratorExp elt gens scope pos) 0 it acc cenv) [] = A.deeper cenv := by
  first
    | rfl
    | (obtain ⟨hd, d, fr, gs, u⟩ := A; simp [Code.cUnits, Around.over, Around.deeper, marksOver, frameCount, unitsOf, envsOf, guardsOf, pushEnvs, pushGuards, Code.envs, Code.env?, Code.isFrame, Code.guards, Code.isGuard, Code.weight, Code.frames, Code.isCreation, Code.isCaller])
/-- what a turn is to do: W by the turn, a measure, what is still to be handed out, the heap -/
def Turns (J : It) (g : TG) (tt : TT) (te : TE) (σw : L2.St) (vs : List Nat) (W : Nat → Nat → List V → Hp → Prop) : Prop :=
  ∀ i m r H, W i m r H → (J.stop i H ∧ r = []) ∨ (J.go i H ∧ ∀ x H', J.yld i H x H' → g x σw H' fun σ2 H2 => wipe σ2 vs = σw ∧ tt σ2 H2 fun b H3 =>
    if b = true then te σ2 H3 fun y H4 => ∃ m' r', m' < m ∧ r = y :: r' ∧ W (i + 1) m' r' H4 else ∃ m', m' < m ∧ W (i + 1) m' r H3)
section
variable (Xg : Cx) (σw : L2.St) (fp Ss : List Addr) (ys : List V) (W : Nat → Nat → List V → Hp → Prop)
def Kept (s₀ s : Shared) : Prop := ∀ b ∈ Ss, ∀ o, s₀.heap.get? b = some o → s.heap.get? b = some o
def FG : Nat → Shared → Shared → Prop := fun n s₀ s => n = 0 ∧ Kept Ss s₀ s ∧ ∃ pl H i m, pl.map (·.1) = Ss ∧ Inv Xg pl σw H s ∧ W i m [] H
def YG : Protocol := fun n s₀ v s kap => Kept Ss s₀ s ∧ ∃ y r' i m H pl, pl.map (·.1) = Ss ∧ n = List.length r' ∧ RelV y v ∧ Inv Xg pl σw H s ∧ (y :: r') <:+ ys ∧ W i m r' H ∧
  ∀ s'' pl'', pl''.map (·.1) = Ss → Inv Xg pl'' σw H s'' → (∀ b ∈ fp, ∀ o, s.heap.get? b = some o → s''.heap.get? b = some o) → kap (.send .none) s''
def RG : GenEnd := fun n s₀ r s => ((r = .ok (.ret .none) ∨ r = .ok .next) ∧ FG Xg σw Ss W n s₀ s) ∨ ∃ e, r = .error e ∧ (fun (_ : Value) (_ : Shared) => False) e s
end
section
variable {X : Cx} {A2 : Around} {s4 : Shared} {H4 : Hp} {cenv : Env} {fp Ss : List Addr} {pn : List (Addr × Obj)} {σw : L2.St} {ys : List V} {W : Nat → Nat → List V → Hp → Prop}
  {elt tg iter : Expr} {ifs : List Expr} {scope : Scope} {pos : Pos} {J : It} {it : Addr} {tn : Nat → Heap → Prop} {g : TG} {tt : TT} {te : TE} {vs : List Nat}
theorem seg_turns (T : Turn X.prog X.w X.K tg J fp it tn) (hco : cenv.scope.isCoroutine = false)
    (hSs : ∀ b ∈ Ss, b ∉ fp) (hpn : ∀ p ∈ pn, p.1 ∉ fp)
    (pg : PG (gctx X A2 s4 H4 cenv fp pn) tg g) (pt : PTs (gctx X A2 s4 H4 cenv fp pn) ifs tt) (pe : PE (gctx X A2 s4 H4 cenv fp pn) elt te)
    (hv : ∀ σ2 : L2.St, wipe σ2 vs = σw → (∀ (j : Nat) v, σw[j]? = some (some v) → σ2[j]? = some (some v)) ∧ σw.length = σ2.length)
    (turn : Turns J g tt te σw vs W) :
    ∀ (m i : Nat) (r : List V) (H : Hp) (s₀ s : Shared) (pl : List (Addr × Obj)), W i m r H → r <:+ ys → pl.map (·.1) = Ss → (∀ p ∈ pl, s₀.heap.get? p.1 = some p.2) →
      Inv (gctx X A2 s4 H4 cenv fp pn) pl σw H s → tn i s.heap → (∀ b ∈ fp, H b = none) →
      Seg (model X.prog X.w) A2 (RG (gctx X A2 s4 H4 cenv fp pn) σw Ss W) (YG (gctx X A2 s4 H4 cenv fp pn) σw fp Ss ys W) r.length s₀
        (.compLoop (.GeneratorExp elt [⟨tg, iter, ifs, 0⟩] scope pos) 0 (.ref it) .none cenv)
        ((model X.prog X.w).den (.compLoop (.GeneratorExp elt [⟨tg, iter, ifs, 0⟩] scope pos) 0 (.ref it) .none cenv)) [] s := by
  intro m
  induction m
      using Nat.strongRecOn with
  | ind m ih =>
    intro i r H s₀ s pl w hsuf hpl h0 I st fr
    have kept_of : ∀ {pl' σ' H' s'}, Inv (gctx X A2 s4 H4 cenv fp pn) (pl ++ pl') σ' H' s' → Kept Ss s₀ s' := fun {pl' σ' H' s'} I' b hb o e => by
      rw [← hpl] at hb
      obtain ⟨p, hp, rfl⟩ := List.mem_map.mp hb
      have e2 := h0 p hp
      rw [e] at e2
      cases e2
      exact (I'.pin p (List.mem_append_right _ (List.mem_append_left _ hp))).1
    have plfp : ∀ p ∈ pl, p.1 ∉ fp := fun p hp => hSs p.1 (by rw [← hpl]; exact List.mem_map.mpr ⟨p, hp, rfl⟩)
    have stat : ∀ {σ' H' s'}, Inv (gctx X A2 s4 H4 cenv fp pn) pl σ' H' s' → (∀ b ∈ fp, H' b = none) → ∀ b ∈ fp, FpOk (gctx X A2 s4 H4 cenv fp pn) pl H' b := fun {σ' H' s'} I' hn b hb =>
      ⟨hn b hb, (I'.ok.exf b hb).1, I'.ok.exfs b hb, .inl hb, fun x c e => (I'.ok.exf b hb).2 x c e, fun p hp z => by
        obtain hp | hp := List.mem_append.mp hp
        · exact hpn p hp (by rw [z]; exact hb)
        · exact plfp p hp (by rw [z]; exact hb)⟩
    show Seg _ A2 _ _ _ s₀ _ ((compTurn (.GeneratorExp elt [⟨tg, iter, ifs, 0⟩] scope pos) 0 (.ref it) .none cenv).onRaise (leaving cenv)) [] s
    rw [compTurn_gen]
    rw [Sem.onRaise_eq_wrap]
    refine seg_bind_wrap ?_
    refine wpAny_standAt ?_
    rcases turn i m r H w with ⟨stop, rnil⟩ | ⟨go, step⟩
    · subst rnil
      refine seg_bind_wrap ?_
      rw [over_gen]
      refine thnF (T.done (gctx X A2 s4 H4 cenv fp pn) rfl rfl rfl rfl i pl s σw H (fun _ _ => False) I (stat I fr) st stop) fun q s6 hq => ?_
      obtain ⟨rfl, I6⟩ := hq
      refine seg_end (.ok .next) (.inl ⟨.inr rfl, rfl, ?_, pl, H, i, m, hpl, I6, w⟩)
      exact kept_of (pl' := []) (by rw [List.append_nil]; exact I6)
    · refine seg_bind_wrap ?_
      rw [over_gen]
      refine thnF (T.item (gctx X A2 s4 H4 cenv fp pn) rfl rfl rfl rfl i pl s σw H (fun _ _ => False) I (stat I fr) st go) fun q s6 hq => ?_
      obtain ⟨u, rfl, h6⟩ := hq
      refine seg_bind_wrap ?_
      rw [over_gen]
      refine thnF h6 fun _ s7 h7 => ?_
      obtain ⟨x, H7, I7, r7, y7, st7, n7⟩ := h7
      have I7' := I7.pinned (stat I7 n7) fun b hb => T.obj _ _ st7 b hb
      refine seg_bind_wrap ?_
      rw [over_gen]
      refine thnF (pg.run _ s7 σw H7 x u _ I7' r7 (step x H7 y7)) fun _ s8 h8 => ?_
      obtain ⟨σ8, H8, I8, hw8, q8⟩ := h8
      refine seg_bind_wrap ?_
      rw [over_gen]
      refine thnF (pt.run _ s8 σ8 H8 _ I8 q8) fun b s9 h9 => ?_
      obtain ⟨H9, I9, q9⟩ := h9
      have pin' : ∀ {σ' H' s'}, Inv (gctx X A2 s4 H4 cenv fp pn) (pl ++ pinsAt fp s7.heap) σ' H' s' → ∀ b ∈ fp, ∀ o, s7.heap.get? b = some o → s'.heap.get? b = some o ∧ H' b = none := fun {σ' H' s'} I' b hb o e =>
        have z := I'.pin (b, o) (List.mem_append.mpr (.inr (List.mem_append.mpr (.inr (mem_pinsAt hb e)))))
        ⟨z.1, z.2.1⟩
      have frs' : ∀ {σ' H' s'}, Inv (gctx X A2 s4 H4 cenv fp pn) (pl ++ pinsAt fp s7.heap) σ' H' s' → ∀ b ∈ fp, H' b = none := fun {σ' H' s'} I' b hb => by
        obtain ⟨o, e, -⟩ := T.obj _ _ st7 b hb
        exact (pin' I' b hb o e).2
      have weak' : ∀ {H' s'}, Inv (gctx X A2 s4 H4 cenv fp pn) (pl ++ pinsAt fp s7.heap) σ8 H' s' → Inv (gctx X A2 s4 H4 cenv fp pn) pl σw H' s' := fun {H' s'} I' =>
        (I'.unpinned).weak (hv σ8 hw8).2 fun j v e => (hv σ8 hw8).1 j v e
      cases b with
      | false =>
        simp only [if_false, Bool.false_eq_true] at q9 ⊢
        obtain ⟨m', hm, w'⟩ := q9
        exact seg_again rfl (ih m' hm (i + 1) r H9 s₀ s9 pl w' hsuf hpl h0 (weak' I9) (T.keep _ _ _ st7 fun b hb o e => (pin' I9 b hb o e).1) (frs' I9))
      | true =>
        simp only [if_true] at q9 ⊢
        have hy : ∀ v, yieldOut cenv v = yieldValue v := fun v => by simp only [hco, yieldOut, if_false, Bool.false_eq_true]
        simp only [hy]
        rw [Sem.bind_eq_wrap', Sem.bind_eq_wrap']
        rw [Sem.wrap_wrap, Sem.wrap_wrap]
        refine seg_wrap ?_
        rw [over_gen]
        refine thnF (pe.run _ s9 σ8 H9 _ I9 q9) fun z s10 h10 => ?_
        obtain ⟨y, H10, I10, r10, m', r', hm, rfl, w'⟩ := h10
        have hsuf' : r' <:+ ys := (List.suffix_cons y r').trans hsuf
        rw [List.length_cons]
        refine seg_at (seg_yield rfl rfl rfl ⟨kept_of I10, y, r', i + 1, m', H10, _, hpl, rfl, r10, weak' I10, hsuf, w', fun s'' pl'' hpl'' I'' hal => ?_⟩)
        refine seg_again rfl (ih m' hm (i + 1) r' H10 s'' s'' pl'' w' hsuf' hpl'' (fun p hp => (I''.pin p (List.mem_append_right _ hp)).1) I'' ?_ (frs' I10))
        exact T.keep _ _ _ st7 fun b hb o e => hal b hb o (pin' I10 b hb o e).1
theorem seg_start (T : Turn X.prog X.w X.K tg J fp it tn) {r : List V} {s₀ s : Shared}
    (st : tn 0 s.heap)
    (loop : Seg (model X.prog X.w) A2 (RG (gctx X A2 s4 H4 cenv fp pn) σw Ss W) (YG (gctx X A2 s4 H4 cenv fp pn) σw fp Ss ys W) r.length s₀
        (.compLoop (.GeneratorExp elt [⟨tg, iter, ifs, 0⟩] scope pos) 0 (.ref it) .none cenv)
        ((model X.prog X.w).den (.compLoop (.GeneratorExp elt [⟨tg, iter, ifs, 0⟩] scope pos) 0 (.ref it) .none cenv)) [] s) :
    Seg (model X.prog X.w) A2 (RG (gctx X A2 s4 H4 cenv fp pn) σw Ss W) (YG (gctx X A2 s4 H4 cenv fp pn) σw fp Ss ys W) r.length s₀
        (.compStart (.GeneratorExp elt [⟨tg, iter, ifs, 0⟩] scope pos) 0 (.ref it) .none cenv)
        ((model X.prog X.w).den (.compStart (.GeneratorExp elt [⟨tg, iter, ifs, 0⟩] scope pos) 0 (.ref it) .none cenv)) [] s := by
  show Seg _ A2 _ _ _ s₀ _ ((compStart (.GeneratorExp elt [⟨tg, iter, ifs, 0⟩] scope pos) 0 (.ref it) .none cenv).onRaise (leaving cenv)) [] s
  unfold compStart
  rw [Sem.onRaise_eq_wrap]
  show Seg _ A2 _ _ _ s₀ _ ((ask >>= _).wrap _ _ _ _) [] s
  refine seg_bind_wrap ?_
  refine wpAny_askSetting ?_
  split
  · exact seg_again rfl loop
  · first
      | exact seg_bind_wrap (wpAny_rule (seg_bind_wrap (wpAny_standAt (seg_bind_wrap (T.self _ 0 s _ _ st (seg_again rfl loop))))))
      | (refine seg_bind_wrap (wpAny_rule ?_); show Seg _ A2 _ _ _ s₀ _ ((standAt iter.pos >>= _).wrap _ _ _ _) [] s
         exact seg_bind_wrap (wpAny_standAt (seg_bind_wrap (T.self _ 0 s _ _ st (seg_again rfl loop)))))
/-- a generator has been made, it has not begun -/
structure Born (X : Cx) (pins : List (Addr × Obj)) (σ : L2.St) (H : Hp) (fp : List Addr) (it : Addr) (tn : Nat → Heap → Prop) (e : Expr) (scope : Scope) (s4 : Shared) (code : Value) (go : Obj) (s5 : Shared) : Prop where
  inv : Inv X pins σ H s4
  fps : ∀ b ∈ fp, FpOk X pins H b ∧ b < s4.heap.objs.size
  keep : ∀ b o, s4.heap.get? b = some o → s5.heap.get? b = some o
  ns : s5.heap.Ns s4.heap.objs.size (fun y => if y = ".0" then some (.ref it) else none)
  obj : s5.heap.get? (s4.heap.objs.size + 1) = some go
  gen : ∀ h : Heap, h.get? (s4.heap.objs.size + 1) = some go → h.IsGen (s4.heap.objs.size + 1) s4.gens.size
  dat : ∀ v, go.data ≠ .cell v
  os : s5.os = s4.os
  bare : AllBare s5.gens
  fresh : s5.gens[s4.gens.size]? = some (.fresh (.compStart e 0 (.ref it) .none (genv X scope s4.heap.objs.size code)))
  st : tn 0 s5.heap
end
section
variable {X : Cx} {H : Hp} {s : Shared} {σ : L2.St} {pins : List (Addr × Obj)}
theorem gen_make {c P : Addr} {k : Nat} {elt tg iter : Expr} {ifs : List Expr} {scope : Scope} {own : List (Str × Nat)} {gpos : Pos} {wi : TI} {R : It → Hp → Prop} {Q' : Value → Shared → Prop}
    (hr : Room k X.A) (TB : TabB X.base X.mg c P) (hcode : X.env.code = .ref c) (nm : Nm X.N X.env.scope scope own) (hi : PI X tg iter wi)
    (hs : ∀ v, genFold iter X.env v = pure v) (I : Inv X pins σ H s) (h : wi σ H fun J H1 => TabG H1 P ∧ R J H1)
    (hQ : ∀ J H1 H2 fp it tn s4 code go s5, R J H1 → Tabbed P H1 H2 → Turn X.prog X.w X.K tg J fp it tn →
      Born X pins σ H2 fp it tn (.GeneratorExp elt [⟨tg, iter, ifs, 0⟩] scope gpos) scope s4 code go s5 → Q' (.ref (s4.heap.objs.size + 1)) s5) :
    wpAny (model X.prog X.w) X.A (eval (.GeneratorExp elt [⟨tg, iter, ifs, 0⟩] scope gpos) X.env) Q' X.xe s := by
  have hfree : ∀ y ∈ scope.names, y.2 = .free → ∃ c, X.env.cells.lookup y.1 = some c := fun y hy e => (nm.free y hy e).elim (fun q => I.ok.has _ (.inl q)) fun q => I.ok.has _ (.inr q)
  refine wpAny_GeneratorExp_make nm.co (closure_ok hfree) nm.nocell nm.dot nm.kind (by have := hr.dp; omega) ?_ hs
  refine thn (hi.run pins s σ H _ I h) fun xv s1 hx => thn hx fun itv s2 h2 => ?_
  obtain ⟨it, fp, tn, J, H1, rfl, I2, T, st2, f2, ⟨ps, hP, ht⟩, hR⟩ := h2
  have hPs : s2.heap.get? P = some { cls := .none, data := .fields ps } := I2.hok P _ hP
  have cd : PySem.W.CodeHd s2.heap c P := TB.code.keeps fun b u e => I2.bk b u e
  have lim2 : s2.heap.NoLimit := I2.nolimit
  have hlt2 : ∀ b ∈ fp, b < s2.heap.objs.size := fun b hb => by
    obtain ⟨o, e, -⟩ := T.obj _ _ st2 b hb
    exact Heap.lt_size e
  have nfP : ∀ b ∈ fp, b ≠ P := fun b hb z => by
    have := (f2 b hb).1
    rw [z, hP] at this
    cases this
  have cont : ∀ (code : Value) (h3 : Heap) (tk : Nat) (ps' : Array Value), Heap.ExtBut P s2.heap h3 → s2.heap.objs.size ≤ h3.objs.size → h3.get? P = some { cls := .none, data := .fields ps' } → (∃ more, ps' = ps ++ more) → TriplesOk ps'.toList →
      wpAny (model X.prog X.w) X.A (builtinsFor X.env.globals X.env.builtins) (fun bq s₄ =>
        ∀ h', h'.Ns s₄.heap.objs.size (fun y => if y = ".0" then some (.ref it) else none) → Heap.SameBut s₄.heap.objs.size (s₄.heap.push { cls := .type "frame", data := .dict #[] }) h' →
          Q' (.ref h'.objs.size) { s₄ with
            gens := s₄.gens.push (.fresh (.compStart (.GeneratorExp elt [⟨tg, iter, ifs, 0⟩] scope gpos) 0 (.ref it) .none (genEnv scope (cloFrom X.env.cells scope.names []) s₄.heap.objs.size code bq X.env))),
            toks := s₄.toks + 1 + 1 + 1,
            heap := h'.push { cls := .type "generator", data := .fields #[.int s₄.gens.size 0, .str "<genexpr>" (s₄.toks + 1), .str (X.env.qual ++ "<genexpr>") (s₄.toks + 1 + 1)] } }) X.xe { s2 with heap := h3, toks := tk } := by
    intro code h3 tk ps' hx hsz hP3 hm3 ht3
    obtain ⟨bm, ob, e1, e2, -, e4, e5, e6, e7, e8⟩ := TB.bm
    refine wpAny_builtinsFor (m := X.mg) (by rw [I2.ok.glob]; exact ((I2.mod.glob.keeps I2.bk)).extBut hx TB.gP) e1 e2 (hx _ _ e4 (I2.bk _ _ e5)) e6 e7 e8 ?_
    intro h' hn' hs'
    obtain ⟨more, em⟩ := hm3
    have J4 : Inv X pins σ (upd H1 P (.tbl (ps ++ more))) { s2 with heap := h3, toks := tk } :=
      inv_tab (more := more) (h' := h3) (g' := s2.gens) (d' := s2.drawn) (t' := tk) I2 hP (fun b u hb e => hx b u hb e) (by rw [← em]; exact hP3) I2.bare
    have hsz' : h'.objs.size = h3.objs.size + 1 := by rw [hs'.1, Heap.size_push]
    have keep' : ∀ b o, h3.get? b = some o → h'.get? b = some o := fun b o e => hs'.extBut b o (Nat.ne_of_lt (Heap.lt_size e)) (Heap.get?_push_of_some _ e)
    have key := hQ J H1 (upd H1 P (.tbl (ps ++ more))) fp it tn { s2 with heap := h3, toks := tk } code
      { cls := .type "generator", data := .fields #[.int s2.gens.size 0, .str "<genexpr>" (tk + 1), .str (X.env.qual ++ "<genexpr>") (tk + 1 + 1)] }
      { s2 with
            gens := s2.gens.push (.fresh (.compStart (.GeneratorExp elt [⟨tg, iter, ifs, 0⟩] scope gpos) 0 (.ref it) .none (genEnv scope (cloFrom X.env.cells scope.names []) h3.objs.size code builtinsNs X.env))),
            toks := tk + 1 + 1 + 1,
            heap := h'.push { cls := .type "generator", data := .fields #[.int s2.gens.size 0, .str "<genexpr>" (tk + 1), .str (X.env.qual ++ "<genexpr>") (tk + 1 + 1)] } }
      hR ⟨⟨ps ++ more, upd_same, by rw [← em]; exact ht3⟩, fun b hb => upd_ne hb⟩ T
      { inv := J4
        fps := fun b hb => ⟨⟨by rw [upd_ne (nfP b hb)]; exact (f2 b hb).1, (f2 b hb).2⟩, Nat.lt_of_lt_of_le (hlt2 b hb) hsz⟩
        keep := fun b o e => Heap.get?_push_of_some _ (keep' b o e)
        ns := hn'.push _
        obj := by
          show (h'.push _).get? (h3.objs.size + 1) = _
          rw [← hsz']
          exact (Heap.get?_push_size _ rfl)
        gen := fun h e => ⟨_, _, _, e, rfl, rfl, rfl⟩
        dat := fun v z => by cases z
        os := rfl
        bare := AllBare.push I2.bare rfl
        fresh := Array.getElem?_push_size ..
        st := T.keep _ _ _ st2 fun b hb o e => Heap.get?_push_of_some _ (keep' b o (hx b o (nfP b hb) e)) }
    rw [hsz']
    exact key
  refine ⟨lim2, ?_⟩
  cases found : codeAmong gpos ps.toList with
  | none =>
    refine wpAny_genexprCodeX hcode (cd.code hPs ht) (cd.tab hPs) found fun c' h' tk hx hge hlt hco' _ htab' _ => ?_
    obtain ⟨o1, vs, f1, tf, fl, tg', inF, tx, tt, op, _, _, _, _, _, _, _, _, _, htr, _⟩ := hco'
    exact cont _ h' tk _ hx (by omega) htab'.2 ⟨_, rfl⟩ htr
  | some cv =>
    refine wpAny_genexprCode_hit hcode (cd.code hPs ht) found ?_
    exact cont cv s2.heap s2.toks ps (Heap.ExtBut.refl _ _) (Nat.le_refl _) hPs ⟨#[], by simp⟩ ht
end
end Gx
namespace Gx
open PySem PySem.Spec PyProof.Rows L2 GxR GenW
theorem inv_gens {X : Cx} {pins : List (Addr × Obj)} {σ : L2.St} {H : Hp} {s : Shared} (I : Inv X pins σ H s) {g' : Array GenState} (hb : AllBare g') : Inv X pins σ H { s with gens := g' } :=
  ⟨I.ok, I.os, hb, I.base, I.loc, I.cell, I.free, I.freeC, I.pin, I.hok, I.len⟩
theorem suf_eq {α : Type} {a b l : List α} (h1 : a <:+ l) (h2 : b <:+ l) (e : a.length = b.length) : a = b := by
  rw [List.suffix_iff_eq_drop] at h1 h2
  rw [h1, h2, e]
section
variable {X : Cx} {A2 : Around} {s4 : Shared} {H4 : Hp} {cenv : Env} {fp Ss : List Addr} {pn : List (Addr × Obj)} {σw : L2.St} {ys : List V} {W : Nat → Nat → List V → Hp → Prop}
/-- the generator's state lets it go on from wherever its frame stands as it stood -/
def Rest (X : Cx) (A2 : Around) (s4 : Shared) (H4 : Hp) (cenv : Env) (fp : List Addr) (pn : List (Addr × Obj)) (σw : L2.St) (Ss : List Addr) (ys : List V) (W : Nat → Nat → List V → Hp → Prop) (n : Nat) (H : Hp) (s : Shared) (gs : GenState) : Prop :=
  ∀ s'' pl'', pl''.map (·.1) = Ss → Inv (gctx X A2 s4 H4 cenv fp pn) pl'' σw H s'' → (∀ b ∈ fp, ∀ o, s.heap.get? b = some o → s''.heap.get? b = some o) →
    gs.Goes (model X.prog X.w) A2 (RG (gctx X A2 s4 H4 cenv fp pn) σw Ss W) (YG (gctx X A2 s4 H4 cenv fp pn) σw fp Ss ys W) n (.send .none) s''
/-- one item is asked for: either the end, or the next one -/
theorem ask_next {A : Around} {a : Addr} {g : Nat} {go : Obj} {i m : Nat} {r : List V} {H : Hp} {s : Shared} {gs : GenState} {pl : List (Addr × Obj)} {Q : Option Value → Shared → Prop} {E : Value → Shared → Prop}
    (hA2 : A2 = A.in1) (hh : A.handled = none) (hd : A.depth < recursionLimit) (hpn : pn = [(a, go)]) (hgen : ∀ h : Heap, h.get? a = some go → h.IsGen a g)
    (hsuf : r <:+ ys) (w : W i m r H) (hpl : pl.map (·.1) = Ss) (I : Inv (gctx X A2 s4 H4 cenv fp pn) pl σw H s) (hgs : s.gens[g]? = some gs) (hrest : Rest X A2 s4 H4 cenv fp pn σw Ss ys W r.length H s gs)
    (hend : ∀ H' s' i m pl', r = [] → pl'.map (·.1) = Ss → Inv (gctx X A2 s4 H4 cenv fp pn) pl' σw H' s' → W i m [] H' → Kept Ss s s' → Q none s')
    (hitem : ∀ y r' v H' s' i m gs' pl', r = y :: r' → RelV y v → pl'.map (·.1) = Ss → Inv (gctx X A2 s4 H4 cenv fp pn) pl' σw H' s' → W i m r' H' → Kept Ss s s' → s'.gens[g]? = some gs' →
      Rest X A2 s4 H4 cenv fp pn σw Ss ys W r'.length H' s' gs' → Q (some v) s') :
    wpAny (model X.prog X.w) A (pyNext (.ref a)) Q E s := by
  subst hA2 hpn
  obtain ⟨hgl, -⟩ := Array.getElem?_eq_some_iff.mp hgs
  have hg : s.heap.IsGen a g := hgen _ (I.pin (a, go) (List.mem_append_left _ (List.mem_singleton.mpr rfl))).1
  have bare0 : AllBare (s.setGen g .running).gens := allBare_setGen I.bare rfl
  have I0 : Inv (gctx X A.in1 s4 H4 cenv fp [(a, go)]) pl σw H (s.setGen g .running) := inv_gens I bare0
  have hgo := hrest (s.setGen g .running) pl hpl I0 fun b _ o e => e
  refine wpAny_gsz (n := g + 1) hgl (next_genG (F := FG (gctx X A.in1 s4 H4 cenv fp [(a, go)]) σw Ss W) (Er := fun _ _ => False) (n := r.length) hh I.nolimit hd hg hgs hgo (fun v s₁ gs' hbare hv hsz => ?_) (fun s₁ hp h' hk hsz => ?_) fun e s₁ he => he.elim)
  · obtain ⟨hkept, y, r', i', m', H', pl', hpl', hn, rv, I', hsuf', w', kap⟩ := hv
    cases hr : r with
    | nil =>
      rw [hr] at kap
      have z : False := kap s₁ pl' hpl' I' fun b _ o e => e
      exact z.elim
    | cons y0 r0 =>
      have e : y :: r' = r := suf_eq hsuf' hsuf (by rw [List.length_cons, ← hn, hr, List.length_cons]; omega)
      have e' := e.trans hr
      cases e'
      have hsz1 : g + 1 ≤ s₁.gens.size := by
        have q := setGen_size s₁ g gs'
        have q2 : g + 1 ≤ (s₁.setGen g gs').gens.size := by exact hsz
        omega
      refine hitem y r' v H' (s₁.setGen g gs') i' m' gs' pl' e.symm rv hpl' (inv_gens I' (allBare_setGen I'.bare hbare)) w' (fun b hb o eo => hkept b hb o eo) (setGen_at hsz1) fun s'' pl'' hp'' I'' hal => ?_
      have := kap s'' pl'' hp'' I'' hal
      rw [hr] at this
      exact this
  · obtain ⟨hn, hkept, pl', H', i', m', hpl', I', w'⟩ := hp
    have hr : r = [] := List.length_eq_zero_iff.mp hn
    have I2 : Inv (gctx X A.in1 s4 H4 cenv fp [(a, go)]) pl' σw H' { s₁.setGen g .finished with heap := h' } := by
      have J := inv_gens (I'.kept (h' := h') (t' := s₁.toks) hk) (g' := (s₁.setGen g .finished).gens) (allBare_setGen I'.bare rfl)
      exact J
    exact hend H' _ i' m' pl' hr hpl' I2 w' fun b hb o eo => hk _ _ (hkept b hb o eo)
/-- the loop of «all» -/
theorem all_loop {A : Around} {a : Addr} {g : Nat} {go : Obj} {R : Result → Shared → Prop}
    (hA2 : A2 = A.in1.in1) (hh : A.handled = none) (hd : A.depth < recursionLimit) (hpn : pn = [(a, go)]) (hgen : ∀ h : Heap, h.get? a = some go → h.IsGen a g) (hbl : ∀ y ∈ ys, ∃ b, y = V.bl b) :
    ∀ (r : List V) (i m : Nat) (H : Hp) (s : Shared) (gs : GenState), r <:+ ys → W i m r H → Inv (gctx X A2 s4 H4 cenv fp pn) [] σw H s → s.gens[g]? = some gs → Rest X A2 s4 H4 cenv fp pn σw [] ys W r.length H s gs →
      (∀ s' H' i m r', Inv (gctx X A2 s4 H4 cenv fp pn) [] σw H' s' → W i m r' H' → R (.ok (.ret (.bool (r.all fun y => decide (y = V.bl true))))) s') →
      codeAny (model X.prog X.w) A (.builtin "all.loop" ⟨[.ref a], []⟩) R s := by
  have nil_of : ∀ {l : List (Addr × Obj)}, l.map (·.1) = ([] : List Addr) → l = [] := fun {l} h => List.map_eq_nil_iff.mp h
  intro r
  induction r with
  | nil =>
    intro i m H s gs hsuf w I hgs hrest hR
    apply codeAny_builtin F.entry_all_loop
    rw [Around.under_plainId F.plain_all_loop]
    show wpAny _ A.in1 (Bind.bind (pyNext (.ref a)) _) _ _ s
    refine wpAny_bind (ask_next (A := A.in1) hA2 hh hd hpn hgen hsuf w rfl I hgs hrest (fun H' s' i m pl' _ hpl I' w' _ => ?_) fun y r' v H' s' i m gs' pl' e => by cases e)
    have := nil_of hpl
    subst this
    exact wpAny_bind (wpAny_rule (wpAny_pure (hR s' H' i m [] I' w')))
  | cons y r ih =>
    intro i m H s gs hsuf w I hgs hrest hR
    apply codeAny_builtin F.entry_all_loop
    rw [Around.under_plainId F.plain_all_loop]
    show wpAny _ A.in1 (Bind.bind (pyNext (.ref a)) _) _ _ s
    refine wpAny_bind (ask_next (A := A.in1) hA2 hh hd hpn hgen hsuf w rfl I hgs hrest (fun H' s' i m pl' e => by cases e) fun y' r' v H' s' i' m' gs' pl' e rv hpl I' w' _ hgs' hrest' => ?_)
    cases e
    have := nil_of hpl
    subst this
    obtain ⟨b, rfl⟩ := hbl y (hsuf.subset List.mem_cons_self)
    obtain rfl : v = Value.bool b := rv
    refine wpAny_bind (wpAny_holding (wpAny_truthy_bool (wpAny_bind (wpAny_letGo ?_))))
    cases b with
    | true =>
      simp only [if_true]
      refine wpAny_pure ⟨plainId_quiet F.plain_all_loop _, ih i' m' H' s' gs' ((List.suffix_cons _ _).trans hsuf) w' I' hgs' hrest' fun s'' H'' i'' m'' r'' I'' w'' => ?_⟩
      have := hR s'' H'' i'' m'' r'' I'' w''
      simpa using this
    | false =>
      simp only [if_false, Bool.false_eq_true]
      have := hR s' H' i' m' r I' w'
      exact wpAny_bind (wpAny_rule (wpAny_pure (by simpa using this)))
/-- all(elt for tg in iter if ..) and the like: the reading; Res: what the consumer wants of all that is handed out -/
def tGx (P : Addr) (wi : TI) (g : TG) (tt : TT) (te : TE) (vs : List Nat) (Res : List V → VK → Hp → Prop) : TE := fun σ H Q => wi σ H fun J H1 => TabG H1 P ∧ ∃ (ys : List V) (W : Nat → Nat → List V → Hp → Prop),
  (∀ H2, Tabbed P H1 H2 → ∃ m, W 0 m ys H2) ∧ Turns J g tt te (wipe σ vs) vs W ∧ ∀ i m r H3, W i m r H3 → Res ys Q H3
def rAll : List V → VK → Hp → Prop := fun ys Q H => (∀ y ∈ ys, ∃ b, y = V.bl b) ∧ Q (.bl (ys.all fun y => decide (y = V.bl true))) H
end
section
variable {X : Cx} {c P : Addr} {k : Nat} {elt tg iter : Expr} {ifs : List Expr} {scope : Scope} {own : List (Str × Nat)} {p pos gpos : Pos} {wi : TI} {g : TG} {tt : TT} {te : TE}
/-- a generator as the one argument of a built-in that is called by its name: Cons consumes it -/
theorem pe_gx {name : Str} {bname : String} {Res : List V → VK → Hp → Prop} (hr : Room (k + 1) X.A) (hN : X.N.Nodup) (hgl : Gl X name) (hm : X.mg name = none) (hbb : bootBuiltins name = some (.builtin bname)) (TB : TabB X.base X.mg c P) (hcode : X.env.code = .ref c)
    (nm : Nm X.N X.env.scope scope own) (hi : PI X tg iter wi)
    (hg : ∀ (A : Around) (s : Shared) (H : Hp) (C : Addr) (code : Value) (fp : List Addr) (pn : List (Addr × Obj)), Room k (A.deeper (genv X scope C code)) → PG (gctx X A s H (genv X scope C code) fp pn) tg g)
    (ht : ∀ (A : Around) (s : Shared) (H : Hp) (C : Addr) (code : Value) (fp : List Addr) (pn : List (Addr × Obj)), Room k (A.deeper (genv X scope C code)) → PTs (gctx X A s H (genv X scope C code) fp pn) ifs tt)
    (hel : ∀ (A : Around) (s : Shared) (H : Hp) (C : Addr) (code : Value) (fp : List Addr) (pn : List (Addr × Obj)), Room k (A.deeper (genv X scope C code)) → PE (gctx X A s H (genv X scope C code) fp pn) elt te)
    (hcons : ∀ (pins : List (Addr × Obj)) (σ : L2.St) (Q : VK) (H2 : Hp) (J : It) (fp : List Addr) (it : Addr) (tn : Nat → Heap → Prop) (s4 : Shared) (code : Value) (go : Obj) (s5 : Shared) (ys : List V) (W : Nat → Nat → List V → Hp → Prop),
      Born X pins σ H2 fp it tn (.GeneratorExp elt [⟨tg, iter, ifs, 0⟩] scope gpos) scope s4 code go s5 →
      (∀ (A : Around), A.handled = none → A.frames = X.A.frames → Inv (gctx X A s4 H2 (genv X scope s4.heap.objs.size code) fp [(s4.heap.objs.size + 1, go)]) [] (wipe σ (own.map (·.2))) H2 s5) →
      (∀ (A : Around) (pl : List (Addr × Obj)) (H : Hp) (s' : Shared), Inv (gctx X A s4 H2 (genv X scope s4.heap.objs.size code) fp [(s4.heap.objs.size + 1, go)]) pl (wipe σ (own.map (·.2))) H s' → Inv X pins σ H s') →
      (∀ (A : Around) (Ss : List Addr), Room k (A.deeper (genv X scope s4.heap.objs.size code)) → (∀ b ∈ Ss, b ∉ fp) → Rest X A s4 H2 (genv X scope s4.heap.objs.size code) fp [(s4.heap.objs.size + 1, go)] (wipe σ (own.map (·.2))) Ss ys W ys.length H2 s5
        (.fresh (.compStart (.GeneratorExp elt [⟨tg, iter, ifs, 0⟩] scope gpos) 0 (.ref it) .none (genv X scope s4.heap.objs.size code)))) →
      (∃ m, W 0 m ys H2) → (∀ i m r H3, W i m r H3 → Res ys Q H3) →
      wpAny (model X.prog X.w) X.A (call (.builtin bname) [.ref (s4.heap.objs.size + 1)]) (EP X pins σ Q) X.xe s5)
    (hs : ∀ v, genFold iter X.env v = pure v := by intro _; rfl)
    (he : starEach [.GeneratorExp elt [⟨tg, iter, ifs, 0⟩] scope gpos] X.env = (false, eval (.GeneratorExp elt [⟨tg, iter, ifs, 0⟩] scope gpos) X.env) :: starEach [] X.env := by rfl)
    (hn : name ≠ "__name__" := by decide) (hd : (name == ("__debug__" : Str)) = false := by decide) :
    PE X (.Call (.Name name p) [.GeneratorExp elt [⟨tg, iter, ifs, 0⟩] scope gpos] [] pos) (tGx P wi g tt te (own.map (·.2)) Res) := by
  constructor
  intro pins s σ H Q I h
  refine wpAny_Call_Name_kw (ld_blt I hgl hm hbb ?_ hn hd)
  refine PyProof.Rows.callWith_builtin1 ?_ he (by exact rfl)
  rw [he]
  show wpAny _ _ (spliced ((false, eval (.GeneratorExp elt [⟨tg, iter, ifs, 0⟩] scope gpos) X.env) :: backTo pos (starEach [] X.env))) _ _ s
  refine Calls.spliced_cons (gen_make (P := P) hr TB hcode nm hi hs I h fun J H1 H2 fp it tn s4 code go s5 hR hT T B => ?_)
  refine Calls.spliced_nil ?_
  obtain ⟨ys, W, hstart, hturn, hres⟩ := hR
  obtain ⟨m0, w0⟩ := hstart H2 hT
  refine hcons pins σ Q H2 J fp it tn s4 code go s5 ys W B (fun A hh hA => g_start B.inv nm hN hh hA B.fps B.keep B.ns B.obj B.dat B.os B.bare) (fun A pl H s' I' => ?_) (fun A Ss hrA hSs s'' pl'' hpl I'' hal => ?_) ⟨m0, w0⟩ hres
  · exact B.inv.call' (ch := fp) I'.os I'.base I'.hok I'.bare fun b hb => ⟨(B.fps b hb).1.2.2.2.1, (B.fps b hb).1.2.1, (B.fps b hb).1.2.2.2.2.1, (B.fps b hb).1.2.2.2.2.2⟩
  · have hpn : ∀ p ∈ [(s4.heap.objs.size + 1, go)], p.1 ∉ fp := fun p hp z => by
      have e : p = (s4.heap.objs.size + 1, go) := by simpa using hp
      rw [e] at z
      have := (B.fps _ z).2
      exact absurd this (by show ¬ (s4.heap.objs.size + 1 < s4.heap.objs.size); omega)
    have fr : ∀ b ∈ fp, H2 b = none := fun b hb => (B.fps b hb).1.1
    have st : tn 0 s''.heap := T.keep _ _ _ B.st fun b hb o e => hal b hb o e
    refine ⟨rfl, seg_start T st (seg_turns T nm.co hSs hpn (hg A s4 H2 _ code fp _ hrA) (ht A s4 H2 _ code fp _ hrA) (hel A s4 H2 _ code fp _ hrA) (fun σ2 e => ⟨fun j v q => ?_, ?_⟩) hturn m0 0 ys H2 s'' s'' pl'' w0 (List.suffix_refl _) hpl (fun p hp => (I''.pin p (List.mem_append_right _ hp)).1) I'' st fr)⟩
    · rw [← e] at q
      exact (wipe_some q).1
    · rw [← e, wipe_length]
end
section
variable {X : Cx} {c P : Addr} {k : Nat} {elt tg iter : Expr} {ifs : List Expr} {scope : Scope} {own : List (Str × Nat)} {p pos gpos : Pos} {wi : TI} {g : TG} {tt : TT} {te : TE}
theorem pe_all (hr : Room (k + 1) X.A) (hN : X.N.Nodup) (hgl : Gl X "all") (hm : X.mg "all" = none) (TB : TabB X.base X.mg c P) (hcode : X.env.code = .ref c)
    (nm : Nm X.N X.env.scope scope own) (hi : PI X tg iter wi)
    (hg : ∀ (A : Around) (s : Shared) (H : Hp) (C : Addr) (code : Value) (fp : List Addr) (pn : List (Addr × Obj)), Room k (A.deeper (genv X scope C code)) → PG (gctx X A s H (genv X scope C code) fp pn) tg g)
    (ht : ∀ (A : Around) (s : Shared) (H : Hp) (C : Addr) (code : Value) (fp : List Addr) (pn : List (Addr × Obj)), Room k (A.deeper (genv X scope C code)) → PTs (gctx X A s H (genv X scope C code) fp pn) ifs tt)
    (hel : ∀ (A : Around) (s : Shared) (H : Hp) (C : Addr) (code : Value) (fp : List Addr) (pn : List (Addr × Obj)), Room k (A.deeper (genv X scope C code)) → PE (gctx X A s H (genv X scope C code) fp pn) elt te)
    (hs : ∀ v, genFold iter X.env v = pure v := by intro _; rfl)
    (he : starEach [.GeneratorExp elt [⟨tg, iter, ifs, 0⟩] scope gpos] X.env = (false, eval (.GeneratorExp elt [⟨tg, iter, ifs, 0⟩] scope gpos) X.env) :: starEach [] X.env := by rfl) :
    PE X (.Call (.Name "all" p) [.GeneratorExp elt [⟨tg, iter, ifs, 0⟩] scope gpos] [] pos) (tGx P wi g tt te (own.map (·.2)) rAll) := by
  refine pe_gx (bname := "all") hr hN hgl hm (by decide +kernel) TB hcode nm hi hg ht hel (fun pins σ Q H2 J fp it tn s4 code go s5 ys W B start back rest w0 hres => ?_) hs he
  obtain ⟨m0, w0⟩ := w0
  have hr2 : Room k (X.A.in1.in1.deeper (genv X scope s4.heap.objs.size code)) :=
    ⟨hr.hd, by have := hr.dp; show X.A.depth + 1 + 3 * k + 5 < _; omega, by have := hr.un; show X.A.units + 1 + 1 + 3 + 16 * k + 200 < _; omega⟩
  apply call_function_tree F.kind_all F.plain_all F.entry_all (F.args_all1 _)
  unfold Builtin.«all»
  apply wpAny_bind (m := oneArg "all" _)
  refine wpAny_pure ?_
  refine wpAny_bind (wpAny_pyIter_gen (B.gen _ B.obj) ?_)
  refine wpAny_pure ⟨plainId_quiet F.plain_all_loop _, all_loop (A := X.A) rfl hr.hd (by have := hr.dp; omega) rfl B.gen (hres 0 m0 ys H2 w0).1 ys 0 m0 H2 s5 _ (List.suffix_refl _) w0 (start X.A.in1.in1 hr.hd rfl) B.fresh (rest _ [] hr2 fun b hb => by cases hb) fun s' H' i m r' I' w' => ?_⟩
  exact ⟨.bl _, H', back _ _ _ _ I', rfl, (hres i m r' H' w').2⟩
end
end Gx
namespace Gx
open PySem PySem.Spec PyProof.Rows L2 GxR GenW
end Gx
namespace Gx
open PySem PySem.Spec PyProof.Rows L2 GxR GenW
section
variable (elt t0 i0 t1 i1 : Expr) (scope : Scope) (pos : Pos)
abbrev twoS : Expr := .SetComp elt [⟨t0, i0, [], 0⟩, ⟨t1, i1, [], 0⟩] scope pos
theorem outerTurn (it acc : Value) (cenv : Env) : compTurn (twoS elt t0 i0 t1 i1 scope pos) 0 it acc cenv = (do
      standAt i0.pos
      match ← pyNext it with
      | none => pure (.done .next)
      | some item =>
        letOwnedTupleGo t0 it item
        assign t0 cenv item
        let source ← eval i1 cenv
        standAt i1.pos
        let source ← foldedSetIterable i1 cenv source
        let _ ← runOwn (.compStart (twoS elt t0 i0 t1 i1 scope pos) 1 (← holding [source] (pyIter source)) acc cenv) cenv
        again (.compLoop (twoS elt t0 i0 t1 i1 scope pos) 0 it acc cenv)) := by rfl
theorem innerTurn (it acc : Value) (cenv : Env) : compTurn (twoS elt t0 i0 t1 i1 scope pos) 1 it acc cenv = (do
      standAt i1.pos
      match ← pyNext it with
      | none => pure (.done .next)
      | some item =>
        letOwnedTupleGo t1 it item
        assign t1 cenv item
        (do let made ← eval elt cenv; standAt elt.pos; let _ ← call (.builtin "set.add") [acc, made])
        again (.compLoop (twoS elt t0 i0 t1 i1 scope pos) 1 it acc cenv)) := by rfl
end
section
variable {prog : Program} {w : World} {A : Around} {R : Result → Shared → Prop} {s : Shared} {elt t0 i0 t1 i1 : Expr} {scope : Scope} {pos : Pos} {it acc : Value} {cenv : Env}
/-- the first walk's loop: J n is kept and n falls -/
theorem outer_loop (hs : ∀ x, foldedSetIterable i1 cenv x = pure x) (J : Nat → Shared → Prop)
    (turn : ∀ n s, J n s → wpAny (model prog w) A (pyNext it) (fun r s₁ => match r with
      | none => R (.ok .next) s₁
      | some v => wpAny (model prog w) A (letOwnedTupleGo t0 it v) (fun _ s₂ => wpAny (model prog w) A (assign t0 cenv v) (fun _ s₃ =>
          wpAny (model prog w) A (eval i1 cenv) (fun x s₄ => wpAny (model prog w) A (pyIter x) (fun it1 s₅ =>
              codeAny (model prog w) A (.compStart (twoS elt t0 i0 t1 i1 scope pos) 1 it1 acc cenv) (fun r s' => match r with
                | .ok _ => ∃ m, m < n ∧ J m s'
                | .error _ => False) s₅) (fun _ _ => False) s₄) (fun _ _ => False) s₃) (fun _ _ => False) s₂) (fun _ _ => False) s₁) (fun _ _ => False) s)
    (n : Nat) (h : J n s) : codeAny (model prog w) A (.compLoop (twoS elt t0 i0 t1 i1 scope pos) 0 it acc cenv) R s := by
  refine codeAny_loop rfl J (fun n s hI => ?_) n h
  show wpAny _ A ((compTurn (twoS elt t0 i0 t1 i1 scope pos) 0 it acc cenv).onRaise (fun x => do noteFrame x cenv; theTreesLotGoes x)) _ _ s
  refine wpAny_noted ?_
  rw [outerTurn]
  refine wpAny_bind (wpAny_standAt (wpAny_bind (thnF (turn n s hI) fun r s₁ h₁ => ?_)))
  cases r with
  | none => exact wpAny_pure h₁
  | some v =>
    refine wpAny_bind (thnF h₁ fun _ s₂ h₂ => wpAny_bind (thnF h₂ fun _ s₃ h₃ => wpAny_bind (thnF h₃ fun x s₄ h₄ => wpAny_bind (wpAny_standAt (wpAny_bind (wpAny_of_eq (hs x)
      (wpAny_bind (wpAny_holding (thnF h₄ fun it1 s₅ h₅ => wpAny_bind (wpAny_runOwn (by
        rw [Around.mark_none]
        exact codeAny_mono h₅ (fun r s' hr => by
          cases r with
          | error e => exact hr.elim
          | ok f => first
            | exact wpAny_pure (.intro rfl hr)
            | exact wpAny_bind (wpAny_pure (wpAny_pure (.intro rfl hr)))))))))))))))
/-- the second walk's loop: each item is put into the set -/
theorem inner_loop (J : Nat → Shared → Prop)
    (turn : ∀ n s, J n s → wpAny (model prog w) A (pyNext it) (fun r s₁ => match r with
      | none => R (.ok .next) s₁
      | some v => wpAny (model prog w) A (letOwnedTupleGo t1 it v) (fun _ s₂ => wpAny (model prog w) A (assign t1 cenv v) (fun _ s₃ =>
          wpAny (model prog w) A (eval elt cenv) (fun x s₄ =>
              wpAny (model prog w) A (call (.builtin "set.add") [acc, x]) (fun _ s₅ => ∃ m, m < n ∧ J m s₅) (fun _ _ => False) s₄) (fun _ _ => False) s₃) (fun _ _ => False) s₂) (fun _ _ => False) s₁) (fun _ _ => False) s)
    (n : Nat) (h : J n s) : codeAny (model prog w) A (.compLoop (twoS elt t0 i0 t1 i1 scope pos) 1 it acc cenv) R s := by
  refine codeAny_loop rfl J (fun n s hI => ?_) n h
  show wpAny _ A ((compTurn (twoS elt t0 i0 t1 i1 scope pos) 1 it acc cenv).onRaise (fun x => do noteFrame x cenv; theTreesLotGoes x)) _ _ s
  refine wpAny_noted ?_
  rw [innerTurn]
  refine wpAny_bind (wpAny_standAt (wpAny_bind (thnF (turn n s hI) fun r s₁ h₁ => ?_)))
  cases r with
  | none => exact wpAny_pure h₁
  | some v =>
    refine wpAny_bind (thnF h₁ fun _ s₂ h₂ => wpAny_bind (thnF h₂ fun _ s₃ h₃ => ?_))
    exact wpAny_bind (wpAny_bind (thnF h₃ fun x s₄ h₄ => wpAny_bind (wpAny_standAt (wpAny_bind (thnF h₄ fun _ s₅ h₅ => wpAny_pure (wpAny_pure ⟨rfl, h₅⟩))))))
end
/-! ### a walk within a block -/
/-- what is always so of a walk's own objects, whatever is tracked -/
def Off (Y : Cx) (pl : List (Addr × Obj)) (fp : List Addr) : Prop := ∀ H', (∀ b ∈ fp, H' b = none) → ∀ b ∈ fp, FpOk Y pl H' b
/-! ### the whole -/
end Gx
namespace Pf
open PySem PySem.Spec PyProof.Rows L2 GxR GenW Gx
/-- data: what never changes from the time on at which it is a datum -/
inductive D where
  | non | bl (b : Bool) | int (i : Int) | str (x : Str) | lst (xs : List D) | tup (xs : List D) | scr (ns : List Int) | rng (lo hi : Int) | st (ns : List Int)
  deriving Inhabited
/-- things of one's own, which may still change -/
inductive Ow where
  | l (xs : List D) | d (ks : List (Key × D)) | t (ks : List (List Key × D))
/-- what a slot holds: nothing that is known, a datum, a thing of one's own -/
inductive Sl where
  | no | im (d : D) | ow (o : Ow) | ro (xs : List D)
def Sl.own : Sl → Bool
  | .ow _ => true
  | _ => false
/-- a list of one's own, or one that is only read here -/
def Sl.prv : Sl → Bool
  | .ow _ => true
  | .ro _ => true
  | _ => false
/-- all is as it was, but tables may have grown -/
def Old (H H' : Hp) : Prop := ∀ a o, H a = some o → H' a = some o ∨ ((∃ ps, o = HO.tbl ps) ∧ ∃ ps', H' a = some (.tbl ps'))
theorem Old.refl (H : Hp) : Old H H := fun _ _ h => .inl h
theorem Old.trans {H H1 H2 : Hp} (a : Old H H1) (b : Old H1 H2) : Old H H2 := fun c o h => by
  rcases a c o h with h1 | ⟨⟨ps, rfl⟩, ps', h1⟩
  · exact b c o h1
  · rcases b c _ h1 with h2 | ⟨_, ps2, h2⟩
    · exact .inr ⟨⟨ps, rfl⟩, ps', h2⟩
    · exact .inr ⟨⟨ps, rfl⟩, ps2, h2⟩
theorem Old.none {H H' : Hp} (h : Old H H') {a : Addr} (e : H' a = none) : H a = none := by
  cases q : H a with
  | none => rfl
  | some o =>
    rcases h a o q with z | ⟨_, _, z⟩ <;> (rw [e] at z; cases z)
theorem Old.at {H H' : Hp} (h : Old H H') {a : Addr} {o : HO} (e : H a = some o) (n : ∀ ps, o ≠ .tbl ps) : H' a = some o := by
  rcases h a o e with z | ⟨⟨ps, rfl⟩, _⟩
  · exact z
  · exact absurd rfl (n ps)
def Tb (T : List Addr) (H : Hp) : Prop := ∀ P ∈ T, TabG H P
def NoT (B : Hp) : Prop := ∀ a ps, B a ≠ some (.tbl ps)
/-- a tuple whose object has no dict of its own -/
def SqU (K : PySem.W.Frag) (B : Hp) (a : Addr) (vs : List V) : Prop := SqT K B a vs ∧ ∃ (ob : Obj) (u : HO), B a = some (.frz ob u) ∧ ob.dict = none
theorem SqU.new {K : PySem.W.Frag} {B : Hp} {p : Addr} {ob : Obj} {vs : List V} (h : ob.dict = none) : SqU K (upd B p (.frz ob (.tup vs))) p vs := ⟨.inl (.inr ⟨ob, upd_same⟩), ob, _, upd_same, h⟩
mutual
inductive Dq (K : PySem.W.Frag) (B : Hp) : V → D → Prop where
  | non : Dq K B .non .non
  | bl (b : Bool) : Dq K B (.bl b) (.bl b)
  | int (i : Int) : Dq K B (.int i) (.int i)
  | str (x : Str) : Dq K B (.str x) (.str x)
  | lst {a : Addr} {vs : List V} {ds : List D} : B a = some (.lst vs) → DqAll K B vs ds → Dq K B (.ref a) (.lst ds)
  | tup {a : Addr} {vs : List V} {ds : List D} : SqU K B a vs → DqAll K B vs ds → Dq K B (.ref a) (.tup ds)
  | scr {a : Addr} {ns : List Int} : SqL K B a (ns.map V.int) → Dq K B (.ref a) (.scr ns)
  | rng {a : Addr} {lo hi : Int} : B a = some (.rng lo hi) → Dq K B (.ref a) (.rng lo hi)
  | st {a : Addr} {ns : List Int} {n : Nat} : B a = some (.set (fun k => decide (k ∈ ns)) n) → Dq K B (.ref a) (.st ns)
inductive DqAll (K : PySem.W.Frag) (B : Hp) : List V → List D → Prop where
  | nil : DqAll K B [] []
  | cons {v : V} {vs : List V} {d : D} {ds : List D} : Dq K B v d → DqAll K B vs ds → DqAll K B (v :: vs) (d :: ds)
end
theorem same_seqT {K : PySem.W.Frag} {B B' : Hp} (h : Same B B') {a : Addr} {xs : List V} (s : SqT K B a xs) : SqT K B' a xs := by
  rcases s with (s | ⟨o, s⟩) | s
  · exact .inl (.inl (h _ _ s))
  · exact .inl (.inr ⟨o, h _ _ s⟩)
  · exact .inr s
theorem same_seqL {K : PySem.W.Frag} {B B' : Hp} (h : Same B B') {a : Addr} {xs : List V} (s : SqL K B a xs) : SqL K B' a xs := by
  rcases s with (s | ⟨o, s⟩) | s
  · exact .inl (.inl (h _ _ s))
  · exact .inl (.inr ⟨o, h _ _ s⟩)
  · exact .inr s
theorem same_seqU {K : PySem.W.Frag} {B B' : Hp} (h : Same B B') {a : Addr} {xs : List V} (s : SqU K B a xs) : SqU K B' a xs := by
  obtain ⟨s1, ob, u, s2, s3⟩ := s
  exact ⟨same_seqT h s1, ob, u, h _ _ s2, s3⟩
theorem same_tup {K : PySem.W.Frag} {B B' : Hp} (h : Same B B') {a : Addr} {xs : List V} (s : SqU K B a xs) : SqT K B' a xs := same_seqT h s.1
mutual
theorem Dq.mono {K : PySem.W.Frag} {B B' : Hp} (h : Same B B') : ∀ {v : V} {d : D}, Dq K B v d → Dq K B' v d
  | _, _, .non => .non
  | _, _, .bl b => .bl b
  | _, _, .int i => .int i
  | _, _, .str x => .str x
  | _, _, .lst s a => .lst (h _ _ s) (DqAll.mono h a)
  | _, _, .tup s a => .tup (same_seqU h s) (DqAll.mono h a)
  | _, _, .scr s => .scr (same_seqL h s)
  | _, _, .rng s => .rng (h _ _ s)
  | _, _, .st s => .st (h _ _ s)
theorem DqAll.mono {K : PySem.W.Frag} {B B' : Hp} (h : Same B B') : ∀ {vs : List V} {ds : List D}, DqAll K B vs ds → DqAll K B' vs ds
  | _, _, .nil => .nil
  | _, _, .cons a r => .cons (Dq.mono h a) (DqAll.mono h r)
end
/-- the same as the kit's own data, where it is such -/
def D.py : D → Option PyData
  | .non => some .none
  | .bl b => some (.bool b)
  | .int i => some (.int i)
  | .str x => some (.str x)
  | .lst xs => (pys xs).map .list
  | .tup xs => (pys xs).map .tuple
  | .scr _ => none
  | .rng _ _ => none
  | .st _ => none
where pys : List D → Option (List PyData)
  | [] => some []
  | d :: ds => match D.py d, pys ds with
    | some x, some xs => some (x :: xs)
    | _, _ => none
mutual
theorem Dq.dp {K : PySem.W.Frag} {B : Hp} : ∀ {v : V} {d : D} {p : PyData}, Dq K B v d → d.py = some p → Dp K B v p
  | _, _, _, .non, e => by cases e; exact .non
  | _, _, _, .bl b, e => by cases e; exact .bl b
  | _, _, _, .int b, e => by cases e; exact .int b
  | _, _, _, .str b, e => by cases e; exact .str b
  | _, _, _, .lst (ds := ds) s a, e => by
    rw [D.py] at e
    cases q : D.py.pys ds with
    | none => (rw [q] at e; cases e)
    | some ps =>
      rw [q] at e
      cases e
      exact .lst (SqL.of s) (DqAll.dp a q)
  | _, _, _, .tup (ds := ds) s a, e => by
    rw [D.py] at e
    cases q : D.py.pys ds with
    | none => (rw [q] at e; cases e)
    | some ps =>
      rw [q] at e
      cases e
      exact .tup s.1 (DqAll.dp a q)
  | _, _, _, .scr _, e => by cases e
  | _, _, _, .rng _, e => by cases e
  | _, _, _, .st _, e => by cases e
theorem DqAll.dp {K : PySem.W.Frag} {B : Hp} : ∀ {vs : List V} {ds : List D} {ps : List PyData}, DqAll K B vs ds → D.py.pys ds = some ps → DpAll K B vs ps
  | _, _, _, .nil, e => by cases e; exact .nil
  | _, _, _, .cons (d := d) (ds := ds) a r, e => by
    rw [D.py.pys] at e
    cases q : D.py d with
    | none => (rw [q] at e; cases e)
    | some x =>
      cases q2 : D.py.pys ds with
      | none => rw [q, q2] at e; cases e
      | some xs =>
        rw [q, q2] at e
        cases e
        exact .cons (Dq.dp a q) (DqAll.dp r q2)
end
theorem DqAll.length {K : PySem.W.Frag} {B : Hp} : ∀ {vs : List V} {ds : List D}, DqAll K B vs ds → vs.length = ds.length
  | _, _, .nil => rfl
  | _, _, .cons _ r => by rw [List.length_cons, List.length_cons, DqAll.length r]
theorem DqAll.get {K : PySem.W.Frag} {B : Hp} : ∀ {vs : List V} {ds : List D} {i : Nat} {d : D}, DqAll K B vs ds → ds[i]? = some d → ∃ v, vs[i]? = some v ∧ Dq K B v d
  | _, _, _, _, .nil, e => (by simp at e)
  | _, _, 0, _, .cons a _, e => by
    simp at e
    subst e
    exact ⟨_, rfl, a⟩
  | _, _, i + 1, _, .cons _ r, e => by
    simp at e
    obtain ⟨v, h1, h2⟩ := DqAll.get r e
    exact ⟨v, by simpa using h1, h2⟩
theorem DqAll.append {K : PySem.W.Frag} {B : Hp} : ∀ {vs us : List V} {ds es : List D}, DqAll K B vs ds → DqAll K B us es → DqAll K B (vs ++ us) (ds ++ es)
  | _, _, _, _, .nil, s => s
  | _, _, _, _, .cons a r, s => .cons a (DqAll.append r s)
theorem DqAll.take {K : PySem.W.Frag} {B : Hp} : ∀ {vs : List V} {ds : List D} (n : Nat), DqAll K B vs ds → DqAll K B (vs.take n) (ds.take n)
  | _, _, 0, _ => .nil
  | _, _, _ + 1, .nil => .nil
  | _, _, n + 1, .cons a r => .cons a (DqAll.take n r)
theorem DqAll.drop {K : PySem.W.Frag} {B : Hp} : ∀ {vs : List V} {ds : List D} (n : Nat), DqAll K B vs ds → DqAll K B (vs.drop n) (ds.drop n)
  | _, _, 0, r => r
  | _, _, _ + 1, .nil => .nil
  | _, _, n + 1, .cons _ r => DqAll.drop n r
theorem DqAll.set {K : PySem.W.Frag} {B : Hp} {v : V} {d : D} (h : Dq K B v d) : ∀ {vs : List V} {ds : List D} (n : Nat), DqAll K B vs ds → DqAll K B (vs.set n v) (ds.set n d)
  | _, _, _, .nil => .nil
  | _, _, 0, .cons _ r => .cons h r
  | _, _, n + 1, .cons a r => .cons a (DqAll.set h n r)
theorem DqAll.ints {K : PySem.W.Frag} {B : Hp} : ∀ (ns : List Int), DqAll K B (ns.map V.int) (ns.map D.int)
  | [] => .nil
  | n :: ns => .cons (.int n) (DqAll.ints ns)
/-! ### slots -/
def OwOk (K : PySem.W.Frag) (B : Hp) : HO → Ow → Prop
  | .lst vs, .l xs => DqAll K B vs xs
  | .dK kvs, .d ks => kvs.map Prod.fst = ks.map Prod.fst ∧ DqAll K B (kvs.map Prod.snd) (ks.map Prod.snd)
  | .dT kvs, .t ks => kvs.map Prod.fst = ks.map Prod.fst ∧ DqAll K B (kvs.map Prod.snd) (ks.map Prod.snd)
  | _, _ => False
theorem OwOk.mono {K : PySem.W.Frag} {B B' : Hp} (h : Same B B') : ∀ {o : HO} {w : Ow}, OwOk K B o w → OwOk K B' o w
  | .lst _, .l _, q => DqAll.mono h q
  | .dK _, .d _, q => ⟨q.1, DqAll.mono h q.2⟩
  | .dT _, .t _, q => ⟨q.1, DqAll.mono h q.2⟩
  | .lst _, .d _, q => q.elim
  | .lst _, .t _, q => q.elim
  | .dK _, .l _, q => q.elim
  | .dK _, .t _, q => q.elim
  | .dT _, .l _, q => q.elim
  | .dT _, .d _, q => q.elim
  | .tup _, _, q => q.elim
  | .set _ _, _, q => q.elim
  | .ins _ _ _, _, q => q.elim
  | .own _, _, q => q.elim
  | .xd _, _, q => q.elim
  | .met _ _, _, q => q.elim
  | .rng _ _, _, q => q.elim
  | .frz _ _, _, q => q.elim
  | .tbl _, _, q => q.elim
  | .ext _, _, q => q.elim
theorem OwOk.nt {K : PySem.W.Frag} {B : Hp} {o : HO} {w : Ow} (h : OwOk K B o w) : ∀ ps, o ≠ .tbl ps := fun ps e => by
  subst e
  cases w <;> exact h.elim
theorem OwOk.l {K : PySem.W.Frag} {B : Hp} {o : HO} {xs : List D} (h : OwOk K B o (.l xs)) : ∃ vs, o = .lst vs ∧ DqAll K B vs xs := by
  cases o <;> first | exact ⟨_, rfl, h⟩ | exact h.elim
theorem OwOk.d {K : PySem.W.Frag} {B : Hp} {o : HO} {ks : List (Key × D)} (h : OwOk K B o (.d ks)) : ∃ kvs, o = .dK kvs ∧ kvs.map Prod.fst = ks.map Prod.fst ∧ DqAll K B (kvs.map Prod.snd) (ks.map Prod.snd) := by
  cases o <;> first | exact ⟨_, rfl, h⟩ | exact h.elim
theorem OwOk.t {K : PySem.W.Frag} {B : Hp} {o : HO} {ks : List (List Key × D)} (h : OwOk K B o (.t ks)) : ∃ kvs, o = .dT kvs ∧ kvs.map Prod.fst = ks.map Prod.fst ∧ DqAll K B (kvs.map Prod.snd) (ks.map Prod.snd) := by
  cases o <;> first | exact ⟨_, rfl, h⟩ | exact h.elim
def SlOk (K : PySem.W.Frag) (H0 B H : Hp) : Sl → Option (Option V) → Prop
  | .no, _ => True
  | .im d, s => ∃ v, s = some (some v) ∧ Dq K B v d
  | .ow w, s => ∃ p o, s = some (some (.ref p)) ∧ H0 p = none ∧ B p = none ∧ H p = some o ∧ OwOk K B o w
  | .ro xs, s => ∃ p o, s = some (some (.ref p)) ∧ H0 p = none ∧ B p = none ∧ H p = some o ∧ OwOk K B o (.l xs)
/-- a is the place of an own list -/
def OwnA (env : List Sl) (σ : L2.St) (a : Addr) : Prop := ∃ (i : Nat) (e : Sl), env[i]? = some e ∧ e.own = true ∧ σ[i]? = some (some (V.ref a))
/-- a is the place of an own list, or of one that is only read -/
def PrvA (env : List Sl) (σ : L2.St) (a : Addr) : Prop := ∃ (i : Nat) (e : Sl), env[i]? = some e ∧ e.prv = true ∧ σ[i]? = some (some (V.ref a))
theorem Sl.own_prv {e : Sl} (h : e.own = true) : e.prv = true := by
  cases e <;> first | rfl | cases h
theorem OwnA.prv {env : List Sl} {σ : L2.St} {a : Addr} (h : OwnA env σ a) : PrvA env σ a := by
  obtain ⟨i, e, h1, h2, h3⟩ := h
  exact ⟨i, e, h1, Sl.own_prv h2, h3⟩
theorem PrvA.own {env : List Sl} {σ : L2.St} {a : Addr} (h : ¬ PrvA env σ a) : ¬ OwnA env σ a := fun z => h z.prv
structure Se where
  T : List Addr
  H0 : Hp
  B0 : Hp
structure Rel (K : PySem.W.Frag) (S : Se) (B : Hp) (env : List Sl) (σ : L2.St) (H : Hp) : Prop where
  old : Old S.H0 H
  tab : Tb S.T H
  b0 : Same S.B0 B
  bh : Same B H
  nt : NoT B
  new : ∀ a o, B a = some o → S.B0 a = some o ∨ S.H0 a = none
  len : env.length = σ.length
  sl : ∀ (i : Nat) (e : Sl), env[i]? = some e → SlOk K S.H0 B H e σ[i]?
  sep : ∀ (i j : Nat) (p : Addr) (e e' : Sl), env[i]? = some e → env[j]? = some e' → e.prv = true → e'.prv = true → σ[i]? = some (some (.ref p)) → σ[j]? = some (some (.ref p)) → i = j
/-- from B, H to B', H' while the own lists of env may turn -/
structure Ext (env env' : List Sl) (σ : L2.St) (B H B' H' : Hp) : Prop where
  sub : ∀ a, OwnA env' σ a → OwnA env σ a
  same : Same B B'
  new : ∀ a o, B' a = some o → B a = some o ∨ H a = none ∨ OwnA env σ a
  kept : ∀ a o, H a = some o → ¬ OwnA env σ a → H' a = some o ∨ ((∃ ps, o = HO.tbl ps) ∧ ∃ ps', H' a = some (.tbl ps'))
  live : ∀ a, H' a = none → H a = none
section
variable {K : PySem.W.Frag} {S : Se} {B H B1 H1 B2 H2 : Hp} {env env1 env2 : List Sl} {σ : L2.St}
theorem Ext.refl : Ext env env σ B H B H := ⟨fun _ h => h, Same.refl B, fun _ _ h => .inl h, fun _ _ h _ => .inl h, fun _ h => h⟩
theorem Ext.trans (a : Ext env env1 σ B H B1 H1) (b : Ext env1 env2 σ B1 H1 B2 H2) : Ext env env2 σ B H B2 H2 := by
  refine ⟨fun c h => a.sub c (b.sub c h), a.same.trans b.same, fun c o h => ?_, fun c o h n => ?_, fun c h => a.live c (b.live c h)⟩
  · rcases b.new c o h with z | z | z
    · exact a.new c o z
    · by_cases hw : OwnA env σ c
      · exact .inr (.inr hw)
      · cases q : H c with
        | none => exact .inr (.inl rfl)
        | some u => rcases a.kept c u q hw with y | ⟨_, _, y⟩ <;> (rw [z] at y; cases y)
    · exact .inr (.inr (a.sub c z))
  · have n1 : ¬ OwnA env1 σ c := fun z => n (a.sub c z)
    rcases a.kept c o h n with z | ⟨⟨ps, rfl⟩, ps', z⟩
    · exact b.kept c o z n1
    · rcases b.kept c _ z n1 with y | ⟨_, ps2, y⟩
      · exact .inr ⟨⟨ps, rfl⟩, ps', y⟩
      · exact .inr ⟨⟨ps, rfl⟩, ps2, y⟩
theorem Ext.at (a : Ext env env1 σ B H B1 H1) {p : Addr} {o : HO} (e : H p = some o) (n : ¬ OwnA env σ p) (nt : ∀ ps, o ≠ .tbl ps) : H1 p = some o := by
  rcases a.kept p o e n with z | ⟨⟨ps, rfl⟩, _⟩
  · exact z
  · exact absurd rfl (nt ps)
/-- nothing of one's own turns -/
theorem Rel.step (R : Rel K S B env σ H) (o : Old H H1) (t : Tb S.T H1) (sm : Same B B1) (bh : Same B1 H1) (nt : NoT B1) (nw : ∀ a o, B1 a = some o → B a = some o ∨ H a = none) :
    Rel K S B1 env σ H1 ∧ Ext env env σ B H B1 H1 := by
  refine ⟨⟨R.old.trans o, t, R.b0.trans sm, bh, nt, fun a u h => ?_, R.len, fun i e h => ?_, R.sep⟩, ⟨fun _ h => h, sm, fun a u h => (nw a u h).elim .inl fun z => .inr (.inl z), fun a u h _ => o a u h, fun a h => o.none h⟩⟩
  · rcases nw a u h with z | z
    · exact R.new a u z
    · exact .inr (R.old.none z)
  · have q := R.sl i e h
    cases e with
    | no => trivial
    | im d =>
      obtain ⟨v, e1, e2⟩ := q
      exact ⟨v, e1, Dq.mono sm e2⟩
    | ow xs =>
      obtain ⟨p, vs, e1, e2, e3, e4, e5⟩ := q
      refine ⟨p, vs, e1, e2, ?_, o.at e4 e5.nt, e5.mono sm⟩
      cases z : B1 p with
      | none => rfl
      | some u =>
        rcases nw p u z with y | y
        · rw [e3] at y; cases y
        · rw [e4] at y; cases y
    | ro xs =>
      obtain ⟨p, vs, e1, e2, e3, e4, e5⟩ := q
      refine ⟨p, vs, e1, e2, ?_, o.at e4 e5.nt, e5.mono sm⟩
      cases z : B1 p with
      | none => rfl
      | some u =>
        rcases nw p u z with y | y
        · rw [e3] at y; cases y
        · rw [e4] at y; cases y
theorem Rel.prvB (R : Rel K S B env σ H) {a : Addr} (h : PrvA env σ a) : S.H0 a = none ∧ B a = none ∧ ∃ o w, H a = some o ∧ OwOk K B o w := by
  obtain ⟨i, e, h1, h2, h3⟩ := h
  have q := R.sl i e h1
  cases e with
  | no => cases h2
  | im d => cases h2
  | ow xs =>
    obtain ⟨p, vs, e1, e2, e3, e4, e5⟩ := q
    rw [h3] at e1
    cases e1
    exact ⟨e2, e3, vs, _, e4, e5⟩
  | ro xs =>
    obtain ⟨p, vs, e1, e2, e3, e4, e5⟩ := q
    rw [h3] at e1
    cases e1
    exact ⟨e2, e3, vs, _, e4, e5⟩
/-- something new is laid, and it never changes -/
theorem Rel.alloc (R : Rel K S B env σ H) {p : Addr} {o : HO} (hn : H p = none) (nt : ∀ ps, o ≠ .tbl ps) : Rel K S (upd B p o) env σ (upd H p o) ∧ Ext env env σ B H (upd B p o) (upd H p o) := by
  have bn : B p = none := R.bh.free hn
  refine R.step (fun a u h => .inl (by rw [upd_ne (ne_of_none h hn)]; exact h)) (fun P hP => ?_) (fun a u h => by rw [upd_ne (ne_of_none h bn)]; exact h) (fun a u h => ?_) (fun a ps h => ?_) fun a u h => ?_
  · obtain ⟨ps, h1, h2⟩ := R.tab P hP
    exact ⟨ps, by rw [upd_ne (ne_of_none h1 hn)]; exact h1, h2⟩
  · by_cases z : a = p
    · subst z; rw [upd_same] at h ⊢; exact h
    · rw [upd_ne z] at h ⊢; exact R.bh a u h
  · by_cases z : a = p
    · subst z; rw [upd_same] at h; exact nt ps (Option.some.inj h)
    · rw [upd_ne z] at h; exact R.nt a ps h
  · by_cases z : a = p
    · subst z; exact .inr hn
    · rw [upd_ne z] at h; exact .inl h
/-- something new is laid that may still change -/
theorem Rel.lay (R : Rel K S B env σ H) {p : Addr} {o : HO} (hn : H p = none) : Rel K S B env σ (upd H p o) ∧ Ext env env σ B H B (upd H p o) := by
  refine R.step (fun a u h => .inl (by rw [upd_ne (ne_of_none h hn)]; exact h)) (fun P hP => ?_) (Same.refl B) (fun a u h => ?_) R.nt fun a u h => .inl h
  · obtain ⟨ps, h1, h2⟩ := R.tab P hP
    exact ⟨ps, by rw [upd_ne (ne_of_none h1 hn)]; exact h1, h2⟩
  · rw [upd_ne (ne_of_none (R.bh a u h) hn)]
    exact R.bh a u h
/-- a list that is no slot's is turned -/
theorem Rel.turn (R : Rel K S B env σ H) {p : Addr} {u0 o : HO} (h0 : S.H0 p = none) (hb : B p = none) (hp : H p = some u0) (nt : ∀ ps, u0 ≠ .tbl ps) (nw : ¬ PrvA env σ p) : Rel K S B env σ (upd H p o) := by
  refine ⟨fun a u h => ?_, fun P hP => ?_, R.b0, fun a u h => ?_, R.nt, R.new, R.len, fun i e h => ?_, R.sep⟩
  · have z : a ≠ p := ne_of_none h h0
    rw [upd_ne z]
    exact R.old a u h
  · obtain ⟨ps, h1, h2⟩ := R.tab P hP
    have z : P ≠ p := ne_of h1 hp (by intro q; exact nt _ q.symm)
    exact ⟨ps, by rw [upd_ne z]; exact h1, h2⟩
  · have z : a ≠ p := ne_of_none h hb
    rw [upd_ne z]
    exact R.bh a u h
  · have q := R.sl i e h
    cases e with
    | no => trivial
    | im d => exact q
    | ow xs =>
      obtain ⟨p', vs', e1, e2, e3, e4, e5⟩ := q
      have z : p' ≠ p := fun y => nw ⟨i, _, h, rfl, by rw [e1, y]⟩
      exact ⟨p', vs', e1, e2, e3, by rw [upd_ne z]; exact e4, e5⟩
    | ro xs =>
      obtain ⟨p', vs', e1, e2, e3, e4, e5⟩ := q
      have z : p' ≠ p := fun y => nw ⟨i, _, h, rfl, by rw [e1, y]⟩
      exact ⟨p', vs', e1, e2, e3, by rw [upd_ne z]; exact e4, e5⟩
/-- what is laid never changes from here on -/
theorem Rel.keep (R : Rel K S B env σ H) {p : Addr} {o : HO} (h0 : S.H0 p = none) (hb : B p = none) (hp : H p = some o) (nt : ∀ ps, o ≠ .tbl ps) (nw : ¬ PrvA env σ p) : Rel K S (upd B p o) env σ H := by
  have sm : Same B (upd B p o) := fun a u h => by rw [upd_ne (ne_of_none h hb)]; exact h
  refine ⟨R.old, R.tab, R.b0.trans sm, fun a u h => ?_, fun a ps h => ?_, fun a u h => ?_, R.len, fun i e h => ?_, R.sep⟩
  · by_cases z : a = p
    · subst z; rw [upd_same] at h; rw [hp]; exact h
    · rw [upd_ne z] at h; exact R.bh a u h
  · by_cases z : a = p
    · subst z; rw [upd_same] at h; exact nt ps (Option.some.inj h)
    · rw [upd_ne z] at h; exact R.nt a ps h
  · by_cases z : a = p
    · subst z; exact .inr h0
    · rw [upd_ne z] at h; exact R.new a u h
  · have q := R.sl i e h
    cases e with
    | no => trivial
    | im d =>
      obtain ⟨v, e1, e2⟩ := q
      exact ⟨v, e1, Dq.mono sm e2⟩
    | ow xs =>
      obtain ⟨p', vs', e1, e2, e3, e4, e5⟩ := q
      have z : p' ≠ p := fun y => nw ⟨i, _, h, rfl, by rw [e1, y]⟩
      exact ⟨p', vs', e1, e2, by rw [upd_ne z]; exact e3, e4, e5.mono sm⟩
    | ro xs =>
      obtain ⟨p', vs', e1, e2, e3, e4, e5⟩ := q
      have z : p' ≠ p := fun y => nw ⟨i, _, h, rfl, by rw [e1, y]⟩
      exact ⟨p', vs', e1, e2, by rw [upd_ne z]; exact e3, e4, e5.mono sm⟩
theorem env_set {env : List Sl} {i j : Nat} {x e : Sl} (h : (env.set i x)[j]? = some e) : (j = i ∧ e = x) ∨ (j ≠ i ∧ env[j]? = some e) := by
  by_cases z : j = i
  · subst z
    left
    have hl : j < env.length := by
      have := (List.getElem?_eq_some_iff.mp h).1
      simpa using this
    rw [List.getElem?_set_self hl] at h
    exact ⟨rfl, (Option.some.inj h).symm⟩
  · rw [List.getElem?_set_ne (Ne.symm z)] at h
    exact .inr ⟨z, h⟩
/-- slot i is forgotten -/
theorem Rel.forget (R : Rel K S B env σ H) (i : Nat) : Rel K S B (env.set i .no) σ H := by
  refine ⟨R.old, R.tab, R.b0, R.bh, R.nt, R.new, by rw [List.length_set]; exact R.len, fun j e h => ?_, fun j k p e e' h1 h2 o1 o2 => ?_⟩
  · rcases env_set h with ⟨rfl, rfl⟩ | ⟨_, h⟩
    · trivial
    · exact R.sl j e h
  · rcases env_set h1 with ⟨rfl, rfl⟩ | ⟨_, h1⟩
    · cases o1
    · rcases env_set h2 with ⟨rfl, rfl⟩ | ⟨_, h2⟩
      · cases o2
      · exact R.sep j k p e e' h1 h2 o1 o2
/-- an own list becomes a datum -/
theorem Rel.freeze (R : Rel K S B env σ H) {i : Nat} {xs : List D} (hi : env[i]? = some (.ow (.l xs))) :
    ∃ p vs, σ[i]? = some (some (.ref p)) ∧ H p = some (.lst vs) ∧ Dq K (upd B p (.lst vs)) (.ref p) (.lst xs) ∧ Rel K S (upd B p (.lst vs)) (env.set i (.im (.lst xs))) σ H ∧ Ext env (env.set i (.im (.lst xs))) σ B H (upd B p (.lst vs)) H := by
  obtain ⟨p, o, e1, e2, e3, e4, e5⟩ := R.sl i _ hi
  obtain ⟨vs, rfl, e5⟩ := e5.l
  have sm : Same B (upd B p (.lst vs)) := fun a u h => by rw [upd_ne (ne_of_none h e3)]; exact h
  have R1 := R.forget i
  have nw : ¬ PrvA (env.set i .no) σ p := fun ⟨j, e, h1, h2, h3⟩ => by
    rcases env_set h1 with ⟨rfl, rfl⟩ | ⟨hne, h1⟩
    · cases h2
    · exact hne (R.sep j i p e _ h1 hi h2 rfl h3 e1)
  have R2 := R1.keep e2 e3 e4 (fun ps z => by cases z) nw
  have dp : Dq K (upd B p (.lst vs)) (.ref p) (.lst xs) := .lst upd_same (DqAll.mono sm e5)
  have hl : i < env.length := (List.getElem?_eq_some_iff.mp hi).1
  refine ⟨p, vs, e1, e4, dp, ⟨R2.old, R2.tab, R2.b0, R2.bh, R2.nt, R2.new, by rw [List.length_set]; exact R.len, fun j e h => ?_, fun j k q e e' h1 h2 o1 o2 => ?_⟩, ⟨fun a ⟨j, e, h1, h2, h3⟩ => ?_, sm, fun a u h => ?_, fun a u h _ => .inl h, fun a h => h⟩⟩
  · rcases env_set h with ⟨rfl, rfl⟩ | ⟨hne, h⟩
    · exact ⟨_, e1, dp⟩
    · exact R2.sl j e (by rw [List.getElem?_set_ne (Ne.symm hne)]; exact h)
  · rcases env_set h1 with ⟨rfl, rfl⟩ | ⟨_, h1⟩
    · cases o1
    · rcases env_set h2 with ⟨rfl, rfl⟩ | ⟨_, h2⟩
      · cases o2
      · exact R.sep j k q e e' h1 h2 o1 o2
  · rcases env_set h1 with ⟨rfl, rfl⟩ | ⟨_, h1⟩
    · cases h2
    · exact ⟨j, e, h1, h2, h3⟩
  · by_cases z : a = p
    · subst z
      exact .inr (.inr ⟨i, _, hi, rfl, e1⟩)
    · rw [upd_ne z] at h
      exact .inl h
/-- an own list is changed -/
theorem Rel.mut (R : Rel K S B env σ H) {i : Nat} {xs ys : Ow} {p : Addr} {us : HO} (hi : env[i]? = some (.ow xs)) (hp : σ[i]? = some (some (.ref p))) (hd : OwOk K B us ys) :
    Rel K S B (env.set i (.ow ys)) σ (upd H p us) ∧ Ext env (env.set i (.ow ys)) σ B H B (upd H p us) := by
  obtain ⟨p', vs, e1, e2, e3, e4, e5⟩ := R.sl i _ hi
  rw [hp] at e1
  cases e1
  have R1 := R.forget i
  have nw : ¬ PrvA (env.set i .no) σ p := fun ⟨j, e, h1, h2, h3⟩ => by
    rcases env_set h1 with ⟨rfl, rfl⟩ | ⟨hne, h1⟩
    · cases h2
    · exact hne (R.sep j i p e _ h1 hi h2 rfl h3 hp)
  have R2 := R1.turn (o := us) e2 e3 e4 e5.nt nw
  refine ⟨⟨R2.old, R2.tab, R2.b0, R2.bh, R2.nt, R2.new, by rw [List.length_set]; exact R.len, fun j e h => ?_, fun j k q e e' h1 h2 o1 o2 => ?_⟩, ⟨fun a ⟨j, e, h1, h2, h3⟩ => ?_, Same.refl B, fun a u h => .inl h, fun a u h n => ?_, fun a h => ?_⟩⟩
  · rcases env_set h with ⟨rfl, rfl⟩ | ⟨hne, h⟩
    · exact ⟨p, us, hp, e2, e3, upd_same, hd⟩
    · exact R2.sl j e (by rw [List.getElem?_set_ne (Ne.symm hne)]; exact h)
  · have c1 : ∃ e0, env[j]? = some e0 ∧ e0.prv = true := by
      rcases env_set h1 with ⟨rfl, rfl⟩ | ⟨_, h1⟩
      · exact ⟨_, hi, rfl⟩
      · exact ⟨e, h1, o1⟩
    have c2 : ∃ e0, env[k]? = some e0 ∧ e0.prv = true := by
      rcases env_set h2 with ⟨rfl, rfl⟩ | ⟨_, h2⟩
      · exact ⟨_, hi, rfl⟩
      · exact ⟨e', h2, o2⟩
    obtain ⟨x1, y1, z1⟩ := c1
    obtain ⟨x2, y2, z2⟩ := c2
    exact R.sep j k q x1 x2 y1 y2 z1 z2
  · rcases env_set h1 with ⟨rfl, rfl⟩ | ⟨_, h1⟩
    · exact ⟨_, _, hi, rfl, h3⟩
    · exact ⟨j, e, h1, h2, h3⟩
  · have z : a ≠ p := fun y => n (by rw [y]; exact ⟨i, _, hi, rfl, hp⟩)
    exact .inl (by rw [upd_ne z]; exact h)
  · have z : a ≠ p := fun y => by rw [y, upd_same] at h; cases h
    rw [upd_ne z] at h
    exact h
/-- a name is given a datum -/
theorem Rel.setIm (R : Rel K S B env σ H) {v : V} {d : D} (i : Nat) (hd : Dq K B v d) : Rel K S B (env.set i (.im d)) (σ.set i (some v)) H := by
  have σne : ∀ {j : Nat}, j ≠ i → (σ.set i (some v))[j]? = σ[j]? := fun {j} h => List.getElem?_set_ne (Ne.symm h)
  refine ⟨R.old, R.tab, R.b0, R.bh, R.nt, R.new, by rw [List.length_set, List.length_set]; exact R.len, fun j e h => ?_, fun j k q e e' h1 h2 o1 o2 s1 s2 => ?_⟩
  · rcases env_set h with ⟨rfl, rfl⟩ | ⟨hne, h⟩
    · have hl : j < σ.length := by
        rw [← R.len]
        have := (List.getElem?_eq_some_iff.mp h).1
        simpa using this
      exact ⟨v, List.getElem?_set_self hl, hd⟩
    · rw [σne hne]
      exact R.sl j e h
  · rcases env_set h1 with ⟨rfl, rfl⟩ | ⟨n1, h1⟩
    · cases o1
    · rcases env_set h2 with ⟨rfl, rfl⟩ | ⟨n2, h2⟩
      · cases o2
      · rw [σne n1] at s1
        rw [σne n2] at s2
        exact R.sep j k q e e' h1 h2 o1 o2 s1 s2
/-- a name is given a list of its own -/
theorem Rel.setOw (R : Rel K S B env σ H) {p : Addr} {vs : HO} {xs : Ow} (i : Nat) (h0 : S.H0 p = none) (hb : B p = none) (hp : H p = some vs) (hd : OwOk K B vs xs) (nw : ¬ PrvA env σ p) :
    Rel K S B (env.set i (.ow xs)) (σ.set i (some (.ref p))) H := by
  have σne : ∀ {j : Nat}, j ≠ i → (σ.set i (some (.ref p)))[j]? = σ[j]? := fun {j} h => List.getElem?_set_ne (Ne.symm h)
  refine ⟨R.old, R.tab, R.b0, R.bh, R.nt, R.new, by rw [List.length_set, List.length_set]; exact R.len, fun j e h => ?_, fun j k q e e' h1 h2 o1 o2 s1 s2 => ?_⟩
  · rcases env_set h with ⟨rfl, rfl⟩ | ⟨hne, h⟩
    · have hl : j < σ.length := by
        rw [← R.len]
        have := (List.getElem?_eq_some_iff.mp h).1
        simpa using this
      exact ⟨p, vs, List.getElem?_set_self hl, h0, hb, hp, hd⟩
    · rw [σne hne]
      exact R.sl j e h
  · rcases env_set h1 with ⟨rfl, rfl⟩ | ⟨n1, h1'⟩
    · rcases env_set h2 with ⟨rfl, rfl⟩ | ⟨n2, h2'⟩
      · rfl
      · exfalso
        have hl : j < σ.length := by
          rw [← R.len]
          have := (List.getElem?_eq_some_iff.mp h1).1
          simpa using this
        rw [List.getElem?_set_self hl] at s1
        cases s1
        rw [σne n2] at s2
        exact nw ⟨k, e', h2', o2, s2⟩
    · rcases env_set h2 with ⟨rfl, rfl⟩ | ⟨n2, h2'⟩
      · exfalso
        have hl : k < σ.length := by
          rw [← R.len]
          have := (List.getElem?_eq_some_iff.mp h2).1
          simpa using this
        rw [List.getElem?_set_self hl] at s2
        cases s2
        rw [σne n1] at s1
        exact nw ⟨j, e, h1', o1, s1⟩
      · rw [σne n1] at s1
        rw [σne n2] at s2
        exact R.sep j k q e e' h1' h2' o1 o2 s1 s2
end
end Pf
namespace Pf
open PySem PyProof.Rows L2 PySem.Spec
/-! ### new tuples, known by their object (which has no dict) -/
/-- Q of a new tuple of these -/
def NewT (H : Hp) (xs : List V) (Q : VK) : Prop := ∀ (p : Addr) (ob : Obj), H p = none → ob.dict = none → Q (.ref p) (upd H p (.frz ob (.tup xs)))
section
variable {X : Cx}
/-- what is known of it where it was laid -/
theorem obj_new {P : Program} {w : World} {H : Hp} {h : Heap} {xs : List V} {us : List Value} {n : Nat} (few : xs.length ≤ sizeLine) (r : Vals xs us) :
    ObjOk P w H (h.push { cls := .type "tuple", data := .seq us.toArray n }) h.objs.size (.frz { cls := .type "tuple", data := .seq us.toArray n } (.tup xs)) :=
  have e := Heap.get?_push_size h (o := { cls := .type "tuple", data := .seq us.toArray n }) rfl
  ⟨e, few, us, r, _, e, rfl, _, rfl⟩
theorem inv_new {pins : List (Addr × Obj)} {σ : L2.St} {H : Hp} {s : Shared} {xs : List V} {us : List Value} {Q : VK} {n t : Nat} (I : Inv X pins σ H s) (few : xs.length ≤ sizeLine) (r : Vals xs us) (q : NewT H xs Q) :
    ∃ x H', Inv X pins σ H' { s with heap := s.heap.push { cls := .type "tuple", data := .seq us.toArray n }, toks := t } ∧ RelV x (.ref s.heap.objs.size) ∧ Q x H' :=
  ⟨.ref s.heap.objs.size, _, I.laid (t' := t) (fun _ _ e => Heap.get?_push_of_some _ e) (Nat.le_refl _) (obj_new few r), rfl, q _ _ (I.hok.fresh (Nat.le_refl _)) rfl⟩
theorem pe_tupF {es : List Expr} {t : TA} {pos : Pos} {c : Nat} (h : PA X es t) : PE X (.Tuple es c pos) fun σ H Q => t σ H fun xs H1 => xs.length ≤ sizeLine ∧ NewT H1 xs Q := by
  constructor
  intro pins s σ H Q I hq
  refine wpAny_Tuple_spliced (thn (h.run pos pins s σ H _ I hq) fun us s1 h1 => ?_)
  obtain ⟨xs, H1, I1, r, few, q⟩ := h1
  exact ⟨by rw [← r.length]; exact few, inv_new I1 few r q⟩
theorem or_catF : OpR X (binaryOp .Add) fun x y H Q => ∃ a b xs ys, x = .ref a ∧ y = .ref b ∧ SqT X.K H a xs ∧ SqT X.K H b ys ∧ xs.length + ys.length ≤ sizeLine ∧
    (xs = [] → Q (.ref b) H) ∧ (xs ≠ [] → ys = [] → Q (.ref a) H) ∧ (xs ≠ [] → ys ≠ [] → NewT H (xs ++ ys) Q) := by
  intro _ st σ H x y v u Q inv rx ry told
  obtain ⟨a, b, xs, ys, rfl, rfl, sa, sb, few, q0, q1, q2⟩ := told
  cases rx
  cases ry
  obtain ⟨us, r1, p1, _⟩ := inv.tuple sa
  obtain ⟨ws, r2, p2, _⟩ := inv.tuple sb
  by_cases e : xs = []
  · subst e
    cases r1
    exact cat_tup0 p1 p2 ⟨V.ref b, H, inv, rfl, q0 rfl⟩
  · refine HT.cat_tup p1 p2 (fun z => e (r1.nil_iff.mp z)) (fun z => ⟨V.ref a, H, inv, rfl, q1 e (r2.nil_iff.mp z)⟩) (fun z => ?_) (by rw [← r1.length, ← r2.length]; exact few)
    exact inv_new inv (by rw [List.length_append]; exact few) (r1.append r2) (q2 e fun w => z (r2.nil_iff.mpr w))
theorem sl_tupF : SlR X fun x lo hi H Q => ∃ a xs, x = .ref a ∧ SqT X.K H a xs ∧ ¬ (HT.sIx xs.length 0 lo = 0 ∧ HT.sIx xs.length xs.length hi = xs.length) ∧ NewT H (cutV xs lo hi) Q := by
  intro _ st σ H x v vl vu lo hi sl Q inv rx hs pl pu told
  obtain ⟨a, xs, rfl, sa, part, q⟩ := told
  cases rx
  obtain ⟨us, r, ht, few⟩ := inv.tuple sa
  have len : us.toArray.size = xs.length := (List.size_toArray (as := us)).trans r.length.symm
  have at_ := PyProof.Rows.slot_tuple_getitem.lookup
  refine ⟨"tuple", _, at_, ht.typeIs, ?_⟩
  refine HT.getItem_tuple_cut ht hs pl pu (by rw [len]; exact part) ?_ (by rw [len]; exact few)
  rw [len]
  exact inv_new inv (Nat.le_trans (cutV_length xs lo hi) few) ((r.drop _).take _) q
end
end Pf
namespace Pf
open PySem PySem.Spec PyProof.Rows L2 GxR GenW Gx
/-! ### what a piece of the program makes of the slots -/
structure Exn where
  cls : Str
  fs : List (Str × D) := []
inductive Rs (α : Type) where
  | ok (a : α) (env : List Sl) | ex (x : Exn) | bad
def Rs.bind {α β : Type} (r : Rs α) (f : α → List Sl → Rs β) : Rs β :=
  match r with
  | .ok a e => f a e
  | .ex x => .ex x
  | .bad => .bad
def Rs.map {α β : Type} (r : Rs α) (f : α → β) : Rs β := r.bind fun a e => .ok (f a) e
/-- nothing may be raised here -/
def Rs.calm {α : Type} : Rs α → Rs α
  | .ok a e => .ok a e
  | .ex _ => .bad
  | .bad => .bad
def Rs.opt {α : Type} (o : Option α) (e : List Sl) : Rs α :=
  match o with
  | some a => .ok a e
  | none => .bad
/-- what is asked of an error that leaves -/
structure Xw where
  E : XK
  xc : Str → Option Value
def XOk (K : PySem.W.Frag) (S : Se) (M : Xw) (x : Exn) : Prop := ∃ C, M.xc x.cls = some C ∧
  (x.fs = [] → ∀ H', Old S.H0 H' → Tb S.T H' → M.E C none H') ∧
  (x.fs ≠ [] → ∀ H' B' d vs, Old S.H0 H' → Tb S.T H' → Same B' H' → H' d = some (.xd ((x.fs.map Prod.fst).zip vs)) → DqAll K B' vs (x.fs.map Prod.snd) → M.E C (some d) H')
def Xw.calm (M : Xw) : Xw := ⟨fun _ _ _ => False, M.xc⟩
def Post {α : Type} (K : PySem.W.Frag) (S : Se) (M : Xw) (σ : L2.St) (B H : Hp) (env : List Sl) (r : Rs α) (k : α → List Sl → Hp → Hp → Prop) : Prop :=
  match r with
  | .ok a e => ∀ B' H', Rel K S B' e σ H' → Ext env e σ B H B' H' → k a e B' H'
  | .ex x => XOk K S M x
  | .bad => False
section
variable {K : PySem.W.Frag} {S : Se} {M : Xw} {σ : L2.St} {B H : Hp} {env : List Sl} {α β : Type}
theorem Post.bind {r : Rs α} {f : α → List Sl → Rs β} {k : β → List Sl → Hp → Hp → Prop} (h : Post K S M σ B H env (r.bind f) k) :
    Post K S M σ B H env r fun a e B1 H1 => Post K S M σ B1 H1 e (f a e) k := by
  cases r with
  | bad => exact h
  | ex x => exact h
  | ok a e =>
    intro B1 H1 R1 X1
    have h' : Post K S M σ B H env (f a e) k := h
    revert h'
    cases f a e with
    | bad => exact fun h => h
    | ex x => exact fun h => h
    | ok b e2 => exact fun h B2 H2 R2 X2 => h B2 H2 R2 (X1.trans X2)
theorem Post.mono {r : Rs α} {k k' : α → List Sl → Hp → Hp → Prop} (h : Post K S M σ B H env r k)
    (m : ∀ a e B' H', Rel K S B' e σ H' → Ext env e σ B H B' H' → k a e B' H' → k' a e B' H') : Post K S M σ B H env r k' := by
  cases r with
  | bad => exact h
  | ex x => exact h
  | ok a e => exact fun B' H' R X => m a e B' H' R X (h B' H' R X)
theorem Post.ok {a : α} {k : α → List Sl → Hp → Hp → Prop} (h : Post K S M σ B H env (.ok a env) k) (R : Rel K S B env σ H) : k a env B H := h B H R Ext.refl
theorem Post.calm {r : Rs α} {k : α → List Sl → Hp → Hp → Prop} (h : Post K S M σ B H env r.calm k) : ∀ {M' : Xw}, Post K S M' σ B H env r k := by
  cases r with
  | bad => exact h
  | ex x => exact False.elim h
  | ok a e => exact h
end
/-! ### readings -/
def semE (K : PySem.W.Frag) (S : Se) (M : Xw) (f : List Sl → Rs D) : TE := fun σ H Q =>
  ∃ B env, Rel K S B env σ H ∧ Post K S M σ B H env (f env) fun d _ B' H' => ∀ v, Dq K B' v d → Q v H'
def semT (K : PySem.W.Frag) (S : Se) (M : Xw) (f : List Sl → Rs Bool) : TT := fun σ H Q =>
  ∃ B env, Rel K S B env σ H ∧ Post K S M σ B H env (f env) fun b _ B' H' => Q b H'
def semA (K : PySem.W.Frag) (S : Se) (M : Xw) (f : List Sl → Rs (List D)) : TA := fun σ H Q =>
  ∃ B env, Rel K S B env σ H ∧ Post K S M σ B H env (f env) fun ds _ B' H' => ∀ vs, DqAll K B' vs ds → Q vs H'
/-- a list that is new, and no one's -/
def Fresh (S : Se) (B : Hp) (env : List Sl) (σ : L2.St) (H : Hp) (p : Addr) (o : HO) : Prop := S.H0 p = none ∧ B p = none ∧ H p = some o ∧ ¬ PrvA env σ p
def semN (K : PySem.W.Frag) (S : Se) (M : Xw) (f : List Sl → Rs Ow) : TE := fun σ H Q =>
  ∃ B env, Rel K S B env σ H ∧ Post K S M σ B H env (f env) fun w e B' H' => ∀ p o, H p = none → Fresh S B' e σ H' p o → OwOk K B' o w → Q (.ref p) H'
/-- statements -/
inductive Ro where
  | nx (env : List Sl) | rt (d : D) | bk (env : List Sl) | ct (env : List Sl) | ex (x : Exn) | bad
def PostS (K : PySem.W.Frag) (S : Se) (M : Xw) (B : Hp) (r : Ro) (D0 : Ends) : Prop :=
  match r with
  | .nx e => ∀ B' H' σ', Rel K S B' e σ' H' → Same B B' → D0.nx σ' H'
  | .bk e => ∀ B' H' σ', Rel K S B' e σ' H' → Same B B' → D0.bk σ' H'
  | .ct e => ∀ B' H' σ', Rel K S B' e σ' H' → Same B B' → D0.ct σ' H'
  | .rt d => ∀ B' H' v, Rel K S B' [] [] H' → Same B B' → Dq K B' v d → D0.rt v H'
  | .ex x => XOk K S M x
  | .bad => False
def semS (K : PySem.W.Frag) (S : Se) (M : Xw) (f : List Sl → Ro) : TS := fun D0 σ H =>
  ∃ B env, Rel K S B env σ H ∧ PostS K S M B (f env) D0
structure PV (X : Cx) (S : Se) (M : Xw) (e : Expr) (f : List Sl → Rs D) : Prop where
  pe : PE X e (semE X.K S M f)
structure PN (X : Cx) (S : Se) (M : Xw) (e : Expr) (f : List Sl → Rs Ow) : Prop where
  pe : PE X e (semN X.K S M f)
structure PB (X : Cx) (S : Se) (M : Xw) (e : Expr) (f : List Sl → Rs Bool) : Prop where
  pt : PT X e (semT X.K S M f)
structure PAs (X : Cx) (S : Se) (M : Xw) (es : List Expr) (f : List Sl → Rs (List D)) : Prop where
  pa : PA X es (semA X.K S M f)
structure PX (X : Cx) (S : Se) (M : Xw) (st : Stmt) (f : List Sl → Ro) : Prop where
  ps : PS X st (semS X.K S M f)
structure PXs (X : Cx) (S : Se) (M : Xw) (st : List Stmt) (f : List Sl → Ro) : Prop where
  ps : PSs X st (semS X.K S M f)
section
variable {X : Cx} {S : Se} {M : Xw}
theorem peI {e : Expr} {t t' : TE} (h : PE X e t) (m : ∀ σ H Q, t' σ H Q → t σ H Q) : PE X e t' := ⟨fun p s σ H Q i q => h.run p s σ H Q i (m σ H Q q)⟩
theorem ptI {e : Expr} {t t' : TT} (h : PT X e t) (m : ∀ σ H Q, t' σ H Q → t σ H Q) : PT X e t' := ⟨fun p s σ H Q i q => h.run p s σ H Q i (m σ H Q q)⟩
theorem paI {e : List Expr} {t t' : TA} (h : PA X e t) (m : ∀ σ H Q, t' σ H Q → t σ H Q) : PA X e t' := ⟨fun o p s σ H Q i q => h.run o p s σ H Q i (m σ H Q q)⟩
theorem psI {e : Stmt} {t t' : TS} (h : PS X e t) (m : ∀ D σ H, t' D σ H → t D σ H) : PS X e t' := ⟨fun p s σ H D i q => h.run p s σ H D i (m D σ H q)⟩
theorem pssI {e : List Stmt} {t t' : TS} (h : PSs X e t) (m : ∀ D σ H, t' D σ H → t D σ H) : PSs X e t' := ⟨fun p s σ H D i q => h.run p s σ H D i (m D σ H q)⟩
/-! ### names, constants -/
/-- the datum of a slot; a list of one's own is one from here on -/
def rdN (i : Nat) (env : List Sl) : Rs D :=
  match env[i]? with
  | some (.im d) => .ok d env
  | some (.ow (.l xs)) => .ok (.lst xs) (env.set i (.im (.lst xs)))
  | _ => .bad
theorem pv_name {x : Str} {i : Nat} {pos : Pos} (hN : X.N[i]? = some x) (hv : Vis X.env.scope x) (h1 : (x == Str.ofString "__debug__") = false := by rfl) (h2 : (x == Str.ofString "__classdict__") = false := by rfl) :
    PV X S M (.Name x pos) (rdN i) := ⟨peI (pe_var hN hv h1 h2) (by
  rintro σ H Q ⟨B, env, R, P⟩
  unfold rdN at P
  split at P
  · rename_i d hd
    obtain ⟨v, e1, e2⟩ := R.sl i _ hd
    exact ⟨v, e1, P.ok R v e2⟩
  · rename_i xs hx
    obtain ⟨p, vs, e1, e2, e3, R', E'⟩ := R.freeze hx
    exact ⟨_, e1, P _ _ R' E' _ e3⟩
  · exact P.elim)⟩
theorem pv_const {e : Expr} {v : V} {d : D} (h : PE X e (tC v)) (hd : ∀ B, Dq X.K B v d) : PV X S M e (fun env => .ok d env) :=
  ⟨peI h (by rintro σ H Q ⟨B, env, R, P⟩; exact P.ok R v (hd B))⟩
theorem pv_int {i : Int} {j : Nat} {pos : Pos} : PV X S M (.Constant (.int i) j pos) (fun env => .ok (.int i) env) := pv_const pe_int fun _ => .int i
theorem pv_str {i : Str} {j : Nat} {pos : Pos} : PV X S M (.Constant (.str i) j pos) (fun env => .ok (.str i) env) := pv_const pe_str fun _ => .str i
theorem pv_bl {i : Bool} {j : Nat} {pos : Pos} : PV X S M (.Constant (.bool i) j pos) (fun env => .ok (.bl i) env) := pv_const pe_bl fun _ => .bl i
/-! ### operators -/
/-- from B, H on only new things -/
structure Grow (K : PySem.W.Frag) (S : Se) (B H B' H' : Hp) : Prop where
  old : Old H H'
  tab : Tb S.T H'
  same : Same B B'
  bh : Same B' H'
  nt : NoT B'
  new : ∀ a o, B' a = some o → B a = some o ∨ H a = none
theorem Grow.rel {B H B' H' : Hp} {env : List Sl} {σ : L2.St} (g : Grow X.K S B H B' H') (R : Rel X.K S B env σ H) : Rel X.K S B' env σ H' ∧ Ext env env σ B H B' H' :=
  R.step g.old g.tab g.same g.bh g.nt g.new
theorem Grow.refl {B H : Hp} (tab : Tb S.T H) (bh : Same B H) (nt : NoT B) : Grow X.K S B H B H := ⟨Old.refl H, tab, Same.refl B, bh, nt, fun _ _ h => .inl h⟩
theorem Grow.alloc {B H : Hp} {p : Addr} {o : HO} (tab : Tb S.T H) (bh : Same B H) (nt : NoT B) (hn : H p = none) (no : ∀ ps, o ≠ .tbl ps) : Grow X.K S B H (upd B p o) (upd H p o) := by
  have bn : B p = none := bh.free hn
  refine ⟨fun a u h => .inl (by rw [upd_ne (ne_of_none h hn)]; exact h), fun P hP => ?_, fun a u h => by rw [upd_ne (ne_of_none h bn)]; exact h, fun a u h => ?_, fun a ps h => ?_, fun a u h => ?_⟩
  · obtain ⟨ps, h1, h2⟩ := tab P hP
    exact ⟨ps, by rw [upd_ne (ne_of_none h1 hn)]; exact h1, h2⟩
  · by_cases z : a = p
    · subst z; rw [upd_same] at h ⊢; exact h
    · rw [upd_ne z] at h ⊢; exact bh a u h
  · by_cases z : a = p
    · subst z; rw [upd_same] at h; exact no ps (Option.some.inj h)
    · rw [upd_ne z] at h; exact nt a ps h
  · by_cases z : a = p
    · subst z; exact .inr hn
    · rw [upd_ne z] at h; exact .inl h
/-- a wish of a value d: for each value that is it, in a heap that has only grown -/
def Wish (K : PySem.W.Frag) (S : Se) (B H : Hp) (d : D) (Q : VK) : Prop := ∀ v B' H', Grow K S B H B' H' → Dq K B' v d → Q v H'
structure Sit (K : PySem.W.Frag) (S : Se) (B H : Hp) : Prop where
  tab : Tb S.T H
  bh : Same B H
  nt : NoT B
theorem Rel.sit {K : PySem.W.Frag} {B H : Hp} {env : List Sl} {σ : L2.St} (R : Rel K S B env σ H) : Sit K S B H := ⟨R.tab, R.bh, R.nt⟩
theorem Wish.now {B H : Hp} {d : D} {Q : VK} {v : V} (s : Sit X.K S B H) (w : Wish X.K S B H d Q) (h : Dq X.K B v d) : Q v H := w v B H (.refl s.tab s.bh s.nt) h
theorem Post.wish {B H : Hp} {d : D} {Q : VK} {env : List Sl} {σ : L2.St} (R : Rel X.K S B env σ H) (P : Post X.K S M σ B H env (.ok d env) fun d _ B' H' => ∀ v, Dq X.K B' v d → Q v H') : Wish X.K S B H d Q :=
  fun v B' H' g h => P B' H' (g.rel R).1 (g.rel R).2 v h
/-- an operator on values, as data -/
structure OpD (X : Cx) (S : Se) (op : Value → Value → Sem Value) (c : D → D → Option D) : Prop where
  ex : ∃ r, OpR X op r ∧ ∀ B H x y d e z Q, Sit X.K S B H → Dq X.K B x d → Dq X.K B y e → c d e = some z → Wish X.K S B H z Q → r x y H Q
def f2 (f g : List Sl → Rs D) (c : D → D → Option D) (env : List Sl) : Rs D :=
  (f env).bind fun d e => (g e).bind fun d2 e2 => .opt (c d d2) e2
theorem sem2 {r : R2} {f g : List Sl → Rs D} {c : D → D → Option D}
    (h : ∀ B H x y d e z Q, Sit X.K S B H → Dq X.K B x d → Dq X.K B y e → c d e = some z → Wish X.K S B H z Q → r x y H Q) :
    ∀ σ H Q, semE X.K S M (f2 f g c) σ H Q → tOp r (semE X.K S M f) (semE X.K S M g) σ H Q := by
  rintro σ H Q ⟨B, env, R, P⟩
  refine ⟨B, env, R, (Post.bind P).mono fun d e B1 H1 R1 X1 P1 x hx => ⟨B1, e, R1, (Post.bind P1).mono fun d2 e2 B2 H2 R2 X2 P2 y hy => ?_⟩⟩
  cases q : c d d2 with
  | none => rw [q] at P2; exact P2.elim
  | some z =>
    rw [q] at P2
    exact h B2 H2 x y d d2 z Q R2.sit (hx.mono X2.same) hy q (Post.wish R2 P2)
theorem pv_op {a b : Expr} {op : Operator} {pos : Pos} {f g : List Sl → Rs D} {c : D → D → Option D} (o : OpD X S (binaryOp op) c) (ha : PV X S M a f) (hb : PV X S M b g) :
    PV X S M (.BinOp a op b pos) (f2 f g c) := by
  obtain ⟨r, h1, h2⟩ := o.ex
  exact ⟨peI (pe_op h1 ha.pe hb.pe) (sem2 h2)⟩
theorem pv_cmp {a b : Expr} {op : CmpOp} {pos : Pos} {f g : List Sl → Rs D} {c : D → D → Option D} (o : OpD X S (compareOp op) c) (hm : behindInMarks op b = false) (ha : PV X S M a f) (hb : PV X S M b g) :
    PV X S M (.Compare a [op] [b] pos) (f2 f g c) := by
  obtain ⟨r, h1, h2⟩ := o.ex
  exact ⟨peI (pe_cmpR h1 ha.pe hb.pe hm) (sem2 h2)⟩
end
end Pf
namespace Pf
open PySem PySem.Spec PyProof.Rows L2 GxR GenW Gx
section
variable {X : Cx} {S : Se} {M : Xw}
/-! ### truth, tests -/
def D.asB : D → Option Bool
  | .bl b => some b
  | _ => none
theorem dq_bl {B : Hp} {v : V} {d : D} {b : Bool} (h : Dq X.K B v d) (e : d.asB = some b) : v = .bl b := by
  cases h <;> first | (cases e; rfl) | cases e
def fNot (f : List Sl → Rs D) (env : List Sl) : Rs D := (f env).bind fun d e => Rs.opt (d.asB.map fun b => .bl (!b)) e
def fAnd (f g : List Sl → Rs D) (env : List Sl) : Rs D := (f env).bind fun d e => (Rs.opt d.asB e).bind fun b e => if b = true then g e else .ok (.bl false) e
def fOr (f g : List Sl → Rs D) (env : List Sl) : Rs D := (f env).bind fun d e => (Rs.opt d.asB e).bind fun b e => if b = true then .ok (.bl true) e else g e
theorem pv_one {a : Expr} {pos : Pos} {op : BoolOp} {f : List Sl → Rs D} (ha : PV X S M a f) : PV X S M (.BoolOp op [a] pos) f := ⟨pe_one ha.pe⟩
theorem pv_and {a b : Expr} {pos : Pos} {rest : List Expr} {f g : List Sl → Rs D} (ha : PV X S M a f) (hb : PV X S M (.BoolOp .And (b :: rest) pos) g) : PV X S M (.BoolOp .And (a :: b :: rest) pos) (fAnd f g) := ⟨peI (pe_and ha.pe hb.pe) (by
  rintro σ H Q ⟨B, env, R, P⟩
  refine ⟨B, env, R, (Post.bind P).mono fun d e B1 H1 R1 X1 P1 x hx => ?_⟩
  cases q : d.asB with
  | none => rw [q] at P1; exact P1.elim
  | some b =>
    rw [q] at P1
    refine ⟨b, dq_bl hx q, ?_⟩
    have P2 : Post X.K S M σ B1 H1 e (if b = true then g e else .ok (.bl false) e) _ := P1
    cases b with
    | true => exact ⟨B1, e, R1, P2⟩
    | false => exact P2.ok R1 _ (.bl _))⟩
/-- truth of a datum -/
def D.tru : D → Option Bool
  | .non => some false
  | .bl b => some b
  | .int i => some (i != 0)
  | .str y => if y.length ≤ sizeLine then some ((y.length : Int) != 0) else none
  | .lst xs => some !xs.isEmpty
  | .tup xs => some !xs.isEmpty
  | _ => none
theorem dqall_isEmpty {K : PySem.W.Frag} {B : Hp} {vs : List V} {ds : List D} (h : DqAll K B vs ds) : vs.isEmpty = ds.isEmpty := by
  cases h <;> rfl
theorem dq_tru {B H : Hp} {v : V} {d : D} {b : Bool} (bh : Same B H) (h : Dq X.K B v d) (e : d.tru = some b) : TruV X.K v H b := by
  cases h with
  | non => cases e; rfl
  | bl b => cases e; rfl
  | int i => cases e; rfl
  | str y =>
    rw [D.tru] at e
    split at e
    · rename_i hl
      cases e
      exact ⟨hl, rfl⟩
    · cases e
  | lst h1 h2 =>
    cases e
    exact .inl ⟨_, SqL.of (bh _ _ h1), by rw [dqall_isEmpty h2]⟩
  | tup h1 h2 =>
    cases e
    exact .inr (.inl ⟨_, same_tup bh h1, by rw [dqall_isEmpty h2]⟩)
  | scr _ => cases e
  | rng _ => cases e
  | st _ => cases e
def fTru (f : List Sl → Rs D) (env : List Sl) : Rs Bool := (f env).bind fun d e => Rs.opt d.tru e
theorem pb_tru {a : Expr} {f : List Sl → Rs D} (ha : PV X S M a f) (he : ∀ whole, PySem.isTrue a X.env whole = (do let v ← whole; standAt a.pos; holding [v] (truthy v)) := by intro _; rfl) : PB X S M a (fTru f) := ⟨ptI (pt_truth ha.pe he) (by
  rintro σ H Q ⟨B, env, R, P⟩
  refine ⟨B, env, R, (Post.bind P).mono fun d e B1 H1 R1 X1 P1 x hx => ?_⟩
  cases q : d.tru with
  | none => rw [q] at P1; exact P1.elim
  | some b =>
    rw [q] at P1
    exact ⟨b, dq_tru R1.bh hx q, P1.ok R1⟩)⟩
def fAsB (f : List Sl → Rs D) (env : List Sl) : Rs Bool := (f env).bind fun d e => Rs.opt d.asB e
theorem semT_of {t : TE} {f : List Sl → Rs D} (ht : ∀ σ H Q, semE X.K S M f σ H Q → t σ H Q) : ∀ σ H Q, semT X.K S M (fAsB f) σ H Q → tTest t σ H Q := by
  rintro σ H Q ⟨B, env, R, P⟩
  refine ht σ H _ ⟨B, env, R, (Post.bind P).mono fun d e B1 H1 R1 X1 P1 x hx => ?_⟩
  cases q : d.asB with
  | none => rw [q] at P1; exact P1.elim
  | some b =>
    rw [q] at P1
    exact ⟨b, dq_bl hx q, P1.ok R1⟩
theorem pb_cmp {a b : Expr} {op : CmpOp} {pos : Pos} {f g : List Sl → Rs D} {c : D → D → Option D} (o : OpD X S (compareOp op) c) (hm : behindInMarks op b = false) (ha : PV X S M a f) (hb : PV X S M b g) :
    PB X S M (.Compare a [op] [b] pos) (fAsB (f2 f g c)) := by
  obtain ⟨r, h1, h2⟩ := o.ex
  exact ⟨ptI (pt_cmpR h1 ha.pe hb.pe hm) (semT_of (sem2 h2))⟩
/-- a < b < c -/
def fChain (f g h : List Sl → Rs D) (c1 c2 : D → D → Option D) (env : List Sl) : Rs D :=
  (f env).bind fun d e => (g e).bind fun d2 e => (Rs.opt ((c1 d d2).bind D.asB) e).bind fun k e =>
    if k = true then (h e).bind fun d3 e => Rs.opt (c2 d2 d3) e else .ok (.bl false) e
theorem sem_chain {r r' : R2} {f g h : List Sl → Rs D} {c1 c2 : D → D → Option D}
    (h1 : ∀ B H x y d e z Q, Sit X.K S B H → Dq X.K B x d → Dq X.K B y e → c1 d e = some z → Wish X.K S B H z Q → r x y H Q)
    (h2 : ∀ B H x y d e z Q, Sit X.K S B H → Dq X.K B x d → Dq X.K B y e → c2 d e = some z → Wish X.K S B H z Q → r' x y H Q) :
    ∀ σ H Q, semE X.K S M (fChain f g h c1 c2) σ H Q → tChain r r' (semE X.K S M f) (semE X.K S M g) (semE X.K S M h) σ H Q := by
  rintro σ H Q ⟨B, env, R, P⟩
  refine ⟨B, env, R, (Post.bind P).mono fun d e B1 H1 R1 X1 P1 x hx => ⟨B1, e, R1, (Post.bind P1).mono fun d2 e2 B2 H2 R2 X2 P2 y hy => ?_⟩⟩
  cases q : c1 d d2 with
  | none => rw [q] at P2; exact P2.elim
  | some z =>
    cases q2 : z.asB with
    | none => rw [q, Option.bind_some, q2] at P2; exact P2.elim
    | some k =>
      rw [q, Option.bind_some, q2] at P2
      have P3 : Post X.K S M σ B2 H2 e2 (if k = true then (h e2).bind fun d3 e => Rs.opt (c2 d2 d3) e else .ok (.bl false) e2) _ := P2
      refine h1 B2 H2 x y d d2 z _ R2.sit (hx.mono X2.same) hy q fun v B3 H3 g3 hv => ⟨k, dq_bl hv q2, ?_⟩
      have R3 := (g3.rel R2).1
      have X3 := (g3.rel R2).2
      cases k with
      | false =>
        rw [if_neg (by simp)] at P3 ⊢
        exact P3 B3 H3 R3 X3 _ (.bl _)
      | true =>
        rw [if_pos rfl] at P3 ⊢
        have P4 : Post X.K S M σ B3 H3 e2 ((h e2).bind fun d3 e => Rs.opt (c2 d2 d3) e) (fun d _ B' H' => ∀ v, Dq X.K B' v d → Q v H') := by
          revert P3
          cases ((h e2).bind fun d3 e => Rs.opt (c2 d2 d3) e) with
          | bad => exact fun h => h
          | ex x => exact fun h => h
          | ok b e3 => exact fun h B4 H4 R4 X4 => h B4 H4 R4 (X3.trans X4)
        refine ⟨B3, e2, R3, (Post.bind P4).mono fun d3 e3 B4 H4 R4 X4 P5 w hw => ?_⟩
        cases q5 : c2 d2 d3 with
        | none => rw [q5] at P5; exact P5.elim
        | some z5 =>
          rw [q5] at P5
          exact h2 B4 H4 y w d2 d3 z5 Q R4.sit ((hy.mono g3.same).mono X4.same) hw q5 (Post.wish R4 P5)
theorem pv_chain {a b c : Expr} {op op' : CmpOp} {pos : Pos} {f g h : List Sl → Rs D} {c1 c2 : D → D → Option D} (o : OpD X S (compareOp op) c1) (o' : OpD X S (compareOp op') c2)
    (ha : PV X S M a f) (hb : PV X S M b g) (hc : PV X S M c h) (hl : lastMarks [op, op'] [b, c] = false := by rfl) :
    PV X S M (.Compare a [op, op'] [b, c] pos) (fChain f g h c1 c2) := by
  obtain ⟨r, h1, h2⟩ := o.ex
  obtain ⟨r', h1', h2'⟩ := o'.ex
  exact ⟨peI (pe_chain h1 h1' ha.pe hb.pe hc.pe hl) (sem_chain h2 h2')⟩
theorem pb_chain {a b c : Expr} {op op' : CmpOp} {pos : Pos} {f g h : List Sl → Rs D} {c1 c2 : D → D → Option D} (o : OpD X S (compareOp op) c1) (o' : OpD X S (compareOp op') c2)
    (ha : PV X S M a f) (hb : PV X S M b g) (hc : PV X S M c h) (hl : lastMarks [op, op'] [b, c] = false := by rfl) :
    PB X S M (.Compare a [op, op'] [b, c] pos) (fAsB (fChain f g h c1 c2)) := by
  obtain ⟨r, h1, h2⟩ := o.ex
  obtain ⟨r', h1', h2'⟩ := o'.ex
  exact ⟨ptI (pt_chain h1 h1' ha.pe hb.pe hc.pe hl) (semT_of (sem_chain h2 h2'))⟩
def bNot (f : List Sl → Rs Bool) (env : List Sl) : Rs Bool := (f env).bind fun b e => .ok (!b) e
theorem pb_not {a : Expr} {pos : Pos} {f : List Sl → Rs Bool} (ha : PB X S M a f) : PB X S M (.UnaryOp .Not a pos) (bNot f) := ⟨ptI (pt_not ha.pt) (by
  rintro σ H Q ⟨B, env, R, P⟩
  exact ⟨B, env, R, (Post.bind P).mono fun d e B1 H1 R1 X1 P1 => P1.ok R1⟩)⟩
structure PBw (X : Cx) (S : Se) (M : Xw) (e : Expr) (f : List Sl → Rs Bool) : Prop where
  pw : PW X e (semT X.K S M f)
theorem pwI {e : Expr} {t t' : TT} (h : PW X e t) (m : ∀ σ H Q, t' σ H Q → t σ H Q) : PW X e t' := ⟨fun w p s σ H Q i q => h.run w p s σ H Q i (m σ H Q q)⟩
theorem pb_bo {e : Expr} {f : List Sl → Rs Bool} (h : PBw X S M e f) : PB X S M e f := ⟨h.pw.pt⟩
theorem pw_a1 {a : Expr} {pos : Pos} {f : List Sl → Rs Bool} (ha : PB X S M a f) : PBw X S M (.BoolOp .And [a] pos) f := ⟨pw_and1 ha.pt⟩
theorem pw_o1 {a : Expr} {pos : Pos} {f : List Sl → Rs Bool} (ha : PB X S M a f) : PBw X S M (.BoolOp .Or [a] pos) f := ⟨pw_or1 ha.pt⟩
def bAnd (f g : List Sl → Rs Bool) (env : List Sl) : Rs Bool := (f env).bind fun b e => if b = true then g e else .ok false e
def bOr (f g : List Sl → Rs Bool) (env : List Sl) : Rs Bool := (f env).bind fun b e => if b = true then .ok true e else g e
theorem pw_a {a b : Expr} {pos : Pos} {rest : List Expr} {f g : List Sl → Rs Bool} (ha : PB X S M a f) (hb : PBw X S M (.BoolOp .And (b :: rest) pos) g) : PBw X S M (.BoolOp .And (a :: b :: rest) pos) (bAnd f g) := ⟨pwI (pw_and ha.pt hb.pw) (by
  rintro σ H Q ⟨B, env, R, P⟩
  refine ⟨B, env, R, (Post.bind P).mono fun c e B1 H1 R1 X1 P1 => ?_⟩
  cases c with
  | true => exact ⟨B1, e, R1, P1⟩
  | false => exact P1.ok R1)⟩
theorem pw_o {a b : Expr} {pos : Pos} {rest : List Expr} {f g : List Sl → Rs Bool} (ha : PB X S M a f) (hb : PBw X S M (.BoolOp .Or (b :: rest) pos) g) : PBw X S M (.BoolOp .Or (a :: b :: rest) pos) (bOr f g) := ⟨pwI (pw_or ha.pt hb.pw) (by
  rintro σ H Q ⟨B, env, R, P⟩
  refine ⟨B, env, R, (Post.bind P).mono fun c e B1 H1 R1 X1 P1 => ?_⟩
  cases c with
  | true => exact P1.ok R1
  | false => exact ⟨B1, e, R1, P1⟩)⟩
def fIf (c : List Sl → Rs Bool) (f g : List Sl → Rs D) (env : List Sl) : Rs D := (c env).bind fun b e => if b = true then f e else g e
/-! ### arguments, displays -/
def fCons (f : List Sl → Rs D) (g : List Sl → Rs (List D)) (env : List Sl) : Rs (List D) := (f env).bind fun d e => (g e).bind fun ds e => .ok (d :: ds) e
theorem pas_nil : PAs X S M [] (fun env => .ok [] env) := ⟨paI pa_nil (by
  rintro σ H Q ⟨B, env, R, P⟩
  exact P.ok R [] .nil)⟩
theorem pas_cons {e : Expr} {es : List Expr} {f : List Sl → Rs D} {g : List Sl → Rs (List D)} (h : PV X S M e f) (hs : PAs X S M es g)
    (h1 : starEach (e :: es) X.env = (false, eval e X.env) :: starEach es X.env := by rfl) : PAs X S M (e :: es) (fCons f g) := ⟨paI (pa_cons h.pe hs.pa h1) (by
  rintro σ H Q ⟨B, env, R, P⟩
  refine ⟨B, env, R, (Post.bind P).mono fun d e B1 H1 R1 X1 P1 x hx => ⟨B1, e, R1, (Post.bind P1).mono fun ds e2 B2 H2 R2 X2 P2 xs hxs => ?_⟩⟩
  exact P2.ok R2 _ (.cons (hx.mono X2.same) hxs))⟩
def fTup (f : List Sl → Rs (List D)) (env : List Sl) : Rs D := (f env).bind fun ds e => if ds.length ≤ sizeLine then .ok (.tup ds) e else .bad
theorem pv_tup {es : List Expr} {pos : Pos} {x1 : Nat} {f : List Sl → Rs (List D)} (h : PAs X S M es f) : PV X S M (.Tuple es x1 pos) (fTup f) := ⟨peI (pe_tupF h.pa) (by
  rintro σ H Q ⟨B, env, R, P⟩
  refine ⟨B, env, R, (Post.bind P).mono fun ds e B1 H1 R1 X1 P1 xs hxs => ?_⟩
  split at P1
  · rename_i hl
    refine ⟨by rw [hxs.length]; exact hl, fun p ob hp hd => ?_⟩
    obtain ⟨R2, X2⟩ := R1.alloc (o := .frz ob (.tup xs)) hp (fun ps h => by cases h)
    exact P1 _ _ R2 X2 _ (.tup (SqU.new hd) (hxs.mono X2.same))
  · exact P1.elim)⟩
/-- a new list -/
def fLst (f : List Sl → Rs (List D)) (env : List Sl) : Rs Ow := (f env).bind fun ds e => if ds.length ≤ sizeLine then .ok (.l ds) e else .bad
theorem Fresh.new {B H : Hp} {env : List Sl} {σ : L2.St} {o : HO} {p : Addr} (R : Rel X.K S B env σ H) (hp : H p = none) : Rel X.K S B env σ (upd H p o) ∧ Ext env env σ B H B (upd H p o) ∧ Fresh S B env σ (upd H p o) p o := by
  obtain ⟨R2, X2⟩ := R.lay (o := o) hp
  refine ⟨R2, X2, R.old.none hp, R.bh.free hp, upd_same, fun ow => ?_⟩
  obtain ⟨_, _, o', w, h1, _⟩ := R.prvB ow
  rw [hp] at h1
  cases h1
theorem pn_lst {es : List Expr} {pos : Pos} {f : List Sl → Rs (List D)} (h : PAs X S M es f) : PN X S M (.List es pos) (fLst f) := ⟨peI (pe_lst h.pa) (by
  rintro σ H Q ⟨B, env, R, P⟩
  refine ⟨B, env, R, (Post.bind P).mono fun ds e B1 H1 R1 X1 P1 xs hxs => ?_⟩
  split at P1
  · rename_i hl
    refine ⟨by rw [hxs.length]; exact hl, fun p hp => ?_⟩
    obtain ⟨R2, X2, F⟩ := Fresh.new (o := .lst xs) R1 hp
    exact P1 _ _ R2 X2 p _ (X1.live p hp) F hxs
  · exact P1.elim)⟩
/-- a new list as a datum -/
def fFrz (f : List Sl → Rs Ow) (env : List Sl) : Rs D := (f env).bind fun w e => match w with | .l xs => .ok (.lst xs) e | _ => .bad
theorem Fresh.freeze {B H : Hp} {env : List Sl} {σ : L2.St} {vs : List V} {xs : List D} {p : Addr} (R : Rel X.K S B env σ H) (F : Fresh S B env σ H p (.lst vs)) (h : DqAll X.K B vs xs) :
    Rel X.K S (upd B p (.lst vs)) env σ H ∧ Same B (upd B p (.lst vs)) ∧ Dq X.K (upd B p (.lst vs)) (.ref p) (.lst xs) := by
  have sm : Same B (upd B p (.lst vs)) := fun a u h => by rw [upd_ne (ne_of_none h F.2.1)]; exact h
  exact ⟨R.keep F.1 F.2.1 F.2.2.1 (fun ps h => by cases h) F.2.2.2, sm, .lst upd_same (h.mono sm)⟩
theorem Post.frz {r : Rs Ow} {B H : Hp} {env : List Sl} {σ : L2.St} {Q : VK} (P : Post X.K S M σ B H env (r.bind fun w e => match w with | .l xs => .ok (.lst xs) e | _ => .bad) fun d _ B' H' => ∀ v, Dq X.K B' v d → Q v H') :
    Post X.K S M σ B H env r fun w e B' H' => ∀ p o, H p = none → Fresh S B' e σ H' p o → OwOk X.K B' o w → Q (.ref p) H' := by
  cases r with
  | bad => exact P
  | ex x => exact P
  | ok w e =>
    intro B1 H1 R1 X1 p o hn F ho
    cases w with
    | d ks => exact P.elim
    | t ks => exact P.elim
    | l xs =>
      obtain ⟨vs, rfl, hd⟩ := ho.l
      obtain ⟨R2, sm, dq⟩ := F.freeze R1 hd
      refine P _ _ R2 ⟨X1.sub, X1.same.trans sm, fun a u h => ?_, X1.kept, X1.live⟩ _ dq
      by_cases z : a = p
      · subst z; exact .inr (.inl hn)
      · rw [upd_ne z] at h; exact X1.new a u h
theorem pv_of {e : Expr} {f : List Sl → Rs Ow} (h : PN X S M e f) : PV X S M e (fFrz f) := ⟨peI h.pe (by
  rintro σ H Q ⟨B, env, R, P⟩
  exact ⟨B, env, R, Post.frz P⟩)⟩
end
end Pf
namespace Pf
open PySem PySem.Spec PyProof.Rows L2 GxR GenW Gx
section
variable {X : Cx} {S : Se} {M : Xw}
/-! ### subscripts -/
theorem atI_dq {K : PySem.W.Frag} {B : Hp} {vs : List V} {ds : List D} (h : DqAll K B vs ds) {i : Int} {d : D} (e : atI ds i = some d) : ∃ v, atI vs i = some v ∧ Dq K B v d := by
  unfold atI at e ⊢
  rw [h.length]
  cases q : ixN ds.length i with
  | none => (rw [q] at e; cases e)
  | some j =>
    rw [q] at e
    exact h.get e
theorem atI_map {ns : List Int} {i n : Int} (e : atI ns i = some n) : atI (ns.map V.int) i = some (V.int n) := by
  unfold atI at e ⊢
  rw [List.length_map]
  cases q : ixN ns.length i with
  | none => (rw [q] at e; cases e)
  | some j =>
    rw [q] at e
    rw [Option.bind_some] at e ⊢
    rw [List.getElem?_map, e]
    rfl
/-- a datum at a place -/
def ixD : D → D → Option D
  | .lst xs, .int i => atI xs i
  | .tup xs, .int i => atI xs i
  | .scr ns, .int i => (atI ns i).map .int
  | .str z, .int i => if 0 ≤ i ∧ i < 2 ^ 63 ∧ i < z.length then (z.cps[i.toNat]?).map fun c => .str ⟨#[c]⟩ else none
  | _, _ => none
theorem peOr {e : Expr} {t t1 t2 : TE} (h1 : PE X e t1) (h2 : PE X e t2) (h : ∀ σ H Q, t σ H Q → t1 σ H Q ∨ t2 σ H Q) : PE X e t :=
  ⟨fun p s σ H Q i q => (h σ H Q q).elim (fun z => h1.run p s σ H Q i z) fun z => h2.run p s σ H Q i z⟩
theorem ixD_ref {B H : Hp} {x y : V} {d e z : D} {Q : VK} (s : Sit X.K S B H) (hx : Dq X.K B x d) (hy : Dq X.K B y e) (hc : ixD d e = some z) (ns : ∀ t, d ≠ .str t) (w : Wish X.K S B H z Q) :
    rIxL X.K x y H Q ∨ rIxT X.K x y H Q := by
  revert hc
  cases hx with
  | lst h1 h2 =>
    cases hy <;> intro hc <;> first | cases hc | skip
    obtain ⟨v, e1, e2⟩ := atI_dq h2 hc
    exact .inl ⟨_, _, _, v, rfl, rfl, SqL.of (s.bh _ _ h1), e1, w.now s e2⟩
  | tup h1 h2 =>
    cases hy <;> intro hc <;> first | cases hc | skip
    obtain ⟨v, e1, e2⟩ := atI_dq h2 hc
    exact .inr ⟨_, _, _, v, rfl, rfl, same_tup s.bh h1, e1, w.now s e2⟩
  | @scr a ks h1 =>
    cases hy <;> intro hc <;> first | cases hc | skip
    rename_i i
    have hc : (atI ks i).map D.int = some z := hc
    cases q : atI ks i with
    | none => rw [q] at hc; cases hc
    | some n =>
      rw [q] at hc
      cases hc
      exact .inl ⟨_, _, _, _, rfl, rfl, same_seqL s.bh h1, atI_map q, w.now s (.int n)⟩
  | str t => exact absurd rfl (ns t)
  | _ => intro hc; cases hy <;> cases hc
theorem opd_ix : ∃ r, IxR X r ∧ ∀ B H x y d e z Q, Sit X.K S B H → Dq X.K B x d → Dq X.K B y e → (match d with | .str _ => none | _ => ixD d e) = some z → Wish X.K S B H z Q → r x y H Q :=
  ⟨_, IxR.or ix_list ix_tup, fun B H x y d e z Q s hx hy hc w => ixD_ref s hx hy (d := d) (by cases d <;> first | exact hc | cases hc) (fun t h => by subst h; cases hc) w⟩
def fIx (f g : List Sl → Rs D) : List Sl → Rs D := f2 f g ixD
theorem pv_ix {a b : Expr} {pos : Pos} {f g : List Sl → Rs D} (ha : PV X S M a f) (hb : PV X S M b g) (h1 : PlainIx b := by exact fun _ _ => rfl) (h2 : PlainIxT b := by exact fun _ _ => rfl) :
    PV X S M (.Subscript a b pos) (fIx f g) := by
  obtain ⟨r, hr, hc⟩ := opd_ix (X := X) (S := S)
  refine ⟨peOr (pe_ix hr ha.pe hb.pe h1) (pe_item_str ha.pe hb.pe h2) fun σ H Q => ?_⟩
  rintro ⟨B, env, R, P⟩
  have key : ∀ (c : D → D → Option D), (∀ d e, f env = .ok d e → c d = ixD d) → Post X.K S M σ B H env (f2 f g c env) (fun d _ B' H' => ∀ v, Dq X.K B' v d → Q v H') := by
    intro c hcd
    have P' : Post X.K S M σ B H env (f2 f g ixD env) _ := P
    revert P'
    unfold f2
    cases q : f env with
    | bad => exact fun h => h
    | ex x => exact fun h => h
    | ok d e =>
      show Post X.K S M σ B H env ((g e).bind fun d2 e2 => .opt (ixD d d2) e2) _ → Post X.K S M σ B H env ((g e).bind fun d2 e2 => .opt (c d d2) e2) _
      rw [hcd d e q]
      exact fun h => h
  by_cases hs : ∃ t e, f env = .ok (.str t) e
  · right
    obtain ⟨t, e, hs⟩ := hs
    refine sem2 (c := fun d e => match d with | .str _ => ixD d e | _ => none) (fun B H x y d e z Q s hx hy hc w => ?_) σ H Q ⟨B, env, R, key _ fun d e' h => ?_⟩
    · cases hx <;> first | cases hc | skip
      rename_i t
      cases hy <;> first | cases hc | skip
      rename_i i
      have hc : (if 0 ≤ i ∧ i < 2 ^ 63 ∧ i < t.length then (t.cps[i.toNat]?).map fun c => D.str ⟨#[c]⟩ else none) = some z := hc
      split at hc
      · rename_i hi
        cases q : t.cps[i.toNat]? with
        | none => rw [q] at hc; cases hc
        | some c =>
          rw [q] at hc
          cases hc
          exact ⟨t, i, c, rfl, rfl, hi.1, hi.2.1, hi.2.2, q, w.now s (.str _)⟩
      · cases hc
    · rw [hs] at h
      cases h
      rfl
  · left
    refine sem2 (c := fun d e => match d with | .str _ => none | _ => ixD d e) hc σ H Q ⟨B, env, R, key _ fun d e' h => ?_⟩
    cases d with
    | str t => exact absurd ⟨t, e', h⟩ hs
    | _ => rfl
/-- what a slot holds, while it stays one's own -/
def pkN (i : Nat) (env : List Sl) : Bool :=
  match env[i]? with
  | some (.im _) => true
  | some (.ow _) => true
  | some (.ro _) => true
  | _ => false
theorem pkN_v {B H : Hp} {env : List Sl} {σ : L2.St} {i : Nat} (R : Rel X.K S B env σ H) (h : pkN i env = true) : ∃ v, σ[i]? = some (some v) := by
  unfold pkN at h
  split at h
  · rename_i d hd
    obtain ⟨v, e1, _⟩ := R.sl i _ hd
    exact ⟨v, e1⟩
  · rename_i w hd
    obtain ⟨p, o, e1, _⟩ := R.sl i _ hd
    exact ⟨_, e1⟩
  · rename_i w hd
    obtain ⟨p, o, e1, _⟩ := R.sl i _ hd
    exact ⟨_, e1⟩
  · cases h
/-- an item of a list in a slot -/
def fIxN (i : Nat) (g : List Sl → Rs D) (env : List Sl) : Rs D :=
  if pkN i env = true then (g env).bind fun k e => match e[i]? with
    | some (.im (.lst xs)) => Rs.opt (ixD (.lst xs) k) e
    | some (.im (.tup xs)) => Rs.opt (ixD (.tup xs) k) e
    | some (.im (.scr xs)) => Rs.opt (ixD (.scr xs) k) e
    | some (.ow (.l xs)) => Rs.opt (ixD (.lst xs) k) e
    | some (.ro xs) => Rs.opt (ixD (.lst xs) k) e
    | _ => .bad
  else .bad
/-! ### slices -/
def cutD (xs : List D) (lo hi : Option Int) : List D :=
  (xs.drop (HT.sIx xs.length 0 lo)).take (HT.sIx xs.length xs.length hi - HT.sIx xs.length 0 lo)
theorem cut_dq {K : PySem.W.Frag} {B : Hp} {vs : List V} {ds : List D} (h : DqAll K B vs ds) (lo hi : Option Int) : DqAll K B (cutV vs lo hi) (cutD ds lo hi) := by
  unfold cutV cutD
  rw [h.length]
  exact (h.drop _).take _
structure PQ (X : Cx) (S : Se) (M : Xw) (o : Option Expr) (f : List Sl → Rs (Option Int)) : Prop where
  po : PO X o fun σ H Q => ∃ B env, Rel X.K S B env σ H ∧ Post X.K S M σ B H env (f env) fun b _ B' H' => Q b H'
theorem poI {o : Option Expr} {t t' : TO} (h : PO X o t) (m : ∀ σ H Q, t' σ H Q → t σ H Q) : PO X o t' := ⟨fun p s σ H Q i q => h.run p s σ H Q i (m σ H Q q)⟩
theorem pq_no : PQ X S M none (fun env => .ok none env) := ⟨poI po_none (by rintro σ H Q ⟨B, env, R, P⟩; exact P.ok R)⟩
def fPart (f : List Sl → Rs D) (env : List Sl) : Rs (Option Int) := (f env).bind fun d e => match d with | .int i => .ok (some i) e | _ => .bad
theorem pq_yes {e : Expr} {f : List Sl → Rs D} (h : PV X S M e f) : PQ X S M (some e) (fPart f) := ⟨poI (po_some h.pe) (by
  rintro σ H Q ⟨B, env, R, P⟩
  refine ⟨B, env, R, (Post.bind P).mono fun d e B1 H1 R1 X1 P1 x hx => ?_⟩
  cases hx <;> first | exact P1.elim | skip
  exact ⟨_, rfl, P1.ok R1⟩)⟩
theorem cutD_whole {xs : List D} {lo hi : Option Int} (h : HT.sIx xs.length 0 lo = 0 ∧ HT.sIx xs.length xs.length hi = xs.length) : cutD xs lo hi = xs := by
  unfold cutD
  rw [h.1, h.2, List.drop_zero, Nat.sub_zero, List.take_length]
def slD (lo hi : Option Int) : D → Option D
  | .lst xs => some (.lst (cutD xs lo hi))
  | .scr ns => some (.lst (cutD (ns.map .int) lo hi))
  | .tup xs => some (.tup (cutD xs lo hi))
  | _ => none
def fSl (f : List Sl → Rs D) (l h : List Sl → Rs (Option Int)) (env : List Sl) : Rs D :=
  (f env).bind fun d e => (l e).bind fun lo e => (h e).bind fun hi e => Rs.opt (slD lo hi d) e
theorem pv_sl {a : Expr} {lo hi : Option Expr} {pos p2 : Pos} {f : List Sl → Rs D} {l h : List Sl → Rs (Option Int)} (ha : PV X S M a f) (hl : PQ X S M lo l) (hh : PQ X S M hi h) :
    PV X S M (.Subscript a (.Slice lo hi none p2) pos) (fSl f l h) := ⟨peI (pe_slice (SlR.or (SlR.or sl_list sl_tupF) sl_tupA) ha.pe hl.po hh.po) (by
  rintro σ H Q ⟨B, env, R, P⟩
  refine ⟨B, env, R, (Post.bind P).mono fun d e B1 H1 R1 X1 P1 x hx => ⟨B1, e, R1, (Post.bind P1).mono fun lo e2 B2 H2 R2 X2 P2 => ⟨B2, e2, R2, (Post.bind P2).mono fun hi e3 B3 H3 R3 X3 P3 => ?_⟩⟩⟩
  have hx := (hx.mono X2.same).mono X3.same
  cases hx <;> first | exact P3.elim | skip
  · rename_i vs ds h1 h2
    refine .inl (.inl ⟨_, vs, rfl, SqL.of (R3.bh _ _ h1), fun p hp => ?_⟩)
    obtain ⟨R4, X4⟩ := R3.alloc (o := .lst (cutV vs lo hi)) hp (fun ps h => by cases h)
    exact P3 _ _ R4 X4 _ (.lst upd_same ((cut_dq h2 lo hi).mono X4.same))
  · rename_i vs ds h1 h2
    have P3 : Post X.K S M σ B3 H3 e3 (Rs.opt (some (D.tup (cutD ds lo hi))) e3) _ := P3
    by_cases hn : HT.sIx ds.length 0 lo = 0 ∧ HT.sIx ds.length ds.length hi = ds.length
    · refine .inr ⟨_, vs, rfl, same_tup R3.bh h1, fun _ => ?_, fun k => absurd (by rw [h2.length]; exact hn) k⟩
      rw [cutD_whole hn] at P3
      exact P3.ok R3 _ (.tup h1 h2)
    · refine .inl (.inr ⟨_, vs, rfl, same_tup R3.bh h1, by rw [h2.length]; exact hn, fun p ob hp hd => ?_⟩)
      obtain ⟨R4, X4⟩ := R3.alloc (o := .frz ob (.tup (cutV vs lo hi))) hp (fun ps h => by cases h)
      exact P3 _ _ R4 X4 _ (.tup (SqU.new hd) ((cut_dq h2 lo hi).mono X4.same))
  · rename_i ns h1
    refine .inl (.inl ⟨_, ns.map V.int, rfl, same_seqL R3.bh h1, fun p hp => ?_⟩)
    obtain ⟨R4, X4⟩ := R3.alloc (o := .lst (cutV (ns.map V.int) lo hi)) hp (fun ps h => by cases h)
    exact P3 _ _ R4 X4 _ (.lst upd_same ((cut_dq (DqAll.ints ns) lo hi).mono X4.same)))⟩
/-! ### targets -/
/-- but for the slots of L nothing has changed -/
def Off (L : List Nat) (σ σ' : L2.St) : Prop := σ'.length = σ.length ∧ ∀ j, j ∉ L → σ'[j]? = σ[j]?
theorem Off.refl {L : List Nat} {σ : L2.St} : Off L σ σ := ⟨rfl, fun _ _ => rfl⟩
theorem Off.trans {L L' : List Nat} {σ σ1 σ2 : L2.St} (a : Off L σ σ1) (b : Off L' σ1 σ2) : Off (L ++ L') σ σ2 :=
  ⟨b.1.trans a.1, fun j h => by rw [b.2 j (fun z => h (List.mem_append.mpr (.inr z))), a.2 j (fun z => h (List.mem_append.mpr (.inl z)))]⟩
theorem Off.set {i : Nat} {σ : L2.St} {x : Option V} : Off [i] σ (σ.set i x) :=
  ⟨by rw [List.length_set], fun j h => by rw [List.getElem?_set_ne (fun z => h (by rw [z]; exact List.mem_singleton.mpr rfl))]⟩
theorem wipe_len (σ : L2.St) : ∀ L : List Nat, (wipe σ L).length = σ.length
  | [] => rfl
  | i :: L => by rw [show wipe σ (i :: L) = (wipe σ L).set i none from rfl, List.length_set, wipe_len σ L]
theorem wipe_out (σ : L2.St) : ∀ (L : List Nat) (j : Nat), j ∉ L → (wipe σ L)[j]? = σ[j]?
  | [], j, _ => rfl
  | i :: L, j, h => by
    rw [show wipe σ (i :: L) = (wipe σ L).set i none from rfl, List.getElem?_set_ne (fun z => h (by rw [z]; exact List.mem_cons_self)), wipe_out σ L j (fun z => h (List.mem_cons_of_mem _ z))]
theorem wipe_in (σ : L2.St) : ∀ (L : List Nat) (j : Nat), j ∈ L → j < σ.length → (wipe σ L)[j]? = some none
  | i :: L, j, h, hl => by
    rw [show wipe σ (i :: L) = (wipe σ L).set i none from rfl]
    by_cases z : i = j
    · subst z
      rw [List.getElem?_set_self (by rw [wipe_len]; exact hl)]
    · rw [List.getElem?_set_ne z]
      exact wipe_in σ L j ((List.mem_cons.mp h).resolve_left (fun y => z y.symm)) hl
theorem wipe_off {σ σ2 : L2.St} {L vs : List Nat} (h : Off L (wipe σ vs) σ2) (hs : ∀ i ∈ L, i ∈ vs) : wipe σ2 vs = wipe σ vs := by
  apply List.ext_getElem?
  intro j
  have hl : σ2.length = σ.length := by rw [h.1, wipe_len]
  by_cases hj : j ∈ vs
  · by_cases hb : j < σ.length
    · rw [wipe_in _ _ _ hj (by rw [hl]; exact hb), wipe_in _ _ _ hj hb]
    · rw [List.getElem?_eq_none (by rw [wipe_len, hl]; omega), List.getElem?_eq_none (by rw [wipe_len]; omega)]
  · rw [wipe_out _ _ _ hj, h.2 j (fun z => hj (hs j z))]
structure PTg (X : Cx) (S : Se) (tg : Expr) (g : D → List Sl → Option (List Sl)) (L : List Nat) : Prop where
  pg : PG X tg fun v σ H Q => ∃ B env d e, Rel X.K S B env σ H ∧ Dq X.K B v d ∧ g d env = some e ∧ ∀ σ', Rel X.K S B e σ' H → (∀ a, OwnA e σ' a → OwnA env σ a) → Off L σ σ' → Q σ' H
structure PTgs (X : Cx) (S : Se) (tg : List Expr) (g : List D → List Sl → Option (List Sl)) (L : List Nat) : Prop where
  pgs : PGs X tg fun vs σ H Q => ∃ B env ds e, Rel X.K S B env σ H ∧ DqAll X.K B vs ds ∧ g ds env = some e ∧ ∀ σ', Rel X.K S B e σ' H → (∀ a, OwnA e σ' a → OwnA env σ a) → Off L σ σ' → Q σ' H
theorem pgI {e : Expr} {t t' : TG} (h : PG X e t) (m : ∀ v σ H Q, t' v σ H Q → t v σ H Q) : PG X e t' := ⟨fun p s σ H v u Q i r q => h.run p s σ H v u Q i r (m _ σ H Q q)⟩
def gNm (i : Nat) (d : D) (env : List Sl) : Option (List Sl) := some (env.set i (.im d))
theorem ownA_set {env : List Sl} {σ : L2.St} {i : Nat} {d : D} {v : V} {a : Addr} (h : OwnA (env.set i (.im d)) (σ.set i (some v)) a) : OwnA env σ a := by
  obtain ⟨j, e, h1, h2, h3⟩ := h
  rcases env_set h1 with ⟨rfl, rfl⟩ | ⟨hne, h1⟩
  · cases h2
  · rw [List.getElem?_set_ne (Ne.symm hne)] at h3
    exact ⟨j, e, h1, h2, h3⟩
theorem ptg_name {x : Str} {i : Nat} {pos : Pos} (hN : X.N.Nodup) (hi : X.N[i]? = some x) (hx : L2.Loc X.env.scope x)
    (hf : X.fn x = true ∨ X.env.scope.names.lookup x = some .local := by exact .inl rfl) : PTg X S (.Name x pos) (gNm i) [i] := ⟨pgI (pg_name hN hi hx hf) (by
  rintro v σ H Q ⟨B, env, d, e, R, hd, he, k⟩
  cases he
  exact k _ (R.setIm i hd) (fun a h => ownA_set h) Off.set)⟩
def gsC (g : D → List Sl → Option (List Sl)) (h : List D → List Sl → Option (List Sl)) : List D → List Sl → Option (List Sl)
  | d :: ds, env => (g d env).bind fun e => h ds e
  | [], _ => none
def gsN : List D → List Sl → Option (List Sl)
  | [], env => some env
  | _ :: _, _ => none
theorem ptgs_nil : PTgs X S [] gsN [] := ⟨⟨fun p s σ H vs us Q i r q => by
  obtain ⟨B, env, ds, e, R, hd, he, k⟩ := q
  refine (pgs_nil (X := X)).run p s σ H vs us Q i r ?_
  cases hd with
  | nil => cases he; exact ⟨rfl, k _ R (fun _ h => h) Off.refl⟩
  | cons _ _ => cases he⟩⟩
theorem ptgs_cons {t : Expr} {ts : List Expr} {g : D → List Sl → Option (List Sl)} {h : List D → List Sl → Option (List Sl)} {L L' : List Nat} (hg : PTg X S t g L) (hh : PTgs X S ts h L')
    (h1 : (assignEach (t :: ts) X.env).map (·.2) = assign t X.env :: (assignEach ts X.env).map (·.2) := by rfl) : PTgs X S (t :: ts) (gsC g h) (L ++ L') := ⟨⟨fun p s σ H vs us Q i r q => by
  refine (pgs_cons hg.pg hh.pgs h1).run p s σ H vs us Q i r ?_
  obtain ⟨B, env, ds, e, R, hd, he, k⟩ := q
  cases hd with
  | nil => cases he
  | @cons v vs d ds hd1 hd2 =>
    have he : (g d env).bind (fun e => h ds e) = some e := he
    cases q : g d env with
    | none => rw [q] at he; cases he
    | some e1 =>
      rw [q] at he
      exact ⟨v, vs, rfl, B, env, d, e1, R, hd1, q, fun σ1 R1 o1 f1 => ⟨B, e1, ds, e, R1, hd2, he, fun σ2 R2 o2 f2 => k σ2 R2 (fun a h => o1 a (o2 a h)) (f1.trans f2)⟩⟩⟩⟩
def gTu (n : Nat) (h : List D → List Sl → Option (List Sl)) : D → List Sl → Option (List Sl)
  | .tup ds, env => if ds.length = n then h ds env else none
  | _, _ => none
end
end Pf
namespace Pf
open PySem PySem.Spec PyProof.Rows L2 GxR GenW Gx
def Rs.ro {α : Type} (r : Rs α) (k : α → List Sl → Ro) : Ro :=
  match r with
  | .ok a e => k a e
  | .ex x => .ex x
  | .bad => .bad
def Ro.seq (r : Ro) (g : List Sl → Ro) : Ro :=
  match r with
  | .nx e => g e
  | r => r
section
variable {X : Cx} {S : Se} {M : Xw}
theorem PostS.mono {B B1 : Hp} {r : Ro} {D0 : Ends} (h : PostS X.K S M B r D0) (sm : Same B B1) : PostS X.K S M B1 r D0 := by
  cases r with
  | nx e => exact fun B' H' σ' R s => h B' H' σ' R (sm.trans s)
  | bk e => exact fun B' H' σ' R s => h B' H' σ' R (sm.trans s)
  | ct e => exact fun B' H' σ' R s => h B' H' σ' R (sm.trans s)
  | rt d => exact fun B' H' v R s => h B' H' v R (sm.trans s)
  | ex x => exact h
  | bad => exact h
theorem PostS.of {α : Type} {σ : L2.St} {B H : Hp} {env : List Sl} {r : Rs α} {k : α → List Sl → Ro} {D0 : Ends} (h : PostS X.K S M B (r.ro k) D0) :
    Post X.K S M σ B H env r fun a e B1 _ => PostS X.K S M B1 (k a e) D0 := by
  cases r with
  | ok a e => exact fun B1 H1 R1 X1 => PostS.mono h X1.same
  | ex x => exact h
  | bad => exact h
theorem PostS.seq {B : Hp} {r : Ro} {g : List Sl → Ro} {D0 : Ends} (h : PostS X.K S M B (r.seq g) D0) :
    PostS X.K S M B r { nx := semS X.K S M g D0, rt := D0.rt, bk := D0.bk, ct := D0.ct } := by
  cases r with
  | nx e => exact fun B' H' σ' R s => ⟨B', e, R, PostS.mono h s⟩
  | bk e => exact h
  | ct e => exact h
  | rt d => exact h
  | ex x => exact h
  | bad => exact h
theorem PostS.imp {B : Hp} {r : Ro} {D0 D1 : Ends} (h : PostS X.K S M B r D0) (h1 : ∀ σ H, D0.nx σ H → D1.nx σ H) (h2 : ∀ v H, D0.rt v H → D1.rt v H) (h3 : ∀ σ H, D0.bk σ H → D1.bk σ H) (h4 : ∀ σ H, D0.ct σ H → D1.ct σ H) :
    PostS X.K S M B r D1 := by
  cases r with
  | nx e => exact fun B' H' σ' R s => h1 _ _ (h B' H' σ' R s)
  | bk e => exact fun B' H' σ' R s => h3 _ _ (h B' H' σ' R s)
  | ct e => exact fun B' H' σ' R s => h4 _ _ (h B' H' σ' R s)
  | rt d => exact fun B' H' v R s q => h2 _ _ (h B' H' v R s q)
  | ex x => exact h
  | bad => exact h
theorem Rel.bare {K : PySem.W.Frag} {B H : Hp} {env : List Sl} {σ : L2.St} (R : Rel K S B env σ H) : Rel K S B [] [] H :=
  ⟨R.old, R.tab, R.b0, R.bh, R.nt, R.new, rfl, fun i e h => by simp at h, fun i j p e e' h => by simp at h⟩
/-! ### blocks -/
theorem pxs_nil : PXs X S M [] .nx := ⟨pssI pss_nil (by rintro D0 σ H ⟨B, env, R, P⟩; exact P B H σ R (Same.refl B))⟩
theorem pxs_cons {st : Stmt} {rest : List Stmt} {f g : List Sl → Ro} (h : PX X S M st f) (hs : PXs X S M rest g) : PXs X S M (st :: rest) (fun env => (f env).seq g) :=
  ⟨pssI (pss_cons h.ps hs.ps) (by rintro D0 σ H ⟨B, env, R, P⟩; exact ⟨B, env, R, PostS.seq P⟩)⟩
theorem pxs_one {st : Stmt} {f : List Sl → Ro} (h : PX X S M st f) : PXs X S M [st] f := ⟨pss_one h.ps⟩
theorem px_ret {e : Expr} {pos : Pos} {f : List Sl → Rs D} (h : PV X S M e f) : PX X S M (.Return (some e) pos) (fun env => (f env).ro fun d _ => .rt d) := ⟨psI (ps_ret h.pe) (by
  rintro D0 σ H ⟨B, env, R, P⟩
  exact ⟨B, env, R, (PostS.of P).mono fun d e B1 H1 R1 X1 P1 v hv => P1 B1 H1 v R1.bare (Same.refl _) hv⟩)⟩
theorem px_expr {e : Expr} {pos : Pos} {f : List Sl → Rs D} (h : PV X S M e f) (hs : swapsWith e none pos.line X.env = pure false := by rfl) : PX X S M (.Expr e pos) (fun env => (f env).ro fun _ e => .nx e) := ⟨psI (ps_expr h.pe hs) (by
  rintro D0 σ H ⟨B, env, R, P⟩
  exact ⟨B, env, R, (PostS.of P).mono fun d e B1 H1 R1 X1 P1 v hv => P1 B1 H1 σ R1 (Same.refl _)⟩)⟩
theorem px_if {c : Expr} {a b : List Stmt} {pos : Pos} {t : List Sl → Rs Bool} {f g : List Sl → Ro} (hc : PB X S M c t) (ha : PXs X S M a f) (hb : PXs X S M b g) :
    PX X S M (.If c a b pos) (fun env => (t env).ro fun k e => if k = true then f e else g e) := ⟨psI (ps_if hc.pt ha.ps hb.ps) (by
  rintro D0 σ H ⟨B, env, R, P⟩
  refine ⟨B, env, R, (PostS.of P).mono fun k e B1 H1 R1 X1 P1 => ?_⟩
  cases k with
  | true => exact ⟨B1, e, R1, P1⟩
  | false => exact ⟨B1, e, R1, P1⟩)⟩
/-- x = e, a datum -/
theorem px_set {x : Str} {i : Nat} {e : Expr} {pos pos' : Pos} {f : List Sl → Rs D} (hN : X.N.Nodup) (hi : X.N[i]? = some x) (hx : L2.Loc X.env.scope x) (h : PV X S M e f)
    (hs : swapsWith e (some (.Name x pos')) pos.line X.env = pure false := by rfl) (hf : X.fn x = true ∨ X.env.scope.names.lookup x = some .local := by exact .inl rfl) :
    PX X S M (.Assign [.Name x pos'] e pos) (fun env => (f env).ro fun d e => .nx (e.set i (.im d))) := ⟨psI (ps_set hN hi hx h.pe hs hf) (by
  rintro D0 σ H ⟨B, env, R, P⟩
  exact ⟨B, env, R, (PostS.of P).mono fun d e B1 H1 R1 X1 P1 v hv => P1 B1 H1 _ (R1.setIm i hv) (Same.refl _)⟩)⟩
/-- x = e, a new thing of one's own -/
theorem px_setO {x : Str} {i : Nat} {e : Expr} {pos pos' : Pos} {f : List Sl → Rs Ow} (hN : X.N.Nodup) (hi : X.N[i]? = some x) (hx : L2.Loc X.env.scope x) (h : PN X S M e f)
    (hs : swapsWith e (some (.Name x pos')) pos.line X.env = pure false := by rfl) (hf : X.fn x = true ∨ X.env.scope.names.lookup x = some .local := by exact .inl rfl) :
    PX X S M (.Assign [.Name x pos'] e pos) (fun env => (f env).ro fun w e => .nx (e.set i (.ow w))) := ⟨psI (ps_set hN hi hx h.pe hs hf) (by
  rintro D0 σ H ⟨B, env, R, P⟩
  exact ⟨B, env, R, (PostS.of P).mono fun w e B1 H1 R1 X1 P1 p o _ F ho => P1 B1 H1 _ (R1.setOw i F.1 F.2.1 F.2.2.1 ho F.2.2.2) (Same.refl _)⟩)⟩
/-! ### x op= e -/
def fAug (i : Nat) (f : List Sl → Rs D) (c : D → D → Option D) (env : List Sl) : Ro :=
  match env[i]? with
  | some (.im a) => (f env).ro fun d e => match c a d with | some z => .nx (e.set i (.im z)) | none => .bad
  | _ => .bad
/-! ### own lists: append, pop, extend, items -/
def fApp (i : Nat) (f : List Sl → Rs D) (env : List Sl) : Rs D :=
  match env[i]? with
  | some (.ow (.l _)) => (f env).bind fun d e => match e[i]? with
    | some (.ow (.l xs)) => if xs.length < sizeLine then .ok .non (e.set i (.ow (.l (xs ++ [d])))) else .bad
    | _ => .bad
  | _ => .bad
theorem ow_v {B H : Hp} {env : List Sl} {σ : L2.St} {i : Nat} {xs : List D} (R : Rel X.K S B env σ H) (h : env[i]? = some (.ow (.l xs))) : ∃ p vs, σ[i]? = some (some (.ref p)) ∧ H p = some (.lst vs) ∧ DqAll X.K B vs xs := by
  obtain ⟨p, o, e1, _, _, e4, e5⟩ := R.sl i _ h
  obtain ⟨vs, rfl, e6⟩ := e5.l
  exact ⟨p, vs, e1, e4, e6⟩
theorem pv_app {x : Str} {i : Nat} {e : Expr} {pos apos p1 : Pos} {f : List Sl → Rs D} (hN : X.N[i]? = some x) (hv : Vis X.env.scope x) (h : PV X S M e f)
    (hd1 : (x == Str.ofString "__debug__") = false := by rfl) (hd2 : (x == Str.ofString "__classdict__") = false := by rfl)
    (q1 : attributeBase (.Name x p1) "append" X.env (eval (.Name x p1) X.env) = eval (.Name x p1) X.env := by rfl)
    (q2 : (((backTo pos (starEach [e] X.env)).all (fun x => !x.1) && (backToKw pos (keywordEach [] X.env)).all (fun x => x.1.isSome) && decide (([e].length + ([] : List Keyword).length + if ([] : List Keyword).isEmpty = true then 0 else 1) < 30))) = true := by rfl)
    (q3 : (apos.endLine == pos.line) = true := by rfl)
    (q4 : starEach [e] X.env = (false, eval e X.env) :: starEach [] X.env := by rfl)
    (q5 : ((backTo pos (starEach [] X.env)).any fun x => x.1) = false := by rfl) :
    PV X S M (.Call (.Attribute (.Name x p1) "append" apos) [e] [] pos) (fApp i f) := ⟨peI (pe_bm PySem.F.plainAttrs_list PySem.F.slot_list_append PySem.F.type_list_append mt_append (pe_var hN hv hd1 hd2) (pas_cons h pas_nil q4).pa q1 q2 q3 q4 q5) (by
  rintro σ H Q ⟨B, env, R, P⟩
  unfold fApp at P
  split at P
  · rename_i ys hy
    obtain ⟨p, vs, e1, e2, e3⟩ := ow_v R hy
    refine ⟨.ref p, e1, .inl ⟨rfl, vs, SqL.of e2⟩, B, env, R, ?_⟩
    unfold fCons
    revert P
    cases q : f env with
    | bad => exact fun h => h
    | ex x => exact fun h => h
    | ok d e =>
      intro P B1 H1 R1 X1 us hus
      have P1 := Post.bind (r := Rs.ok d e) P B1 H1 R1 X1
      dsimp only at P1
      split at P1
      · rename_i xs hx
        split at P1
        · rename_i hl
          obtain ⟨p', vs1, f1, f2, f3⟩ := ow_v R1 hx
          rw [e1] at f1; cases f1
          obtain ⟨⟩ := hus
          rename_i v vs' a1 a2
          cases a2
          obtain ⟨R2, X2⟩ := R1.mut (ys := .l (xs ++ [d])) (us := .lst (vs1 ++ [v])) hx e1 (f3.append (.cons a1 .nil))
          exact ⟨p, vs1, v, rfl, rfl, f2, by rw [f3.length]; exact hl, P1 _ _ R2 X2 _ .non⟩
        · exact P1.elim
      · exact P1.elim
  · exact P.elim)⟩
/-! ### loops -/
/-- what a walk hands out -/
structure Walk (K : PySem.W.Frag) (S : Se) (J : It) (ds : List D) (B : Hp) : Prop where
  go : ∀ B' H' i, Sit K S B' H' → Same B B' → i < ds.length → J.go i H'
  stop : ∀ B' H' i, Sit K S B' H' → Same B B' → ds.length = i → J.stop i H'
  yld : ∀ B' H' i v H2 d, Sit K S B' H' → Same B B' → ds[i]? = some d → J.yld i H' v H2 → ∃ B2, Grow K S B' H' B2 H2 ∧ Dq K B2 v d
def semI (K : PySem.W.Frag) (S : Se) (M : Xw) (f : List Sl → Rs (List D)) : TI := fun σ H R0 =>
  ∃ B env, Rel K S B env σ H ∧ Post K S M σ B H env (f env) fun ds _ B' H' => ∀ J, Walk K S J ds B' → R0 J H'
structure PIt (X : Cx) (S : Se) (M : Xw) (tg it : Expr) (f : List Sl → Rs (List D)) : Prop where
  pi : PI X tg it (semI X.K S M f)
theorem piI {e tg : Expr} {t t' : TI} (h : PI X tg e t) (m : ∀ σ H Q, t' σ H Q → t σ H Q) : PI X tg e t' := ⟨fun p s σ H Q i q => h.run p s σ H Q i (m σ H Q q)⟩
theorem piOr {e tg : Expr} {t t1 t2 : TI} (h1 : PI X tg e t1) (h2 : PI X tg e t2) (h : ∀ σ H Q, t σ H Q → t1 σ H Q ∨ t2 σ H Q) : PI X tg e t :=
  ⟨fun p s σ H Q i q => (h σ H Q q).elim (fun z => h1.run p s σ H Q i z) fun z => h2.run p s σ H Q i z⟩
def forR (g : D → List Sl → Option (List Sl)) (body : List Sl → Ro) : List D → List Sl → Ro
  | [], env => .nx env
  | d :: ds, env => match g d env with
    | none => .bad
    | some e => match body e with
      | .nx e' => forR g body ds e'
      | .ct e' => forR g body ds e'
      | .bk e' => .nx e'
      | r => r
theorem px_for {tg it : Expr} {body : List Stmt} {pos : Pos} {f : List Sl → Rs (List D)} {g : D → List Sl → Option (List Sl)} {b : List Sl → Ro}
    (hp : PassesOwn (model X.prog X.w) X.A X.env X.xe) (hc : X.calm = true) (hi : PIt X S M tg it f) {L : List Nat} (hg : PTg X S tg g L) (hb : PXs X S M body b)
    (hq : ∀ x, foldedSetIterable it X.env x = pure x := by exact fun _ => rfl) : PX X S M (.For tg it body [] pos) (fun env => (f env).ro fun ds e => forR g b ds e) := ⟨psI (ps_for hp hc hi.pi hg.pg hb.ps hq) (by
  rintro D0 σ H ⟨B, env, R, P⟩
  refine ⟨B, env, R, (PostS.of P).mono fun ds e B1 H1 R1 X1 P1 J wk => ?_⟩
  refine ⟨fun i m σ' H' => ∃ B' e', m = ds.length - i ∧ i ≤ ds.length ∧ Rel X.K S B' e' σ' H' ∧ Same B1 B' ∧ PostS X.K S M B' (forR g b (ds.drop i) e') D0, ⟨_, B1, e, rfl, Nat.zero_le _, R1, Same.refl _, P1⟩, ?_⟩
  rintro i m σ' H' ⟨B', e', rfl, hle, R', sm, P'⟩
  by_cases hl : i < ds.length
  · right
    refine ⟨wk.go B' H' i R'.sit sm hl, fun σ2 H2 => ∃ B2 e2, Rel X.K S B2 e2 σ2 H2 ∧ Same B1 B2 ∧ PostS X.K S M B2 (forR g b (ds.drop (i + 1)) e2) D0, ?_, ?_⟩
    · rintro σ2 H2 ⟨B2, e2, R2, sm2, P2⟩
      exact ⟨ds.length - (i + 1), by omega, B2, e2, rfl, hl, R2, sm2, P2⟩
    · intro v H2 hy
      obtain ⟨d, hd⟩ : ∃ d, ds[i]? = some d := ⟨ds[i], List.getElem?_eq_getElem hl⟩
      obtain ⟨B2, gr, dq⟩ := wk.yld B' H' i v H2 d R'.sit sm hd hy
      obtain ⟨R2, X2⟩ := gr.rel R'
      have hdrop : ds.drop i = d :: ds.drop (i + 1) := by
        rw [List.drop_eq_getElem_cons hl]
        rw [List.getElem?_eq_getElem hl] at hd
        cases hd
        rfl
      rw [hdrop, forR] at P'
      cases qg : g d e' with
      | none => rw [qg] at P'; exact P'.elim
      | some e2 =>
        rw [qg] at P'
        refine ⟨B2, e', d, e2, R2, dq, qg, fun σ3 R3 _ _ => ⟨B2, e2, R3, ?_⟩⟩
        have P2 := PostS.mono P' X2.same
        revert P2
        dsimp only
        cases b e2 with
        | nx e3 => exact fun P2 B4 H4 σ4 R4 s4 => ⟨B4, e3, R4, (sm.trans X2.same).trans s4, PostS.mono P2 s4⟩
        | ct e3 => exact fun P2 B4 H4 σ4 R4 s4 => ⟨B4, e3, R4, (sm.trans X2.same).trans s4, PostS.mono P2 s4⟩
        | bk e3 => exact fun P2 => P2
        | rt d3 => exact fun P2 => P2
        | ex x => exact fun P2 => P2
        | bad => exact fun P2 => P2
  · left
    have h0 : ds.drop i = [] := List.drop_eq_nil_of_le (by omega)
    rw [h0] at P'
    exact ⟨wk.stop B' H' i R'.sit sm (by omega), P' B' H' σ' R' (Same.refl _)⟩)⟩
def whileR (c : List Sl → Rs Bool) (body : List Sl → Ro) : Nat → List Sl → Ro
  | 0, _ => .bad
  | n + 1, env => (c env).ro fun k e => if k = true then match body e with
      | .nx e' => whileR c body n e'
      | .ct e' => whileR c body n e'
      | .bk e' => .nx e'
      | r => r
    else .nx e
theorem px_while {c : Expr} {body : List Stmt} {pos : Pos} {t : List Sl → Rs Bool} {b : List Sl → Ro} (n : Nat)
    (hp : PassesOwn (model X.prog X.w) X.A X.env X.xe) (hc : PB X S M c t) (hb : PXs X S M body b) : PX X S M (.While c body [] pos) (whileR t b n) := ⟨psI (ps_while hp hc.pt hb.ps) (by
  rintro D0 σ H ⟨B, env, R, P⟩
  refine ⟨fun m σ' H' => ∃ B' e', Rel X.K S B' e' σ' H' ∧ PostS X.K S M B' (whileR t b m e') D0, ⟨n, B, env, R, P⟩, ?_⟩
  rintro m σ' H' ⟨B', e', R', P'⟩
  cases m with
  | zero => exact P'.elim
  | succ m =>
    rw [whileR] at P'
    refine ⟨B', e', R', (PostS.of P').mono fun k e2 B2 H2 R2 X2 P2 => ?_⟩
    cases k with
    | false => exact P2 B2 H2 σ' R2 (Same.refl _)
    | true =>
      rw [if_pos rfl] at P2 ⊢
      refine ⟨fun σ3 H3 => ∃ B3 e3, Rel X.K S B3 e3 σ3 H3 ∧ PostS X.K S M B3 (whileR t b m e3) D0, fun σ3 H3 ⟨B3, e3, R3, P3⟩ => ⟨m, by omega, B3, e3, R3, P3⟩, B2, e2, R2, ?_⟩
      revert P2
      cases b e2 with
      | nx e3 => exact fun P2 B4 H4 σ4 R4 s4 => ⟨B4, e3, R4, PostS.mono P2 s4⟩
      | ct e3 => exact fun P2 B4 H4 σ4 R4 s4 => ⟨B4, e3, R4, PostS.mono P2 s4⟩
      | bk e3 => exact fun P2 => P2
      | rt d3 => exact fun P2 => P2
      | ex x => exact fun P2 => P2
      | bad => exact fun P2 => P2)⟩
end
end Pf
namespace Pf
open PySem PySem.Spec PyProof.Rows L2 GxR GenW Gx
/-! ### what a def makes of data -/
inductive Rf where
  | ok (d : D) | ex (x : Exn) | bad
def Ro.fn : Ro → Rf
  | .nx _ => .ok .non
  | .rt d => .ok d
  | .ex x => .ex x
  | _ => .bad
def Rf.rs (r : Rf) (e : List Sl) : Rs D :=
  match r with
  | .ok d => .ok d e
  | .ex x => .ex x
  | .bad => .bad
def spP (K : PySem.W.Frag) (T : List Addr) (xc : Str → Option Value) (n : Nat) (F : List D → Rf) : Sp := fun vs H Q E =>
  vs.length = n ∧ ∃ B ds, Sit K ⟨T, H, B⟩ B H ∧ DqAll K B vs ds ∧ match F ds with
    | .ok d => Wish K ⟨T, H, B⟩ B H d Q
    | .ex x => XOk K ⟨T, H, B⟩ ⟨E, xc⟩ x
    | .bad => False
/-- the slots at the start -/
def env0 (n : Nat) (ds : List D) : List Sl := ds.map .im ++ List.replicate (n - ds.length) .no
theorem env0_own {n : Nat} {ds : List D} {i : Nat} {e : Sl} (h : (env0 n ds)[i]? = some e) : e.prv = false := by
  have : e ∈ env0 n ds := List.mem_of_getElem? h
  rcases List.mem_append.mp this with z | z
  · obtain ⟨d, _, rfl⟩ := List.mem_map.mp z
    rfl
  · rw [(List.mem_replicate.mp z).2]
    rfl
theorem rel0 {K : PySem.W.Frag} {S : Se} {N : List Str} {vs : List V} {ds : List D} (s : Sit K S S.B0 S.H0) (h : DqAll K S.B0 vs ds) (hl : vs.length ≤ N.length) : Rel K S S.B0 (env0 N.length ds) (L2.start N vs) S.H0 := by
  have hvd := h.length
  refine ⟨Old.refl _, s.tab, Same.refl _, s.bh, s.nt, fun _ _ h => .inl h, ?_, fun i e hi => ?_, fun i j p e e' h1 h2 o1 => ?_⟩
  · simp [env0, L2.start, hvd]
  · unfold env0 at hi
    by_cases hb : i < ds.length
    · rw [List.getElem?_append_left (by simpa using hb), List.getElem?_map, List.getElem?_eq_getElem hb] at hi
      cases hi
      obtain ⟨v, h1, h2⟩ := h.get (List.getElem?_eq_getElem hb)
      refine ⟨v, ?_, h2⟩
      unfold L2.start
      rw [List.getElem?_append_left (by simp; omega), List.getElem?_map, h1]
      rfl
    · rw [List.getElem?_append_right (by simp; omega)] at hi
      have := List.mem_of_getElem? hi
      rw [(List.mem_replicate.mp this).2]
      trivial
  · rw [env0_own h1] at o1
    cases o1
section
variable {X : Cx} {S : Se} {M : Xw}
theorem XOk.deep {K : PySem.W.Frag} {B1 H1 : Hp} {x : Exn} (h : XOk K S M x) (o : Old S.H0 H1) : XOk K ⟨S.T, H1, B1⟩ M x := by
  obtain ⟨C, h1, h2, h3⟩ := h
  exact ⟨C, h1, fun hn H' o' t => h2 hn H' (o.trans o') t, fun hn H' B' d vs o' t => h3 hn H' B' d vs (o.trans o') t⟩
theorem pv_call {k n : Nat} {f : Addr} {fd : FuncData} {ps : List Str} {F : List D → Rf} {x : Str} {p pos : Pos} {e : Expr} {es : List Expr} {g : List Sl → Rs (List D)}
    (G : FnOk X.prog X.w X.K X.mg X.base (CX X.prog X.w) k f fd ps (spP X.K S.T M.xc n F)) (hr : Room k X.A) (hg : Gl X x) (hm : X.mg x = some (.ref f)) (hk : PySem.W.keepIn X.K (.ref f) = true)
    (hb : L2.Binds X.K fd ps []) (hx : Passes (CX X.prog X.w) X M.E) (ha : PAs X S M (e :: es) g) (hl : (e :: es).length = n := by rfl)
    (h1 : (x == Str.ofString "__debug__") = false := by rfl) (h2 : starEach (e :: es) X.env = (false, eval e X.env) :: starEach es X.env := by rfl)
    (h3 : ((backTo pos (starEach es X.env)).any fun x => x.1) = false := by rfl) : PV X S M (.Call (.Name x p) (e :: es) [] pos) (fun env => (g env).bind fun ds e => if ds.length = n then (F ds).rs e else .bad) :=
  ⟨peI (pe_call G hr hg hm hk hb .nil hx ha.pa h1 h2 h3) (by
  rintro σ H Q ⟨B, env, R, P⟩
  refine ⟨B, env, R, (Post.bind P).mono fun ds e B1 H1 R1 X1 P1 vs hvs => ?_⟩
  show spP X.K S.T M.xc n F (vs ++ []) H1 Q M.E
  rw [List.append_nil]
  split at P1
  · rename_i hn
    refine ⟨by rw [hvs.length, hn], B1, ds, ⟨R1.tab, R1.bh, R1.nt⟩, hvs, ?_⟩
    revert P1
    cases F ds with
    | bad => exact fun P1 => P1
    | ex x => exact fun P1 => XOk.deep P1 R1.old
    | ok d => exact fun P1 v B2 H2 g2 hv => P1 B2 H2 ((Grow.mk g2.old g2.tab g2.same g2.bh g2.nt g2.new : Grow X.K S B1 H1 B2 H2).rel R1).1 ((Grow.mk g2.old g2.tab g2.same g2.bh g2.nt g2.new : Grow X.K S B1 H1 B2 H2).rel R1).2 v hv
  · exact P1.elim)⟩
/-! ### walks -/
def D.items : D → Option (List D)
  | .lst xs => some xs
  | .tup xs => some xs
  | .scr ns => some (ns.map .int)
  | _ => none
theorem walk_l {K : PySem.W.Frag} {B : Hp} {a : Addr} {vs : List V} {ds : List D} (h : SqL K B a vs) (hd : DqAll K B vs ds) : Walk K S (Itl K a) ds B := by
  have sq : ∀ {B' H' : Hp}, Sit K S B' H' → Same B B' → SqL K H' a vs := fun s sm => same_seqL s.bh (same_seqL sm h)
  refine ⟨fun B' H' i s sm hi => ?_, fun B' H' i s sm hi => ⟨vs, sq s sm, by rw [hd.length]; exact Nat.le_of_eq hi⟩, fun B' H' i v H2 d s sm hi hy => ?_⟩
  · obtain ⟨v, h1, _⟩ := hd.get (List.getElem?_eq_getElem hi)
    exact ⟨vs, v, sq s sm, h1⟩
  · obtain ⟨rfl, hy⟩ := hy
    obtain ⟨u, h1, h2⟩ := hd.get hi
    have := hy vs (sq s sm)
    rw [h1] at this
    cases this
    exact ⟨B', ⟨Old.refl _, s.tab, Same.refl _, s.bh, s.nt, fun _ _ h => .inl h⟩, h2.mono sm⟩
theorem walk_t {K : PySem.W.Frag} {B : Hp} {a : Addr} {vs : List V} {ds : List D} (h : SqT K B a vs) (hd : DqAll K B vs ds) : Walk K S (Itt K a) ds B := by
  have sq : ∀ {B' H' : Hp}, Sit K S B' H' → Same B B' → SqT K H' a vs := fun s sm => same_seqT s.bh (same_seqT sm h)
  refine ⟨fun B' H' i s sm hi => ?_, fun B' H' i s sm hi => ⟨vs, sq s sm, by rw [hd.length]; exact Nat.le_of_eq hi⟩, fun B' H' i v H2 d s sm hi hy => ?_⟩
  · obtain ⟨v, h1, _⟩ := hd.get (List.getElem?_eq_getElem hi)
    exact ⟨vs, v, sq s sm, h1⟩
  · obtain ⟨rfl, hy⟩ := hy
    obtain ⟨u, h1, h2⟩ := hd.get hi
    have := hy vs (sq s sm)
    rw [h1] at this
    cases this
    exact ⟨B', ⟨Old.refl _, s.tab, Same.refl _, s.bh, s.nt, fun _ _ h => .inl h⟩, h2.mono sm⟩
def fItems (f : List Sl → Rs D) (env : List Sl) : Rs (List D) := (f env).bind fun d e => Rs.opt d.items e
theorem pit_seq {tg e : Expr} {f : List Sl → Rs D} (h : PV X S M e f) : PIt X S M tg e (fItems f) := ⟨piOr (pi_list h.pe) (pi_tup h.pe) (by
  rintro σ H Q ⟨B, env, R, P⟩
  have P := Post.bind P
  by_cases ht : ∃ xs e, f env = .ok (.tup xs) e
  · right
    obtain ⟨xs, e, ht⟩ := ht
    refine ⟨B, env, R, ?_⟩
    rw [ht] at P ⊢
    intro B1 H1 R1 X1 v hv
    have P1 := P B1 H1 R1 X1
    cases hv with
    | tup h1 h2 => exact ⟨_, rfl, ⟨_, same_tup R1.bh h1⟩, P1.ok R1 _ (walk_t h1.1 h2)⟩
  · left
    refine ⟨B, env, R, ?_⟩
    revert P ht
    cases f env with
    | bad => exact fun P _ => P
    | ex x => exact fun P _ => P
    | ok d e =>
      intro P ht B1 H1 R1 X1 v hv
      have P1 := P B1 H1 R1 X1
      cases hv <;> first | exact P1.elim | skip
      · rename_i vs ds h1 h2
        exact ⟨_, rfl, ⟨_, SqL.of (R1.bh _ _ h1)⟩, P1.ok R1 _ (walk_l (SqL.of h1) h2)⟩
      · exact absurd ⟨_, _, rfl⟩ ht
      · rename_i ns h1
        exact ⟨_, rfl, ⟨_, same_seqL R1.bh h1⟩, P1.ok R1 _ (walk_l h1 (DqAll.ints ns))⟩)⟩
theorem walk_r {K : PySem.W.Frag} {B : Hp} {lo : Int} {n : Nat} : Walk K S (Itr lo n) ((List.range n).map fun (i : Nat) => D.int (lo + (i : Int))) B := by
  refine ⟨fun B' H' i s sm hi => by show i < n; simpa using hi, fun B' H' i s sm hi => by show n ≤ i; exact Nat.le_of_eq (by simpa using hi), fun B' H' i v H2 d s sm hi hy => ?_⟩
  obtain ⟨rfl, rfl⟩ := hy
  refine ⟨B', ⟨Old.refl _, s.tab, Same.refl _, s.bh, s.nt, fun _ _ h => .inl h⟩, ?_⟩
  rw [List.getElem?_map] at hi
  cases q : (List.range n)[i]? with
  | none => rw [q] at hi; cases hi
  | some j =>
    rw [q] at hi
    cases hi
    have : j = i := by
      have h1 := (List.getElem?_eq_some_iff.mp q).2
      rw [List.getElem_range] at h1
      exact h1.symm
    subst this
    exact .int _
def rng1 : List D → Option (List D)
  | [.int j] => if -(2 ^ 62) ≤ j ∧ j < 2 ^ 62 then some ((List.range j.toNat).map fun (i : Nat) => D.int (0 + (i : Int))) else none
  | _ => none
def rng2 : List D → Option (List D)
  | [.int i, .int j] => if -(2 ^ 62) ≤ i ∧ i < 2 ^ 62 ∧ -(2 ^ 62) ≤ j ∧ j < 2 ^ 62 then some ((List.range (j - i).toNat).map fun (k : Nat) => D.int (i + (k : Int))) else none
  | _ => none
theorem pit_range1 {tg a : Expr} {p pos : Pos} {g : List Sl → Rs (List D)} (hg : Gl X "range") (hm : X.mg "range" = none) (ha : PAs X S M [a] g)
    (h1 : starEach [a] X.env = [(false, eval a X.env)] := by rfl) : PIt X S M tg (.Call (.Name "range" p) [a] [] pos) (fun env => (g env).bind fun ds e => Rs.opt (rng1 ds) e) := ⟨piI (pi_range1 hg hm ha.pa h1) (by
  rintro σ H Q ⟨B, env, R, P⟩
  refine ⟨B, env, R, (Post.bind P).mono fun ds e B1 H1 R1 X1 P1 vs hvs => ?_⟩
  cases q : rng1 ds with
  | none => rw [q] at P1; exact P1.elim
  | some ys =>
    rw [q] at P1
    unfold rng1 at q
    split at q
    · split at q
      · rename_i j hj
        cases q
        obtain ⟨⟩ := hvs
        rename_i v vs' a1 a2
        cases a2
        cases a1
        exact ⟨j, rfl, hj.1, hj.2, P1.ok R1 _ walk_r⟩
      · cases q
    · cases q)⟩
end
end Pf
namespace Pf
open PySem PySem.Spec PyProof.Rows L2 GxR GenW Gx
/-! ### slots within a comprehension -/
def Sl.hid : Sl → Sl
  | .ow _ => .no
  | .ro _ => .no
  | s => s
def hideE (own : List Nat) (env : List Sl) : List Sl := own.foldr (fun i e => e.set i .no) (env.map Sl.hid)
theorem hideE_len (env : List Sl) : ∀ own : List Nat, (hideE own env).length = env.length
  | [] => by simp [hideE]
  | i :: L => by
    show ((hideE L env).set i .no).length = _
    rw [List.length_set, hideE_len env L]
theorem hideE_get {env : List Sl} {j : Nat} {e : Sl} : ∀ {own : List Nat}, (hideE own env)[j]? = some e → e = .no ∨ ∃ d, e = .im d ∧ env[j]? = some (.im d) ∧ j ∉ own
  | [], h => by
    have h : (env.map Sl.hid)[j]? = some e := h
    rw [List.getElem?_map] at h
    cases q : env[j]? with
    | none => rw [q] at h; cases h
    | some s =>
      rw [q] at h
      cases s with
      | no => cases h; exact .inl rfl
      | im d => cases h; exact .inr ⟨d, rfl, rfl, by simp⟩
      | ow w => cases h; exact .inl rfl
      | ro w => cases h; exact .inl rfl
  | i :: L, h => by
    have h : ((hideE L env).set i .no)[j]? = some e := h
    rcases env_set h with ⟨_, rfl⟩ | ⟨hne, h⟩
    · exact .inl rfl
    · rcases hideE_get h with z | ⟨d, h1, h2, h3⟩
      · exact .inl z
      · exact .inr ⟨d, h1, h2, fun z => (List.mem_cons.mp z).elim hne h3⟩
theorem hide_own {own : List Nat} {env : List Sl} {σ : L2.St} (a : Addr) : ¬ OwnA (hideE own env) σ a := fun ⟨j, e, h1, h2, _⟩ => by
  rcases hideE_get h1 with rfl | ⟨d, rfl, _⟩ <;> cases h2
section
variable {X : Cx} {S : Se} {M : Xw}
theorem Rel.hide {K : PySem.W.Frag} {B H : Hp} {env : List Sl} {σ : L2.St} (R : Rel K S B env σ H) (own : List Nat) : Rel K S B (hideE own env) (wipe σ own) H := by
  refine ⟨R.old, R.tab, R.b0, R.bh, R.nt, R.new, by rw [hideE_len, wipe_len]; exact R.len, fun i e h => ?_, fun i j p e e' h1 h2 o1 => ?_⟩
  · rcases hideE_get h with rfl | ⟨d, rfl, h1, h2⟩
    · trivial
    · rw [wipe_out _ _ _ h2]
      exact R.sl i _ h1
  · rcases hideE_get h1 with rfl | ⟨d, rfl, _⟩ <;> cases o1
theorem Grow.of {K : PySem.W.Frag} {B H B' H' : Hp} {env e : List Sl} {σ : L2.St} (no : ∀ a, ¬ OwnA env σ a) (R : Rel K S B' e σ H') (E : Ext env e σ B H B' H') : Grow K S B H B' H' :=
  ⟨fun a o h => E.kept a o h (no a), R.tab, E.same, R.bh, R.nt, fun a o h => (E.new a o h).elim .inl fun z => z.elim .inr fun z => (no a z).elim⟩
theorem Grow.trans {K : PySem.W.Frag} {B H B1 H1 B2 H2 : Hp} (a : Grow K S B H B1 H1) (b : Grow K S B1 H1 B2 H2) : Grow K S B H B2 H2 :=
  ⟨a.old.trans b.old, b.tab, a.same.trans b.same, b.bh, b.nt, fun c o h => (b.new c o h).elim (a.new c o) fun z => .inr (a.old.none z)⟩
theorem Grow.relK {K : PySem.W.Frag} {B H B' H' : Hp} {env : List Sl} {σ : L2.St} (g : Grow K S B H B' H') (R : Rel K S B env σ H) : Rel K S B' env σ H' ∧ Ext env env σ B H B' H' :=
  R.step g.old g.tab g.same g.bh g.nt g.new
structure PIf (X : Cx) (S : Se) (M : Xw) (ifs : List Expr) (t : List Sl → Rs Bool) : Prop where
  pts : PTs X ifs (semT X.K S M t)
theorem ptsI {e : List Expr} {t t' : TT} (h : PTs X e t) (m : ∀ σ H Q, t' σ H Q → t σ H Q) : PTs X e t' := ⟨fun p s σ H Q i q => h.run p s σ H Q i (m σ H Q q)⟩
theorem pif_nil : PIf X S M [] (fun env => .ok true env) := ⟨ptsI pts_nil (by rintro σ H Q ⟨B, env, R, P⟩; exact P.ok R)⟩
theorem pif_one {c : Expr} {t : List Sl → Rs Bool} (h : PB X S M c t) : PIf X S M [c] t := ⟨pts_one h.pt⟩
/-- one turn: wrong, nothing, or an item -/
def turnD (g : D → List Sl → Option (List Sl)) (t : List Sl → Rs Bool) (el : List Sl → Rs D) (e0 : List Sl) (d : D) : Option (Option D) :=
  match g d e0 with
  | none => none
  | some e1 => match t e1 with
    | .ok b e2 => if b = true then match el e2 with
        | .ok x _ => some (some x)
        | _ => none
      else some none
    | _ => none
def turnsD (g : D → List Sl → Option (List Sl)) (t : List Sl → Rs Bool) (el : List Sl → Rs D) (e0 : List Sl) : List D → Option (List D)
  | [] => some []
  | d :: ds => match turnD g t el e0 d with
    | none => none
    | some none => turnsD g t el e0 ds
    | some (some x) => (turnsD g t el e0 ds).map (x :: ·)
abbrev semG (K : PySem.W.Frag) (S : Se) (g : D → List Sl → Option (List Sl)) (L : List Nat) : TG := fun v σ H Q =>
  ∃ B env d e, Rel K S B env σ H ∧ Dq K B v d ∧ g d env = some e ∧ ∀ σ', Rel K S B e σ' H → (∀ a, OwnA e σ' a → OwnA env σ a) → Off L σ σ' → Q σ' H
theorem turn_sem {K : PySem.W.Frag} {g : D → List Sl → Option (List Sl)} {t : List Sl → Rs Bool} {el : List Sl → Rs D} {L own : List Nat} {B H : Hp} {e0 : List Sl} {σ : L2.St} {x : V} {d : D} {r : Option D}
    {Y : VK} {N : Hp → Prop} (hL : ∀ i ∈ L, i ∈ own) (R : Rel K S B e0 (wipe σ own) H) (no : ∀ a, ¬ OwnA e0 (wipe σ own) a) (hx : Dq K B x d) (ht : turnD g t el e0 d = some r)
    (k1 : ∀ z B4 H4 y, r = some z → Grow K S B H B4 H4 → Dq K B4 y z → Y y H4) (k2 : ∀ B4 H4, r = none → Grow K S B H B4 H4 → N H4) :
    semG K S g L x (wipe σ own) H fun σ2 H2 => wipe σ2 own = wipe σ own ∧ semT K S M.calm t σ2 H2 fun b H3 => if b = true then semE K S M.calm el σ2 H3 Y else N H3 := by
  unfold turnD at ht
  cases q1 : g d e0 with
  | none => rw [q1] at ht; cases ht
  | some e1 =>
    rw [q1] at ht
    refine ⟨B, e0, d, e1, R, hx, q1, fun σ2 R1 o1 off => ⟨wipe_off off hL, B, e1, R1, ?_⟩⟩
    have no1 : ∀ a, ¬ OwnA e1 σ2 a := fun a h => no a (o1 a h)
    dsimp only at ht
    cases q2 : t e1 with
    | bad => rw [q2] at ht; cases ht
    | ex x => rw [q2] at ht; cases ht
    | ok b e2 =>
      rw [q2] at ht
      intro B3 H3 R3 X3
      have no2 : ∀ a, ¬ OwnA e2 σ2 a := fun a h => no1 a (X3.sub a h)
      cases b with
      | false =>
        cases ht
        exact k2 B3 H3 rfl (.of no1 R3 X3)
      | true =>
        refine ⟨B3, e2, R3, ?_⟩
        dsimp only at ht
        rw [if_pos rfl] at ht
        cases q3 : el e2 with
        | bad => rw [q3] at ht; cases ht
        | ex x => rw [q3] at ht; cases ht
        | ok z e3 =>
          rw [q3] at ht
          cases ht
          exact fun B4 H4 R4 X4 y hy => k1 z B4 H4 y rfl ((Grow.of no1 R3 X3).trans (.of no2 R4 X4)) hy
/-! ### list comprehensions -/
def fLc (f : List Sl → Rs (List D)) (g : D → List Sl → Option (List Sl)) (t : List Sl → Rs Bool) (el : List Sl → Rs D) (own : List Nat) (env : List Sl) : Rs Ow :=
  (f env).bind fun ds e => match turnsD g t el (hideE own e) ds with
    | some xs => if xs.length ≤ sizeLine then .ok (.l xs) e else .bad
    | none => .bad
theorem drop_cons {α : Type} {ds : List α} {i : Nat} (h : i < ds.length) : ds.drop i = ds[i] :: ds.drop (i + 1) := List.drop_eq_getElem_cons h
theorem sem_lc {K : PySem.W.Frag} {f : List Sl → Rs (List D)} {g : D → List Sl → Option (List Sl)} {t : List Sl → Rs Bool} {el : List Sl → Rs D} {own L : List Nat} (hL : ∀ i ∈ L, i ∈ own) :
    ∀ σ H Q, semN K S M (fLc f g t el own) σ H Q → tLc (semI K S M f) (semG K S g L) (semT K S M.calm t) (semE K S M.calm el) own σ H Q := by
  rintro σ H Q ⟨B, env, R, P⟩
  refine ⟨B, env, R, (Post.bind P).mono fun ds e B1 H1 R1 X1 P1 J wk D0 hD => ?_⟩
  cases q : turnsD g t el (hideE own e) ds with
  | none => rw [q] at P1; exact P1.elim
  | some total =>
    rw [q] at P1
    dsimp only at P1
    split at P1
    · rename_i hlen
      have hD0 : H D0 = none := X1.live D0 hD
      refine ⟨fun i m H' => ∃ B' acc av rest, m = ds.length - i ∧ i ≤ ds.length ∧ Rel K S B' e σ H' ∧ Ext e e σ B1 H1 B' H' ∧ H' D0 = some (.lst av) ∧ DqAll K B' av acc ∧ B' D0 = none ∧ ¬ PrvA e σ D0 ∧
        turnsD g t el (hideE own e) (ds.drop i) = some rest ∧ acc ++ rest = total, ?_, ?_⟩
      · have F := R1.lay (o := .lst []) hD
        refine ⟨_, B1, [], [], total, rfl, Nat.zero_le _, F.1, F.2, upd_same, .nil, R1.bh.free hD, fun ow => ?_, q, rfl⟩
        obtain ⟨_, _, o', w, h1, _⟩ := R1.prvB ow
        rw [hD] at h1
        cases h1
      · rintro i m H' ⟨B', acc, av, rest, rfl, hle, R', X', hd, hacc, hbn, nown, hrest, hsum⟩
        by_cases hl : i < ds.length
        · right
          refine ⟨wk.go B' H' i R'.sit X'.same hl, fun H2 => ∃ B2 acc av rest, Rel K S B2 e σ H2 ∧ Ext e e σ B1 H1 B2 H2 ∧ H2 D0 = some (.lst av) ∧ DqAll K B2 av acc ∧ B2 D0 = none ∧ ¬ PrvA e σ D0 ∧
            turnsD g t el (hideE own e) (ds.drop (i + 1)) = some rest ∧ acc ++ rest = total, ?_, ?_⟩
          · rintro H2 ⟨B2, acc, av, rest, R2, X2, h1, h2, h3, h4, h5, h6⟩
            exact ⟨ds.length - (i + 1), by omega, B2, acc, av, rest, rfl, hl, R2, X2, h1, h2, h3, h4, h5, h6⟩
          · intro x H2 hy
            obtain ⟨B2, gr, dq⟩ := wk.yld B' H' i x H2 ds[i] R'.sit X'.same (List.getElem?_eq_getElem hl) hy
            have R2 := (gr.relK R').1
            rw [drop_cons hl, turnsD] at hrest
            cases qt : turnD g t el (hideE own e) ds[i] with
            | none => rw [qt] at hrest; cases hrest
            | some r =>
              rw [qt] at hrest
              have fin : ∀ {B4 H4 : Hp}, Grow K S B2 H2 B4 H4 → Rel K S B4 e σ H4 ∧ Ext e e σ B1 H1 B4 H4 ∧ H4 D0 = some (.lst av) ∧ DqAll K B4 av acc ∧ B4 D0 = none := @fun B4 H4 g4 => by
                have g5 := gr.trans g4
                refine ⟨(g5.relK R').1, X'.trans (g5.relK R').2, g5.old.at hd (fun ps h => by cases h), hacc.mono g5.same, ?_⟩
                cases z : B4 D0 with
                | none => rfl
                | some o =>
                  rcases g5.new _ _ z with y | y
                  · rw [hbn] at y; cases y
                  · rw [hd] at y; cases y
              refine turn_sem hL (R2.hide own) hide_own dq qt (fun z B4 H4 y hz g4 hyz => ?_) (fun B4 H4 hz g4 => ?_)
              · subst hz
                obtain ⟨R4, X4, hd4, ha4, hb4⟩ := fin g4
                dsimp only at hrest
                cases q2 : turnsD g t el (hideE own e) (ds.drop (i + 1)) with
                | none => rw [q2] at hrest; cases hrest
                | some rest2 =>
                  rw [q2] at hrest
                  have hrest : some (z :: rest2) = some rest := hrest
                  cases hrest
                  have hlt : av.length < sizeLine := by
                    rw [ha4.length]
                    have : total.length = acc.length + (rest2.length + 1) := by rw [← hsum, List.length_append, List.length_cons]
                    omega
                  have hs0 : S.H0 D0 = none := R.old.none hD0
                  refine ⟨av, hd4, hlt, B4, acc ++ [z], av ++ [y], rest2, R4.turn hs0 hb4 hd4 (fun ps h => by cases h) nown, ⟨X4.sub, X4.same, X4.new, fun a o ha hn => ?_, fun a ha => ?_⟩, upd_same, ha4.append (.cons hyz .nil), hb4, nown, rfl, by rw [← hsum]; simp⟩
                  · have : a ≠ D0 := ne_of_none ha hD
                    rw [upd_ne this]
                    exact X4.kept a o ha hn
                  · have : a ≠ D0 := fun z => by rw [z, upd_same] at ha; cases ha
                    rw [upd_ne this] at ha
                    exact X4.live a ha
              · subst hz
                obtain ⟨R4, X4, hd4, ha4, hb4⟩ := fin g4
                exact ⟨B4, acc, av, rest, R4, X4, hd4, ha4, hb4, nown, hrest, hsum⟩
        · left
          have h0 : ds.drop i = [] := List.drop_eq_nil_of_le (by omega)
          rw [h0, turnsD] at hrest
          cases hrest
          rw [List.append_nil] at hsum
          subst hsum
          exact ⟨wk.stop B' H' i R'.sit X'.same (by omega), P1 B' H' R' X' D0 _ hD0 ⟨R.old.none hD0, hbn, hd, nown⟩ hacc⟩
    · exact P1.elim
theorem pn_lc {elt tg iter : Expr} {ifs : List Expr} {scope : Scope} {own : List (Str × Nat)} {pos : Pos} {f : List Sl → Rs (List D)} {g : D → List Sl → Option (List Sl)} {t : List Sl → Rs Bool} {el : List Sl → Rs D} {L : List Nat}
    (hc : X.calm = true) (hN : X.N.Nodup) (hi : PIt X S M tg iter f) (ok : BlkOk X.N X.env.scope scope own)
    (hg : ∀ (s : Shared) (H : Hp) (C : Addr) (cl : List (Str × Addr)) (fp : List Addr), PTg (X.blk s H scope (compEnvC scope cl C X.env) fp) S tg g L)
    (ht : ∀ (s : Shared) (H : Hp) (C : Addr) (cl : List (Str × Addr)) (fp : List Addr), PIf (X.blk s H scope (compEnvC scope cl C X.env) fp) S M.calm ifs t)
    (he : ∀ (s : Shared) (H : Hp) (C : Addr) (cl : List (Str × Addr)) (fp : List Addr), PV (X.blk s H scope (compEnvC scope cl C X.env) fp) S M.calm elt el)
    (hL : ∀ i ∈ L, i ∈ own.map (·.2)) (hq : ∀ x, foldedSetIterable iter X.env x = pure x := by exact fun _ => rfl) :
    PN X S M (.ListComp elt [⟨tg, iter, ifs, 0⟩] scope pos) (fLc f g t el (own.map (·.2))) :=
  ⟨peI (pe_lc hc hN hi.pi ok (fun s H C cl fp => (hg s H C cl fp).pg) (fun s H C cl fp => (ht s H C cl fp).pts) (fun s H C cl fp => (he s H C cl fp).pe) hq) (sem_lc hL)⟩
/-! ### own lists may be read by their items within a comprehension -/
/-! ### generators -/
def D.sv : D → Option V
  | .non => some .non
  | .bl b => some (.bl b)
  | .int i => some (.int i)
  | .str x => some (.str x)
  | _ => none
theorem dq_sv {K : PySem.W.Frag} {B : Hp} {v u : V} {d : D} (h : Dq K B v d) (e : d.sv = some u) : v = u := by
  cases h <;> cases e <;> rfl
def svs : List D → Option (List V)
  | [] => some []
  | d :: ds => match d.sv, svs ds with
    | some v, some vs => some (v :: vs)
    | _, _ => none
def fGx (f : List Sl → Rs (List D)) (g : D → List Sl → Option (List Sl)) (t : List Sl → Rs Bool) (el : List Sl → Rs D) (own : List Nat) (res : List D → Option D) (env : List Sl) : Rs D :=
  (f env).bind fun ds e => Rs.opt ((turnsD g t el (hideE own e) ds).bind res) e
/-- what all(), any(), .. make of the items -/
def ResD (res : List D → Option D) (Res : List V → VK → Hp → Prop) : Prop :=
  ∀ zs z, res zs = some z → ∃ ys v, svs zs = some ys ∧ z.sv = some v ∧ ∀ (Q : VK) H, Q v H → Res ys Q H
theorem sv_dq {K : PySem.W.Frag} {B : Hp} {z : D} {v : V} (h : z.sv = some v) : Dq K B v z := by
  cases z <;> cases h <;> constructor
theorem sem_gx {K : PySem.W.Frag} {P0 : Addr} {f : List Sl → Rs (List D)} {g : D → List Sl → Option (List Sl)} {t : List Sl → Rs Bool} {el : List Sl → Rs D} {own L : List Nat} {res : List D → Option D} {Res : List V → VK → Hp → Prop}
    (hP : P0 ∈ S.T) (hL : ∀ i ∈ L, i ∈ own) (hres : ResD res Res) :
    ∀ σ H Q, semE K S M (fGx f g t el own res) σ H Q → tGx P0 (semI K S M f) (semG K S g L) (semT K S M.calm t) (semE K S M.calm el) own Res σ H Q := by
  rintro σ H Q ⟨B, env, R, P⟩
  refine ⟨B, env, R, (Post.bind P).mono fun ds e B1 H1 R1 X1 P1 J wk => ⟨R1.tab P0 hP, ?_⟩⟩
  cases q : turnsD g t el (hideE own e) ds with
  | none => rw [q] at P1; exact P1.elim
  | some zs =>
    rw [q, Option.bind_some] at P1
    cases q1 : res zs with
    | none => rw [q1] at P1; exact P1.elim
    | some z =>
      rw [q1] at P1
      obtain ⟨ys, v, hys, hv, hR⟩ := hres zs z q1
      refine ⟨ys, fun i m r H' => ∃ B' rest, m = ds.length - i ∧ i ≤ ds.length ∧ Rel K S B' e σ H' ∧ Ext e e σ B1 H1 B' H' ∧ turnsD g t el (hideE own e) (ds.drop i) = some rest ∧ svs rest = some r, fun H2 tb => ?_, ?_, ?_⟩
      · have gr : Grow K S B1 H1 B1 H2 := by
          obtain ⟨tg, same⟩ := tb
          refine ⟨fun a o h => ?_, fun P' hP' => ?_, Same.refl _, fun a o h => ?_, R1.nt, fun a o h => .inl h⟩
          · by_cases z : a = P0
            · subst z
              obtain ⟨ps, h1, _⟩ := R1.tab a hP
              rw [h] at h1
              cases h1
              obtain ⟨ps', h2, _⟩ := tg
              exact .inr ⟨⟨ps, rfl⟩, ps', h2⟩
            · exact .inl (by rw [same a z]; exact h)
          · by_cases z : P' = P0
            · subst z; exact tg
            · obtain ⟨ps, h1, h2⟩ := R1.tab P' hP'
              exact ⟨ps, by rw [same P' z]; exact h1, h2⟩
          · have z : a ≠ P0 := fun z => by
              subst z
              obtain ⟨ps, h1, _⟩ := R1.tab a hP
              have h2 := R1.bh a o h
              rw [h1] at h2
              cases h2
              exact R1.nt a ps h
            rw [same a z]
            exact R1.bh a o h
        exact ⟨_, B1, zs, rfl, Nat.zero_le _, (gr.relK R1).1, (gr.relK R1).2, q, hys⟩
      · rintro i m r H' ⟨B', rest, rfl, hle, R', X', hrest, hr⟩
        by_cases hl : i < ds.length
        · right
          refine ⟨wk.go B' H' i R'.sit X'.same hl, fun x H2 hy => ?_⟩
          obtain ⟨B2, gr, dq⟩ := wk.yld B' H' i x H2 ds[i] R'.sit X'.same (List.getElem?_eq_getElem hl) hy
          have R2 := (gr.relK R').1
          rw [drop_cons hl, turnsD] at hrest
          cases qt : turnD g t el (hideE own e) ds[i] with
          | none => rw [qt] at hrest; cases hrest
          | some rr =>
            rw [qt] at hrest
            refine turn_sem hL (R2.hide own) hide_own dq qt (fun z B4 H4 y hz g4 hyz => ?_) (fun B4 H4 hz g4 => ?_)
            · subst hz
              have g5 := gr.trans g4
              dsimp only at hrest
              cases q2 : turnsD g t el (hideE own e) (ds.drop (i + 1)) with
              | none => rw [q2] at hrest; cases hrest
              | some rest2 =>
                rw [q2] at hrest
                have hrest : some (z :: rest2) = some rest := hrest
                cases hrest
                rw [svs] at hr
                cases q3 : z.sv with
                | none => rw [q3] at hr; cases hr
                | some u =>
                  cases q4 : svs rest2 with
                  | none => rw [q3, q4] at hr; cases hr
                  | some us =>
                    rw [q3, q4] at hr
                    cases hr
                    exact ⟨ds.length - (i + 1), us, by omega, by rw [dq_sv hyz q3], B4, rest2, rfl, hl, (g5.relK R').1, X'.trans (g5.relK R').2, q2, q4⟩
            · subst hz
              have g5 := gr.trans g4
              exact ⟨ds.length - (i + 1), by omega, B4, rest, rfl, hl, (g5.relK R').1, X'.trans (g5.relK R').2, hrest, hr⟩
        · left
          have h0 : ds.drop i = [] := List.drop_eq_nil_of_le (by omega)
          rw [h0, turnsD] at hrest
          cases hrest
          cases hr
          exact ⟨wk.stop B' H' i R'.sit X'.same (by omega), rfl⟩
      · rintro i m r H3 ⟨B', rest, _, _, R', X', _⟩
        exact hR Q H3 (P1 B' H3 R' X' v (sv_dq hv))
end
end Pf
namespace Pf
open PySem PySem.Spec PyProof.Rows L2 GxR GenW Gx
section
variable {X : Cx} {S : Se} {M : Xw}
/-! ### operators of integers -/
def cI (b : Int → Int → Bool) (gd : Int → Int → D) : D → D → Option D
  | .int i, .int j => if b i j = true then some (gd i j) else none
  | _, _ => none
def cI0 (gd : Int → Int → D) : D → D → Option D
  | .int i, .int j => some (gd i j)
  | _, _ => none
theorem opdI0 {op : Value → Value → Sem Value} {g : Int → Int → V} {gd : Int → Int → D} (h : OpR X op (rI0 g)) (hg : ∀ B i j, Dq X.K B (g i j) (gd i j)) : OpD X S op (cI0 gd) := ⟨_, h, fun B H x y d e z Q s hx hy hc w => by
  revert hc
  cases hx <;> cases hy <;> intro hc <;> first | (cases hc; exact ⟨_, _, rfl, rfl, Wish.now s w (hg B _ _)⟩) | cases hc⟩
theorem opdI {op : Value → Value → Sem Value} {g : Int → Int → V} {gd : Int → Int → D} {C : Int → Int → Prop} {b : Int → Int → Bool} (h : OpR X op (rI C g)) (hC : ∀ i j, b i j = true → C i j) (hg : ∀ B i j, Dq X.K B (g i j) (gd i j)) :
    OpD X S op (cI b gd) := ⟨_, h, fun B H x y d e z Q s hx hy hc w => by
  revert hc
  cases hx <;> cases hy <;> intro hc <;> first
    | (rename_i i j
       have hc : (if b i j = true then some (gd i j) else none) = some z := hc
       split at hc
       · rename_i hb
         cases hc; exact ⟨_, _, rfl, rfl, hC _ _ hb, Wish.now s w (hg B _ _)⟩
       · cases hc)
    | cases hc⟩
theorem OpD.or {op : Value → Value → Sem Value} {c c' : D → D → Option D} (h : OpD X S op c) (h' : OpD X S op c') : OpD X S op (fun d e => (c d e).orElse fun _ => c' d e) := by
  obtain ⟨r, h1, h2⟩ := h.ex
  obtain ⟨r', h1', h2'⟩ := h'.ex
  refine ⟨_, h1.or h1', fun B H x y d e z Q s hx hy hc w => ?_⟩
  cases q : c d e with
  | some z' =>
    rw [q] at hc
    cases hc
    exact .inl (h2 B H x y d e _ Q s hx hy q w)
  | none =>
    rw [q] at hc
    exact .inr (h2' B H x y d e z Q s hx hy hc w)
def dAdd : D → D → Option D := cI0 fun i j => .int (i + j)
theorem od_add : OpD X S (binaryOp .Add) dAdd := opdI0 op_add fun _ _ _ => .int _
def dSub : D → D → Option D := cI0 fun i j => .int (i - j)
theorem od_sub : OpD X S (binaryOp .Sub) dSub := opdI0 op_sub fun _ _ _ => .int _
def mulOk (i j : Int) : Bool := decide ((-(2 ^ 64) < i ∧ i < 2 ^ 64 ∨ -(2 ^ 64) < j ∧ j < 2 ^ 64) ∨ i.natAbs.log2 + j.natAbs.log2 < 1000000)
def dMul : D → D → Option D := cI mulOk fun i j => .int (i * j)
theorem od_mul : OpD X S (binaryOp .Mult) dMul := ⟨_, OpR.or op_mul op_mulW, fun B H x y d e z Q s hx hy hc w => by
  revert hc
  cases hx <;> cases hy <;> intro hc <;> first | cases hc | skip
  rename_i i j
  have hc : (if mulOk i j = true then some (D.int (i * j)) else none) = some z := hc
  split at hc
  · rename_i hb
    cases hc
    rcases of_decide_eq_true hb with h | h
    · exact .inl ⟨_, _, rfl, rfl, h, Wish.now s w (.int _)⟩
    · exact .inr ⟨_, _, rfl, rfl, h, Wish.now s w (.int _)⟩
  · cases hc⟩
def dFdv : D → D → Option D := cI (fun i j => decide (0 < j ∧ j.natAbs.log2 < 9000)) fun i j => .int (i / j)
theorem od_fdv : OpD X S (binaryOp .FloorDiv) dFdv := opdI op_fdivW (fun i j h => by have h := of_decide_eq_true h; exact h) fun _ _ _ => .int _
def dMod : D → D → Option D := cI (fun _ j => decide (0 < j)) fun i j => .int (i % j)
theorem od_mod : OpD X S (binaryOp .Mod) dMod := opdI op_mod (fun i j h => by have h := of_decide_eq_true h; exact h) fun _ _ _ => .int _
def dPow : D → D → Option D := cI (fun i j => decide (0 ≤ j ∧ j ≤ 1000000 ∧ i.natAbs < 2 ^ 64)) fun i j => .int (i ^ j.toNat)
theorem od_pow : OpD X S (binaryOp .Pow) dPow := opdI op_pow (fun i j h => by have h := of_decide_eq_true h; exact h) fun _ _ _ => .int _
def dLt : D → D → Option D := cI0 fun i j => .bl (decide (i < j))
theorem od_lt : OpD X S (compareOp .Lt) dLt := opdI0 op_lt fun _ _ _ => .bl _
def dLe : D → D → Option D := cI0 fun i j => .bl (decide (i ≤ j))
theorem od_le : OpD X S (compareOp .LtE) dLe := opdI0 op_le fun _ _ _ => .bl _
def dGt : D → D → Option D := cI0 fun i j => .bl (decide (j < i))
theorem od_gt : OpD X S (compareOp .Gt) dGt := opdI0 op_gt fun _ _ _ => .bl _
def dGe : D → D → Option D := cI0 fun i j => .bl (decide (j ≤ i))
theorem od_ge : OpD X S (compareOp .GtE) dGe := opdI0 op_ge fun _ _ _ => .bl _
/-- equal as Python's == says -/
def D.eqv (d e : D) : Option Bool :=
  match d.py, e.py with
  | some p, some q => if SeqAt.shaped p && SeqAt.shaped q then some (PyData.eqv p q) else none
  | _, _ => none
def dEq (d e : D) : Option D := (d.eqv e).map .bl
def dNe (d e : D) : Option D := (d.eqv e).map fun b => .bl (!b)
theorem eqv_at {B H : Hp} {x y : V} {d e : D} {b : Bool} (s : Sit X.K S B H) (hx : Dq X.K B x d) (hy : Dq X.K B y e) (h : d.eqv e = some b) :
    ∃ p q, Dp X.K H x p ∧ Dp X.K H y q ∧ SeqAt.shaped p = true ∧ SeqAt.shaped q = true ∧ PyData.eqv p q = b := by
  unfold D.eqv at h
  cases q1 : d.py with
  | none => rw [q1] at h; cases h
  | some p =>
    cases q2 : e.py with
    | none => rw [q1, q2] at h; cases h
    | some q =>
      rw [q1, q2] at h
      dsimp only at h
      split at h
      · rename_i hs
        cases h
        rw [Bool.and_eq_true] at hs
        exact ⟨p, q, (hx.mono s.bh).dp q1, (hy.mono s.bh).dp q2, hs.1, hs.2, rfl⟩
      · cases h
theorem od_eq (hu : X.A.units + 64 < cLine) : OpD X S (compareOp .Eq) dEq := ⟨_, op_eqD hu, fun B H x y d e z Q s hx hy hc w => by
  unfold dEq at hc
  cases q : d.eqv e with
  | none => rw [q] at hc; cases hc
  | some b =>
    rw [q] at hc
    cases hc
    obtain ⟨p, p', h1, h2, h3, h4, h5⟩ := eqv_at s hx hy q
    exact ⟨p, p', h1, h2, h3, h4, by rw [h5]; exact w.now s (.bl b)⟩⟩
theorem od_ne (hu : X.A.units + 64 < cLine) : OpD X S (compareOp .NotEq) dNe := ⟨_, op_neD hu, fun B H x y d e z Q s hx hy hc w => by
  unfold dNe at hc
  cases q : d.eqv e with
  | none => rw [q] at hc; cases hc
  | some b =>
    rw [q] at hc
    cases hc
    obtain ⟨p, p', h1, h2, h3, h4, h5⟩ := eqv_at s hx hy q
    exact ⟨p, p', h1, h2, h3, h4, by rw [h5]; exact w.now s (.bl _)⟩⟩
def dAddS : D → D → Option D
  | .str a, .str b => if a.length + b.length ≤ sizeLine then some (.str (a ++ b)) else none
  | _, _ => none
theorem od_addS : OpD X S (binaryOp .Add) dAddS := ⟨_, op_add_str, fun B H x y d e z Q s hx hy hc w => by
  revert hc
  cases hx <;> cases hy <;> intro hc <;> first
    | (rename_i a b
       have hc : (if a.length + b.length ≤ sizeLine then some (D.str (a ++ b)) else none) = some z := hc
       split at hc
       · rename_i hb
         cases hc; exact ⟨_, _, rfl, rfl, hb, Wish.now s w (.str _)⟩
       · cases hc)
    | cases hc⟩
/-! ### x op= e -/
/-! ### new lists by operators -/
structure OpN (X : Cx) (S : Se) (op : Value → Value → Sem Value) (c : D → D → Option (List D)) : Prop where
  ex : ∃ r, OpR X op r ∧ ∀ B H x y d e zs Q, Sit X.K S B H → Dq X.K B x d → Dq X.K B y e → c d e = some zs → (∀ p vs, H p = none → DqAll X.K B vs zs → Q (.ref p) (upd H p (.lst vs))) → r x y H Q
def fN2 (f g : List Sl → Rs D) (c : D → D → Option (List D)) (env : List Sl) : Rs Ow :=
  (f env).bind fun d e => (g e).bind fun d2 e2 => .opt ((c d d2).map .l) e2
theorem pn_op {a b : Expr} {op : Operator} {pos : Pos} {f g : List Sl → Rs D} {c : D → D → Option (List D)} (o : OpN X S (binaryOp op) c) (ha : PV X S M a f) (hb : PV X S M b g) :
    PN X S M (.BinOp a op b pos) (fN2 f g c) := by
  obtain ⟨r, h1, h2⟩ := o.ex
  refine ⟨peI (pe_op h1 ha.pe hb.pe) ?_⟩
  rintro σ H Q ⟨B, env, R, P⟩
  refine ⟨B, env, R, (Post.bind P).mono fun d e B1 H1 R1 X1 P1 x hx => ⟨B1, e, R1, (Post.bind P1).mono fun d2 e2 B2 H2 R2 X2 P2 y hy => ?_⟩⟩
  cases q : c d d2 with
  | none => rw [q] at P2; exact P2.elim
  | some zs =>
    rw [q] at P2
    refine h2 B2 H2 x y d d2 zs Q R2.sit (hx.mono X2.same) hy q fun p vs hp hd => ?_
    obtain ⟨R3, X3, F⟩ := Fresh.new (o := .lst vs) R2 hp
    exact P2 _ _ R3 X3 p _ (X1.live p (X2.live p hp)) F hd
def dCat : D → D → Option (List D)
  | .lst xs, .lst ys => if xs.length + ys.length ≤ sizeLine then some (xs ++ ys) else none
  | _, _ => none
theorem on_cat : OpN X S (binaryOp .Add) dCat := ⟨_, op_cat, fun B H x y d e zs Q s hx hy hc w => by
  revert hc
  cases hx <;> cases hy <;> intro hc <;> first | cases hc | skip
  rename_i vs xs h1 h2 _ us ys h3 h4
  have hc : (if xs.length + ys.length ≤ sizeLine then some (xs ++ ys) else none) = some zs := hc
  split at hc
  · rename_i hl
    cases hc
    exact ⟨_, _, vs, us, rfl, rfl, s.bh _ _ h1, s.bh _ _ h3, by rw [h2.length, h4.length]; exact hl, fun p hp => w p _ hp (h2.append h4)⟩
  · cases hc⟩
/-! ### calls of what is built in -/
structure CalD (X : Cx) (S : Se) (v : Value) (c : List D → Option D) : Prop where
  ex : ∃ r, CallR X v r ∧ ∀ B H vs ds z Q, Sit X.K S B H → DqAll X.K B vs ds → c ds = some z → Wish X.K S B H z Q → r vs H Q
def fCB (g : List Sl → Rs (List D)) (c : List D → Option D) (env : List Sl) : Rs D := (g env).bind fun ds e => Rs.opt (c ds) e
theorem sem_cb {r : List V → Hp → VK → Prop} {g : List Sl → Rs (List D)} {c : List D → Option D}
    (h : ∀ B H vs ds z Q, Sit X.K S B H → DqAll X.K B vs ds → c ds = some z → Wish X.K S B H z Q → r vs H Q) : ∀ σ H Q, semE X.K S M (fCB g c) σ H Q → tCB r (semA X.K S M g) σ H Q := by
  rintro σ H Q ⟨B, env, R, P⟩
  refine ⟨B, env, R, (Post.bind P).mono fun ds e B1 H1 R1 X1 P1 vs hvs => ?_⟩
  cases q : c ds with
  | none => rw [q] at P1; exact P1.elim
  | some z =>
    rw [q] at P1
    exact h B1 H1 vs ds z Q R1.sit hvs q (Post.wish R1 P1)
theorem pv_callB {x : Str} {p pos : Pos} {e : Expr} {es : List Expr} {id : String} {g : List Sl → Rs (List D)} {c : List D → Option D} (hc : CalD X S (.builtin id) c) (hg : Gl X x) (hm : X.mg x = none) (hv : bootBuiltins x = some (.builtin id)) (ha : PAs X S M (e :: es) g)
    (h1 : x ≠ "__name__" := by decide) (h2 : (x == Str.ofString "__debug__") = false := by rfl) (h3 : starEach (e :: es) X.env = (false, eval e X.env) :: starEach es X.env := by rfl)
    (h4 : ((backTo pos (starEach es X.env)).any fun x => x.1) = false := by rfl) : PV X S M (.Call (.Name x p) (e :: es) [] pos) (fCB g c) := by
  obtain ⟨r, c1, c2⟩ := hc.ex
  exact ⟨peI (pe_callB c1 hg hm hv ha.pa h1 h2 h3 h4) (sem_cb c2)⟩
theorem pv_callTy {x : Str} {p pos : Pos} {e : Expr} {es : List Expr} {T : String} {g : List Sl → Rs (List D)} {c : List D → Option D} (hc : CalD X S (.type T) c) (hg : Gl X x) (hm : X.mg x = none) (hv : bootBuiltins x = some (.type T)) (ha : PAs X S M (e :: es) g)
    (h1 : x ≠ "__name__" := by decide) (h2 : (x == Str.ofString "__debug__") = false := by rfl) (h3 : starEach (e :: es) X.env = (false, eval e X.env) :: starEach es X.env := by rfl)
    (h4 : ((backTo pos (starEach es X.env)).any fun x => x.1) = false := by rfl) : PV X S M (.Call (.Name x p) (e :: es) [] pos) (fCB g c) := by
  obtain ⟨r, c1, c2⟩ := hc.ex
  exact ⟨peI (pe_callTy c1 hg hm hv ha.pa h1 h2 h3 h4) (sem_cb c2)⟩
def cLen : List D → Option D
  | [.lst xs] => some (.int xs.length)
  | [.tup xs] => some (.int xs.length)
  | [.scr xs] => some (.int xs.length)
  | _ => none
theorem dqall_one {K : PySem.W.Frag} {B : Hp} {vs : List V} {d : D} (h : DqAll K B vs [d]) : ∃ v, vs = [v] ∧ Dq K B v d := by
  obtain ⟨⟩ := h
  rename_i v vs a1 a2
  cases a2
  exact ⟨v, rfl, a1⟩
theorem dqall_two {K : PySem.W.Frag} {B : Hp} {vs : List V} {d d2 : D} (h : DqAll K B vs [d, d2]) : ∃ v v2, vs = [v, v2] ∧ Dq K B v d ∧ Dq K B v2 d2 := by
  obtain ⟨⟩ := h
  rename_i v vs a1 a2
  obtain ⟨v2, rfl, a3⟩ := dqall_one a2
  exact ⟨v, v2, rfl, a1, a3⟩
theorem cd_len : CalD X S (.builtin "len") cLen := ⟨_, call_len_seq, fun B H vs ds z Q s hd hc w => by
  unfold cLen at hc
  split at hc <;> first | cases hc | skip
  · obtain ⟨v, rfl, hv⟩ := dqall_one hd
    cases hv with
    | lst h1 h2 => exact ⟨_, _, rfl, .inl (SqL.of (s.bh _ _ h1)), by rw [h2.length]; exact w.now s (.int _)⟩
  · obtain ⟨v, rfl, hv⟩ := dqall_one hd
    cases hv with
    | tup h1 h2 => exact ⟨_, _, rfl, .inr (same_tup s.bh h1), by rw [h2.length]; exact w.now s (.int _)⟩
  · obtain ⟨v, rfl, hv⟩ := dqall_one hd
    cases hv with
    | scr h1 => exact ⟨_, _, rfl, .inl (same_seqL s.bh h1), by rw [List.length_map]; exact w.now s (.int _)⟩⟩
def cAbs : List D → Option D
  | [.int i] => some (.int (if i < 0 then -i else i))
  | _ => none
theorem cd_abs : CalD X S (.builtin "abs") cAbs := ⟨_, call_abs, fun B H vs ds z Q s hd hc w => by
  unfold cAbs at hc
  split at hc <;> first | cases hc | skip
  obtain ⟨v, rfl, hv⟩ := dqall_one hd
  cases hv
  exact ⟨_, rfl, w.now s (.int _)⟩⟩
def cTuple : List D → Option D
  | [.lst xs] => some (.tup xs)
  | [.tup xs] => some (.tup xs)
  | _ => none
def cMax2 : List D → Option D
  | [.int i, .int j] => some (.int (if j > i then j else i))
  | _ => none
theorem cd_max2 (hc : X.calm = true) : CalD X S (.builtin "max") cMax2 := ⟨_, call_max2 hc, fun B H vs ds z Q s hd hc w => by
  unfold cMax2 at hc
  split at hc <;> first | cases hc | skip
  obtain ⟨v, v2, rfl, hv, hv2⟩ := dqall_two hd
  cases hv
  cases hv2
  exact ⟨_, _, rfl, w.now s (.int _)⟩⟩
/-- list(xs) -/
def fNewL (g : List Sl → Rs (List D)) (env : List Sl) : Rs Ow := (g env).bind fun ds e => match ds with
  | [.lst xs] => .ok (.l xs) e
  | [.tup xs] => .ok (.l xs) e
  | _ => .bad
theorem pn_list {x : Str} {p pos : Pos} {e : Expr} {g : List Sl → Rs (List D)} (hg : Gl X x) (hm : X.mg x = none) (hv : bootBuiltins x = some (.type "list")) (ha : PAs X S M [e] g)
    (h1 : x ≠ "__name__" := by decide) (h2 : (x == Str.ofString "__debug__") = false := by rfl) (h3 : starEach [e] X.env = (false, eval e X.env) :: starEach [] X.env := by rfl)
    (h4 : ((backTo pos (starEach [] X.env)).any fun x => x.1) = false := by rfl) : PN X S M (.Call (.Name x p) [e] [] pos) (fNewL g) := ⟨peI (pe_callTy call_list_of hg hm hv ha.pa h1 h2 h3 h4) (by
  rintro σ H Q ⟨B, env, R, P⟩
  refine ⟨B, env, R, (Post.bind P).mono fun ds e B1 H1 R1 X1 P1 vs hvs => ?_⟩
  split at P1
  · obtain ⟨v, rfl, hv⟩ := dqall_one hvs
    cases hv with
    | lst h1 h2 =>
      refine ⟨_, _, rfl, .inl (SqL.of (R1.bh _ _ h1)), fun l hl => ?_⟩
      obtain ⟨R3, X3, F⟩ := Fresh.new (o := .lst _) R1 hl
      exact P1 _ _ R3 X3 l _ (X1.live l hl) F h2
  · obtain ⟨v, rfl, hv⟩ := dqall_one hvs
    cases hv with
    | tup h1 h2 =>
      refine ⟨_, _, rfl, .inr (same_tup R1.bh h1), fun l hl => ?_⟩
      obtain ⟨R3, X3, F⟩ := Fresh.new (o := .lst _) R1 hl
      exact P1 _ _ R3 X3 l _ (X1.live l hl) F h2
  · exact P1.elim)⟩
end
end Pf
namespace Pf
open PySem PySem.Spec PyProof.Rows L2 GxR GenW Gx
section
variable {X : Cx} {S : Se} {M : Xw}
/-! ### isinstance -/
def tyNs : List String := ["NoneType", "bool", "int", "str", "list", "tuple"]
def isBT (a b : String) : Bool := a == b || (a == "bool" && b == "int")
theorem kitB_all : (tyNs.all fun a => tyNs.all fun b => kitB a b == some (isBT a b)) = true := by decide +kernel
theorem kitB_at {a b : String} (ha : a ∈ tyNs) (hb : b ∈ tyNs) : kitB a b = some (isBT a b) := by
  have := List.all_eq_true.mp (List.all_eq_true.mp kitB_all a ha) b hb
  exact eq_of_beq this
def D.ty : D → Option String
  | .non => some "NoneType"
  | .bl _ => some "bool"
  | .int _ => some "int"
  | .str _ => some "str"
  | .lst _ => some "list"
  | .tup _ => some "tuple"
  | .scr _ => some "list"
  | .rng _ _ => none
  | .st _ => none
theorem ty_in {d : D} {a : String} (h : d.ty = some a) : a ∈ tyNs := by
  cases d <;> cases h <;> simp [tyNs]
theorem sqL_ty {K : PySem.W.Frag} {H : Hp} {a : Addr} {xs : List V} (h : SqL K H a xs) : TyX K H (.ref a) (.type "list") := by
  rcases h with (h | ⟨o, h⟩) | ⟨o, its, n, h1, h2, _⟩
  · exact .base (.lst h)
  · exact .base (.frz h)
  · exact .kList h1 h2
theorem sqT_ty {K : PySem.W.Frag} {H : Hp} {a : Addr} {xs : List V} (h : SqT K H a xs) : TyX K H (.ref a) (.type "tuple") := by
  rcases h with (h | ⟨o, h⟩) | ⟨o, its, n, h1, h2, _⟩
  · exact .base (.tup h)
  · exact .fTuple h
  · exact .kTuple h1 h2
theorem dq_ty {K : PySem.W.Frag} {B H : Hp} {v : V} {d : D} {a : String} (bh : Same B H) (hd : Dq K B v d) (h : d.ty = some a) : TyX K H v (.type a) := by
  cases hd <;> cases h
  · exact .base .non
  · exact .base (.bl _)
  · exact .base (.int _)
  · exact .base (.str _)
  · rename_i h1 h2
    exact .base (.lst (bh _ _ h1))
  · rename_i h1 h2
    exact sqT_ty (same_tup bh h1)
  · rename_i h1
    exact sqL_ty (same_seqL bh h1)
def fIsi (f : List Sl → Rs D) (ts : List String) (env : List Sl) : Rs D := (f env).bind fun d e => Rs.opt (d.ty.map fun a => .bl (ts.any (isBT a))) e
theorem pv_isi {ip p q : Pos} {a : Expr} {x : Str} {T : String} {f : List Sl → Rs D} (hg0 : Gl X "isinstance") (hm0 : X.mg "isinstance" = none) (ha : PV X S M a f)
    (hg : Gl X x) (hm : X.mg x = none) (hv : bootBuiltins x = some (.type T)) (hT : T ∈ tyNs)
    (h1 : x ≠ "__name__" := by decide) (h2 : (x == Str.ofString "__debug__") = false := by rfl)
    (h3 : starEach [a, .Name x p] X.env = (false, eval a X.env) :: starEach [.Name x p] X.env := by rfl)
    (h4 : starEach [.Name x p] X.env = (false, eval (.Name x p) X.env) :: starEach [] X.env := by rfl)
    (h5 : ((backTo q (starEach [.Name x p] X.env)).any fun x => x.1) = false := by rfl) :
    PV X S M (.Call (.Name "isinstance" ip) [a, .Name x p] [] q) (fIsi f [T]) :=
  ⟨peI (pe_callB call_isi hg0 hm0 (by decide +kernel) (pa_cons ha.pe (pa_cons (pe_bltn (v := .ty T) hg hm hv rfl h1 h2) pa_nil h4) h3) (by decide) rfl h3 h5) (by
  rintro σ H Q ⟨B, env, R, P⟩
  refine ⟨B, env, R, (Post.bind P).mono fun d e B1 H1 R1 X1 P1 v hv => ?_⟩
  cases q : d.ty with
  | none => rw [q] at P1; exact P1.elim
  | some a =>
    rw [q] at P1
    exact ⟨v, .ty T, .type a, .type T, isBT a T, rfl, .ty T, dq_ty R1.bh hv q, kit_ty (kitB_at (ty_in q) hT), P1.ok R1 _ (by simp; exact .bl _)⟩)⟩
/-! ### generators within calls -/
def bls : List D → Option (List Bool)
  | [] => some []
  | .bl b :: ds => (bls ds).map (b :: ·)
  | _ :: _ => none
theorem bls_svs : ∀ {zs : List D} {bs : List Bool}, bls zs = some bs → svs zs = some (bs.map V.bl)
  | [], _, h => by cases h; rfl
  | .bl b :: ds, bs, h => by
    have h : (bls ds).map (b :: ·) = some bs := h
    cases q : bls ds with
    | none => rw [q] at h; cases h
    | some cs =>
      rw [q] at h
      cases h
      rw [svs, bls_svs q]
      rfl
  | .non :: _, _, h => by cases h
  | .int _ :: _, _, h => by cases h
  | .str _ :: _, _, h => by cases h
  | .lst _ :: _, _, h => by cases h
  | .tup _ :: _, _, h => by cases h
  | .scr _ :: _, _, h => by cases h
  | .rng _ _ :: _, _, h => by cases h
  | .st _ :: _, _, h => by cases h
def resAll (zs : List D) : Option D := (bls zs).map fun bs => .bl (bs.all id)
theorem rd_all : ResD resAll Gx.rAll := fun zs z h => by
  unfold resAll at h
  cases q : bls zs with
  | none => rw [q] at h; cases h
  | some bs =>
    rw [q] at h
    cases h
    refine ⟨_, _, bls_svs q, rfl, fun Q H hQ => ⟨fun y hy => ?_, ?_⟩⟩
    · obtain ⟨b, _, rfl⟩ := List.mem_map.mp hy
      exact ⟨b, rfl⟩
    · rw [show ((bs.map V.bl).all fun y => decide (y = .bl true)) = bs.all id from by
        rw [List.all_map]
        congr 1
        funext b
        cases b <;> simp]
      exact hQ
end
end Pf
namespace Pf
open PySem PySem.Spec PyProof.Rows L2 GxR GenW Gx
section
variable {X : Cx} {S : Se} {M : Xw}
/-- what is asked of the inside of a generator expression -/
structure GenIn (X : Cx) (S : Se) (M : Xw) (k : Nat) (elt tg : Expr) (ifs : List Expr) (scope : Scope) (g : D → List Sl → Option (List Sl)) (t : List Sl → Rs Bool) (el : List Sl → Rs D) (L : List Nat) : Prop where
  hg : ∀ (A : Around) (s : Shared) (H : Hp) (C : Addr) (code : Value) (fp : List Addr) (pn : List (Addr × Obj)), Room k (A.deeper (genv X scope C code)) → PTg (gctx X A s H (genv X scope C code) fp pn) S tg g L
  ht : ∀ (A : Around) (s : Shared) (H : Hp) (C : Addr) (code : Value) (fp : List Addr) (pn : List (Addr × Obj)), Room k (A.deeper (genv X scope C code)) → PIf (gctx X A s H (genv X scope C code) fp pn) S M.calm ifs t
  he : ∀ (A : Around) (s : Shared) (H : Hp) (C : Addr) (code : Value) (fp : List Addr) (pn : List (Addr × Obj)), Room k (A.deeper (genv X scope C code)) → PV (gctx X A s H (genv X scope C code) fp pn) S M.calm elt el
section
variable {c P0 : Addr} {k : Nat} {elt tg iter : Expr} {ifs : List Expr} {scope : Scope} {own : List (Str × Nat)} {p pos gpos : Pos} {f : List Sl → Rs (List D)} {g : D → List Sl → Option (List Sl)} {t : List Sl → Rs Bool} {el : List Sl → Rs D} {L : List Nat}
theorem pv_all (hr : Room (k + 1) X.A) (hN : X.N.Nodup) (gl : Gl X "all") (hm : X.mg "all" = none) (TB : TabB X.base X.mg c P0) (hcode : X.env.code = .ref c) (hP : P0 ∈ S.T) (nm : Nm X.N X.env.scope scope own)
    (hi : PIt X S M tg iter f) (G : GenIn X S M k elt tg ifs scope g t el L) (hL : ∀ i ∈ L, i ∈ own.map (·.2))
    (h1 : ∀ v, genFold iter X.env v = pure v := by exact fun _ => rfl) (h2 : starEach [.GeneratorExp elt [⟨tg, iter, ifs, 0⟩] scope gpos] X.env = (false, eval (.GeneratorExp elt [⟨tg, iter, ifs, 0⟩] scope gpos) X.env) :: starEach [] X.env := by rfl) :
    PV X S M (.Call (.Name "all" p) [.GeneratorExp elt [⟨tg, iter, ifs, 0⟩] scope gpos] [] pos) (fGx f g t el (own.map (·.2)) resAll) :=
  ⟨peI (pe_all hr hN gl hm TB hcode nm hi.pi (fun A s H C code fp pn r => (G.hg A s H C code fp pn r).pg) (fun A s H C code fp pn r => (G.ht A s H C code fp pn r).pts) (fun A s H C code fp pn r => (G.he A s H C code fp pn r).pe) h1 h2) (sem_gx hP hL rd_all)⟩
end
/-! ### globals, raise -/
theorem pv_gint {x : Str} {i : Int} {t : Tok} {pos : Pos} (hg : Gl X x) (hm : X.mg x = some (.int i t)) (hd : (x == Str.ofString "__debug__") = false := by rfl) : PV X S M (.Name x pos) (fun env => .ok (.int i) env) :=
  pv_const (pe_glob (v := .int i) hg hm ⟨t, rfl⟩ hd) fun _ => .int i
/-! ### own lists, looked at -/
def ownLen (i : Nat) (env : List Sl) : Rs D :=
  match env[i]? with
  | some (.im (.lst xs)) => .ok (.int xs.length) env
  | some (.im (.tup xs)) => .ok (.int xs.length) env
  | some (.im (.scr xs)) => .ok (.int xs.length) env
  | some (.ow (.l xs)) => .ok (.int xs.length) env
  | _ => .bad
theorem own_seq {B H : Hp} {env : List Sl} {σ : L2.St} {i : Nat} (R : Rel X.K S B env σ H) {n : Nat} {e2 : List Sl} (h : ownLen i env = .ok (.int n) e2) :
    e2 = env ∧ ∃ p vs, σ[i]? = some (some (.ref p)) ∧ (SqL X.K H p vs ∨ SqT X.K H p vs) ∧ vs.length = n := by
  unfold ownLen at h
  split at h
  · rename_i xs hx
    cases h
    obtain ⟨v, e1, e2⟩ := R.sl i _ hx
    cases e2 with
    | lst h1 h2 => exact ⟨rfl, _, _, e1, .inl (SqL.of (R.bh _ _ h1)), h2.length⟩
  · rename_i xs hx
    cases h
    obtain ⟨v, e1, e2⟩ := R.sl i _ hx
    cases e2 with
    | tup h1 h2 => exact ⟨rfl, _, _, e1, .inr (same_tup R.bh h1), h2.length⟩
  · rename_i xs hx
    cases h
    obtain ⟨v, e1, e2⟩ := R.sl i _ hx
    cases e2 with
    | scr h1 => exact ⟨rfl, _, _, e1, .inl (same_seqL R.bh h1), by simp⟩
  · rename_i xs hx
    cases h
    obtain ⟨p, vs, e1, e2, e3⟩ := ow_v R hx
    exact ⟨rfl, p, vs, e1, .inl (SqL.of e2), e3.length⟩
  · cases h
theorem ownLen_int {i : Nat} {env : List Sl} : (∃ n : Nat, ownLen i env = .ok (.int n) env) ∨ ownLen i env = .bad := by
  unfold ownLen
  split <;> first | exact .inl ⟨_, rfl⟩ | exact .inr rfl
theorem pv_lenN {x : Str} {i : Nat} {p pos p1 : Pos} (hN : X.N[i]? = some x) (hv : Vis X.env.scope x) (hg : Gl X "len") (hm : X.mg "len" = none)
    (hd1 : (x == Str.ofString "__debug__") = false := by rfl) (hd2 : (x == Str.ofString "__classdict__") = false := by rfl)
    (h3 : starEach [.Name x p1] X.env = (false, eval (.Name x p1) X.env) :: starEach [] X.env := by rfl) (h4 : ((backTo pos (starEach [] X.env)).any fun x => x.1) = false := by rfl) :
    PV X S M (.Call (.Name "len" p) [.Name x p1] [] pos) (ownLen i) := ⟨peI (pe_callB call_len_seq hg hm PySem.boot_len (pa_cons (pe_var hN hv hd1 hd2) pa_nil h3) (by decide) rfl h3 h4) (by
  rintro σ H Q ⟨B, env, R, P⟩
  rcases ownLen_int (i := i) (env := env) with ⟨n, h⟩ | h
  · rw [h] at P
    obtain ⟨_, q, vs, e1, e2, e3⟩ := own_seq R h
    exact ⟨_, e1, q, vs, rfl, e2, by rw [e3]; exact P.ok R _ (.int _)⟩
  · rw [h] at P
    exact P.elim)⟩
def ownTru (i : Nat) (env : List Sl) : Rs Bool := (ownLen i env).bind fun d e => match d with | .int n => .ok (n != 0) e | _ => .bad
/-! ### math.comb -/
/-! ### int(), minus -/
def cInt : List D → Option D
  | [.int i] => some (.int i)
  | [.bl b] => some (.int (if b = true then 1 else 0))
  | _ => none
theorem cd_int : CalD X S (.type "int") cInt := ⟨_, call_int1, fun B H vs ds z Q s hd hc w => by
  unfold cInt at hc
  split at hc <;> first | cases hc | skip
  · obtain ⟨v, rfl, hv⟩ := dqall_one hd
    cases hv
    exact .inl ⟨_, rfl, w.now s (.int _)⟩
  · obtain ⟨v, rfl, hv⟩ := dqall_one hd
    cases hv
    exact .inr ⟨_, rfl, w.now s (.int _)⟩⟩
def fNeg (f : List Sl → Rs D) (env : List Sl) : Rs D := (f env).bind fun d e => match d with | .int i => .ok (.int (-i)) e | _ => .bad
/-! ### in, tuples put together -/
def D.flat : D → Bool
  | .non => true
  | .bl _ => true
  | .int _ => true
  | .str _ => true
  | _ => false
/-- equal, of flat data -/
def eqF : D → D → Bool
  | .non, .non => true
  | .bl a, .bl b => a == b
  | .bl a, .int b => (if a = true then 1 else 0) == b
  | .int a, .bl b => a == if b = true then 1 else 0
  | .int a, .int b => a == b
  | .str a, .str b => a == b
  | _, _ => false
theorem dq_flat {K : PySem.W.Frag} {B : Hp} {v : V} {d : D} (h : Dq K B v d) : flatV v = d.flat := by
  cases h <;> rfl
theorem dq_eqF {K : PySem.W.Frag} {B : Hp} {v u : V} {d e : D} (h : Dq K B v d) (h' : Dq K B u e) (f : d.flat = true) (f' : e.flat = true) : eqV v u = eqF d e := by
  cases h <;> first | cases f | skip
  all_goals (cases h' <;> first | rfl | cases f')
theorem all_flat {K : PySem.W.Frag} {B : Hp} : ∀ {vs : List V} {ds : List D}, DqAll K B vs ds → vs.all flatV = ds.all D.flat
  | _, _, .nil => rfl
  | _, _, .cons a r => by rw [List.all_cons, List.all_cons, dq_flat a, all_flat r]
theorem any_eqF {K : PySem.W.Frag} {B : Hp} {x : V} {d : D} (hx : Dq K B x d) (f : d.flat = true) : ∀ {vs : List V} {ds : List D}, DqAll K B vs ds → ds.all D.flat = true → inV x vs = ds.any fun e => eqF e d
  | _, _, .nil, _ => rfl
  | _, _, .cons a r, h => by
    simp only [Bool.and_eq_true, List.all_cons] at h
    have := any_eqF hx f r h.2
    unfold inV at this ⊢
    rw [List.any_cons, List.any_cons, dq_eqF a hx h.1 f, this]
def dIn (neg : Bool) (d e : D) : Option D :=
  match e.items with
  | some xs => if d.flat && xs.all D.flat then some (.bl (if neg = true then !(xs.any fun e => eqF e d) else xs.any fun e => eqF e d)) else none
  | none => none
theorem in_at {B H : Hp} {neg : Bool} {x y : V} {d e z : D} {Q : VK} (s : Sit X.K S B H) (hx : Dq X.K B x d) (hy : Dq X.K B y e) (hc : dIn neg d e = some z) (w : Wish X.K S B H z Q) : rIn X.K neg x y H Q := by
  unfold dIn at hc
  cases q : e.items with
  | none => rw [q] at hc; cases hc
  | some xs =>
    rw [q] at hc
    dsimp only at hc
    split at hc
    · rename_i hf
      cases hc
      rw [Bool.and_eq_true] at hf
      have fin : ∀ {p : Addr} {vs : List V}, (SqL X.K H p vs ∨ SqT X.K H p vs) → DqAll X.K B vs xs → rIn X.K neg x (.ref p) H Q := fun sq hd =>
        ⟨_, _, rfl, sq, by rw [dq_flat hx]; exact hf.1, by rw [all_flat hd]; exact hf.2, by rw [any_eqF hx hf.1 hd hf.2]; exact w.now s (.bl _)⟩
      cases hy <;> first | cases q | skip
      · rename_i h1 h2
        exact fin (.inl (SqL.of (s.bh _ _ h1))) h2
      · rename_i h1 h2
        exact fin (.inr (same_tup s.bh h1)) h2
      · rename_i ns h1
        exact fin (.inl (same_seqL s.bh h1)) (DqAll.ints ns)
    · cases hc
theorem od_in : OpD X S (compareOp .In) (dIn false) := ⟨_, op_in_seq, fun B H x y d e z Q s hx hy hc w => in_at s hx hy hc w⟩
end
end Pf
-- tactics: a name, a place
namespace Pf
open PySem PySem.Spec PyProof.Rows L2 GxR GenW Gx
/-- the def st stands at f, its code at c -/
structure FunC (K : PySem.W.Frag) (x qual : Str) (st : Stmt) (f : Addr) (fd : FuncData) (c : Addr) : Prop where
  ex : ∃ (oc : Value) (od : Option Addr) (kV doc pm : Value) (an : Option Addr) (ct : Value) (osl : Array (Option Value)),
    fd = PySem.W.fnOf x qual (defArgs st) (defBody st) (defScope st) .none kV doc pm an (.ref c) ct ∧ K.lookup f = some ⟨oc, od, .func fd, osl⟩ ∧ PySem.W.codeIn K (.ref c) qual = true
  kp : (PySem.W.keepIn K (.ref f)) = true
theorem FunC.f {K : PySem.W.Frag} {x qual : Str} {st : Stmt} {f : Addr} {fd : FuncData} {c : Addr} (F : FunC K x qual st f fd c) : Fun K x qual st f fd := by
  obtain ⟨oc, od, kV, doc, pm, an, ct, osl, h1, h2, h3⟩ := F.ex
  subst h1
  exact fun_mk h2 h3 F.kp
theorem fn_pureC {P : Program} {w : World} {K : PySem.W.Frag} {mg : Str → Option Value} {base : Heap} {x qual : Str} {st : Stmt} {f c : Addr} {fd : FuncData} {N ps : List Str} {k : Nat}
    {T : List Addr} {xc : Str → Option Value} {F : List D → Rf} {b : List Sl → Ro}
    (Fu : FunC K x qual st f fd c) (Sc : FnScope N ps (defScope st)) (hF : ∀ ds, ds.length = ps.length → F ds = (b (env0 N.length ds)).fn)
    (h : ∀ (A : Around) (outer : List Env) (s : Shared) (H B : Hp) (E : XK),
      Room k (A.deeper (envOfC qual (defScope st) s.heap.objs.size f (.ref c))) →
      PXs (cxOf (CX P w) P w K mg base N qual (defScope st) f (.ref c) A outer s H E) ⟨T, H, B⟩ ⟨E, xc⟩ (defBody st) b) :
    FnOk P w K mg base (CX P w) (k + 1) f fd ps (spP K T xc ps.length F) := by
  obtain ⟨oc, od, kV, doc, pm, an, ct, osl, h1, h2, h3⟩ := Fu.ex
  subst h1
  refine fn_of h2 h3 Sc (fun vs H Q E h => h.1) fun A outer s H vs Q E hr hsp => ?_
  obtain ⟨hl, B, ds, sit, hd, hk⟩ := hsp
  refine ⟨_, (h A outer s H B E hr).ps, B, env0 N.length ds, ?_, ?_⟩
  · refine rel0 (S := ⟨T, H, B⟩) sit hd ?_
    rw [hl, ← Sc.pre]
    exact List.length_take_le' _ _
  · rw [hF ds (by rw [← hd.length]; exact hl)] at hk
    have grow : ∀ {B' H' : Hp} {e : List Sl} {σ' : L2.St}, Rel K ⟨T, H, B⟩ B' e σ' H' → Grow K ⟨T, H, B⟩ B H B' H' := fun R => ⟨R.old, R.tab, R.b0, R.bh, R.nt, R.new⟩
    revert hk
    cases b (env0 N.length ds) with
    | nx e => exact fun hk B' H' σ' R sm => hk V.non B' H' (grow R) .non
    | rt d => exact fun hk B' H' v R sm dq => hk v B' H' (grow R) dq
    | ex x => exact fun hk => hk
    | bk e => exact fun hk => hk.elim
    | ct e => exact fun hk => hk.elim
    | bad => exact fun hk => hk.elim
section
variable {X : Cx} {S : Se} {M : Xw}
theorem hu64 {A : Around} {k : Nat} (hr : Room k A) : A.units + 64 < cLine := by
  have := hr.un
  omega
theorem pv_gi {x : Str} {i : Int} {pos : Pos} (hg : Gl X x) (hm : ∃ t, X.mg x = some (.int i t)) (hd : (x == Str.ofString "__debug__") = false := by rfl) : PV X S M (.Name x pos) (fun env => .ok (.int i) env) := by
  obtain ⟨t, hm⟩ := hm
  exact pv_gint hg hm hd
/-- slot i, a list of one's own, is a datum from here on -/
def frzE (i : Nat) (env : List Sl) : List Sl :=
  match env[i]? with
  | some (.ow (.l xs)) => env.set i (.im (.lst xs))
  | _ => env
/-! ### more operators -/
def dCatT : D → D → Option D
  | .tup xs, .tup ys => if xs.length + ys.length ≤ sizeLine then some (.tup (xs ++ ys)) else none
  | _, _ => none
theorem od_catT : OpD X S (binaryOp .Add) dCatT := ⟨_, or_catF, fun B H x y d e z Q s hx hy hc w => by
  revert hc
  cases hx <;> cases hy <;> intro hc <;> first | cases hc | skip
  rename_i vs xs h1 h2 _ us ys h3 h4
  have hc : (if xs.length + ys.length ≤ sizeLine then some (D.tup (xs ++ ys)) else none) = some z := hc
  split at hc
  · rename_i hl
    cases hc
    refine ⟨_, _, vs, us, rfl, rfl, same_tup s.bh h1, same_tup s.bh h3, by rw [h2.length, h4.length]; exact hl, fun e => ?_, fun _ e => ?_, fun _ _ p ob hp hd => ?_⟩
    · subst e
      cases h2
      exact w.now s (.tup h3 h4)
    · subst e
      cases h4
      rw [List.append_nil] at w
      exact w.now s (.tup h1 h2)
    · have gr := Grow.alloc (X := X) (o := HO.frz ob (.tup (vs ++ us))) s.tab s.bh s.nt hp (fun ps h => by cases h)
      exact w _ _ _ gr (.tup (SqU.new hd) ((h2.append h4).mono gr.same))
  · cases hc⟩
def dAddU (d e : D) : Option D := (dAdd d e).orElse fun _ => dAddS d e
theorem od_addU : OpD X S (binaryOp .Add) dAddU := OpD.or od_add od_addS
end
/-! ### names for what the rules make -/
def rSeq (f g : List Sl → Ro) (env : List Sl) : Ro := (f env).seq g
def rRet (f : List Sl → Rs D) (env : List Sl) : Ro := (f env).ro fun d _ => .rt d
def rRetN (env : List Sl) : Ro := .rt .non
def rExpr (f : List Sl → Rs D) (env : List Sl) : Ro := (f env).ro fun _ e => .nx e
def rIf (t : List Sl → Rs Bool) (f g : List Sl → Ro) (env : List Sl) : Ro := (t env).ro fun k e => if k = true then f e else g e
def rSet (i : Nat) (f : List Sl → Rs D) (env : List Sl) : Ro := (f env).ro fun d e => .nx (e.set i (.im d))
def rSetO (i : Nat) (f : List Sl → Rs Ow) (env : List Sl) : Ro := (f env).ro fun w e => .nx (e.set i (.ow w))
def rAsg (g : D → List Sl → Option (List Sl)) (f : List Sl → Rs D) (env : List Sl) : Ro := (f env).ro fun d e => match g d e with | some e' => .nx e' | none => .bad
def rFor (f : List Sl → Rs (List D)) (g : D → List Sl → Option (List Sl)) (b : List Sl → Ro) (env : List Sl) : Ro := (f env).ro fun ds e => forR g b ds e
def rRaise (x : Str) (_ : List Sl) : Ro := .ex ⟨x, []⟩
def vK (d : D) (env : List Sl) : Rs D := .ok d env
def vCall (n : Nat) (F : List D → Rf) (g : List Sl → Rs (List D)) (env : List Sl) : Rs D := (g env).bind fun ds e => if ds.length = n then (F ds).rs e else .bad
def aNil (env : List Sl) : Rs (List D) := .ok [] env
def tYes' (env : List Sl) : Rs Bool := .ok true env
def pNo (env : List Sl) : Rs (Option Int) := .ok none env
def wRng1 (g : List Sl → Rs (List D)) (env : List Sl) : Rs (List D) := (g env).bind fun ds e => Rs.opt (rng1 ds) e
def wRng2 (g : List Sl → Rs (List D)) (env : List Sl) : Rs (List D) := (g env).bind fun ds e => Rs.opt (rng2 ds) e
section
variable {X : Cx} {S : Se} {M : Xw}
theorem qs_cons {st : Stmt} {rest : List Stmt} {f g : List Sl → Ro} (h : PX X S M st f) (hs : PXs X S M rest g) : PXs X S M (st :: rest) (rSeq f g) := pxs_cons h hs
theorem q_ret {e : Expr} {pos : Pos} {f : List Sl → Rs D} (h : PV X S M e f) : PX X S M (.Return (some e) pos) (rRet f) := px_ret h
theorem q_expr {e : Expr} {pos : Pos} {f : List Sl → Rs D} (h : PV X S M e f) (hs : swapsWith e none pos.line X.env = pure false := by rfl) : PX X S M (.Expr e pos) (rExpr f) := px_expr h hs
theorem q_if {c : Expr} {a b : List Stmt} {pos : Pos} {t : List Sl → Rs Bool} {f g : List Sl → Ro} (hc : PB X S M c t) (ha : PXs X S M a f) (hb : PXs X S M b g) : PX X S M (.If c a b pos) (rIf t f g) := px_if hc ha hb
theorem q_set {x : Str} {i : Nat} {e : Expr} {pos pos' : Pos} {f : List Sl → Rs D} (hN : X.N.Nodup) (hi : X.N[i]? = some x) (h : PV X S M e f) (hx : L2.Loc X.env.scope x := by first | exact Or.inl rfl | exact Or.inr rfl)
    (hs : swapsWith e (some (.Name x pos')) pos.line X.env = pure false := by rfl) (hf : X.fn x = true ∨ X.env.scope.names.lookup x = some .local := by exact .inl rfl) : PX X S M (.Assign [.Name x pos'] e pos) (rSet i f) := px_set hN hi hx h hs hf
theorem q_setO {x : Str} {i : Nat} {e : Expr} {pos pos' : Pos} {f : List Sl → Rs Ow} (hN : X.N.Nodup) (hi : X.N[i]? = some x) (h : PN X S M e f) (hx : L2.Loc X.env.scope x := by first | exact Or.inl rfl | exact Or.inr rfl)
    (hs : swapsWith e (some (.Name x pos')) pos.line X.env = pure false := by rfl) (hf : X.fn x = true ∨ X.env.scope.names.lookup x = some .local := by exact .inl rfl) : PX X S M (.Assign [.Name x pos'] e pos) (rSetO i f) := px_setO hN hi hx h hs hf
theorem q_for {tg it : Expr} {body : List Stmt} {pos : Pos} {f : List Sl → Rs (List D)} {g : D → List Sl → Option (List Sl)} {b : List Sl → Ro} {L : List Nat}
    (hp : PassesOwn (model X.prog X.w) X.A X.env X.xe) (hc : X.calm = true) (hi : PIt X S M tg it f) (hg : PTg X S tg g L) (hb : PXs X S M body b)
    (hq : ∀ x, foldedSetIterable it X.env x = pure x := by exact fun _ => rfl) : PX X S M (.For tg it body [] pos) (rFor f g b) := px_for hp hc hi hg hb hq
theorem q_int {i : Int} {j : Nat} {pos : Pos} : PV X S M (.Constant (.int i) j pos) (vK (.int i)) := pv_int
theorem q_str {i : Str} {j : Nat} {pos : Pos} : PV X S M (.Constant (.str i) j pos) (vK (.str i)) := pv_str
theorem q_bl {i : Bool} {j : Nat} {pos : Pos} : PV X S M (.Constant (.bool i) j pos) (vK (.bl i)) := pv_bl
theorem q_gi {x : Str} {i : Int} {pos : Pos} (hg : Gl X x) (hm : ∃ t, X.mg x = some (.int i t)) (hd : (x == Str.ofString "__debug__") = false := by rfl) : PV X S M (.Name x pos) (vK (.int i)) := pv_gi hg hm hd
theorem q_call {k n : Nat} {f : Addr} {fd : FuncData} {ps : List Str} {F : List D → Rf} {x : Str} {p pos : Pos} {e : Expr} {es : List Expr} {g : List Sl → Rs (List D)}
    (G : FnOk X.prog X.w X.K X.mg X.base (CX X.prog X.w) k f fd ps (spP X.K S.T M.xc n F)) (hr : Room k X.A) (hg : Gl X x) (hm : X.mg x = some (.ref f)) (hk : PySem.W.keepIn X.K (.ref f) = true)
    (hb : L2.Binds X.K fd ps []) (hx : Passes (CX X.prog X.w) X M.E) (ha : PAs X S M (e :: es) g) (hl : (e :: es).length = n := by rfl)
    (h1 : (x == Str.ofString "__debug__") = false := by rfl) (h2 : starEach (e :: es) X.env = (false, eval e X.env) :: starEach es X.env := by rfl)
    (h3 : ((backTo pos (starEach es X.env)).any fun x => x.1) = false := by rfl) : PV X S M (.Call (.Name x p) (e :: es) [] pos) (vCall n F g) := pv_call G hr hg hm hk hb hx ha hl h1 h2 h3
theorem qa_nil : PAs X S M [] aNil := pas_nil
theorem qf_nil : PIf X S M [] tYes' := pif_nil
theorem qq_no : PQ X S M none pNo := pq_no
theorem qi_range1 {tg a : Expr} {p pos : Pos} {g : List Sl → Rs (List D)} (hg : Gl X "range") (hm : X.mg "range" = none) (ha : PAs X S M [a] g)
    (h1 : starEach [a] X.env = [(false, eval a X.env)] := by rfl) : PIt X S M tg (.Call (.Name "range" p) [a] [] pos) (wRng1 g) := pit_range1 hg hm ha h1
end
end Pf
/-! walks by enumerate (from any count) and by zip over lists and tuples alike -/
namespace Wk
open L2 PySem PySem.Spec PyProof.Rows
/-- k: a list; else a tuple -/
def sqK (k : Bool) (K : PySem.W.Frag) (H : Hp) (a : Addr) (xs : List V) : Prop := if k = true then SqL K H a xs else SqT K H a xs
/-! ### enumerate -/
/-! ### zip -/
/-- what lies apart -/
structure ApZ (z TI TO i1 i2 : Addr) : Prop where
  n : TI ≠ z ∧ TO ≠ z ∧ TI ≠ TO ∧ TI ≠ i1 ∧ TI ≠ i2 ∧ TO ≠ i1 ∧ TO ≠ i2 ∧ z ≠ i1 ∧ z ≠ i2 ∧ i1 ≠ i2
theorem ApZ.sep {z TI TO i1 i2 a b : Addr} (D : ApZ z TI TO i1 i2) (h1 : z ≠ a) (h2 : TO ≠ a) (h3 : z ≠ b) (h4 : TO ≠ b) (h5 : i1 ≠ b) (h6 : i2 ≠ a) : ZipSep2 z TI TO i1 i2 [i1, a] [i2, b] := by
  obtain ⟨n1, n2, n3, n4, n5, n6, n7, n8, n9, n10⟩ := D.n
  exact { TIz := n1, TOz := n2, TITO := n3, TIi1 := n4, mem1 := by simp, zf1 := by simp [n8, h1], Tf1 := by simp [n6, h2], TIi2 := n5, mem2 := by simp, zf2 := by simp [n9, h3], Tf2 := by simp [n7, h4],
          sep1_2 := by simp [n10, h5], sep2_1 := by simp [n10.symm, h6] }
end Wk
namespace Pf
open PySem PySem.Spec PyProof.Rows L2 GxR GenW Gx Wk
/-- a datum with items stands as a list or as a tuple -/
theorem dq_seq {K : PySem.W.Frag} {B : Hp} {v : V} {d : D} {ds : List D} (h : Dq K B v d) (e : d.items = some ds) : ∃ k a vs, v = .ref a ∧ sqK k K B a vs ∧ DqAll K B vs ds := by
  cases h <;> first | cases e | skip
  · rename_i h1 h2
    exact ⟨true, _, _, rfl, SqL.of h1, h2⟩
  · rename_i h1 h2
    exact ⟨false, _, _, rfl, h1.1, h2⟩
  · rename_i ns h1
    exact ⟨true, _, _, rfl, h1, DqAll.ints ns⟩
section
variable {X : Cx} {S : Se} {M : Xw}
def enum0 : List D → Option (List D)
  | [d] => d.items.map fun xs => xs.mapIdx fun i d => .tup [.int (0 + (i : Int)), d]
  | _ => none
def wEnumA (g : List Sl → Rs (List D)) (env : List Sl) : Rs (List D) := (g env).bind fun ds e => Rs.opt (enum0 ds) e
def zip2 : List D → Option (List D)
  | [d, e] => match d.items, e.items with
    | some xs, some ys => some (List.zipWith (fun d e => .tup [d, e]) xs ys)
    | _, _ => none
  | _ => none
def wZip (g : List Sl → Rs (List D)) (env : List Sl) : Rs (List D) := (g env).bind fun ds e => Rs.opt (zip2 ds) e
/-! ### max of a list or a tuple of integers -/
theorem CallR.or {v : Value} {r r' : List V → Hp → VK → Prop} (h : CallR X v r) (h' : CallR X v r') : CallR X v fun vs H Q => r vs H Q ∨ r' vs H Q :=
  fun pins s σ H vs us Q I rv q => q.elim (fun z => h pins s σ H vs us Q I rv z) fun z => h' pins s σ H vs us Q I rv z
/-! ### list(range(..)) -/
def rngL (a b : Int) : List D := (List.range (b - a).toNat).map fun (i : Nat) => .int (a + (i : Int))
def rgOkB (a b : Int) : Bool := decide (-(2 ^ 62) ≤ a ∧ a < 2 ^ 62 ∧ -(2 ^ 62) ≤ b ∧ b < 2 ^ 62 ∧ (b - a).toNat ≤ 2 ^ 24)
def fLrg1 (f : List Sl → Rs D) (env : List Sl) : Rs Ow := (f env).bind fun d e => match d with
  | .int b => if rgOkB 0 b = true then .ok (.l (rngL 0 b)) e else .bad
  | _ => .bad
end
end Pf
namespace Pf
open PySem PySem.Spec PyProof.Rows L2 GxR GenW Gx Wk
section
variable {X : Cx} {S : Se} {M : Xw}
/-! ### own[i] op= e -/
def augItem (i : Nat) (f g : List Sl → Rs D) (c : D → D → Option D) (env : List Sl) : Ro :=
  if pkN i env = true then (f env).ro fun k e => match e[i]?, k with
    | some (.ow (.l xs)), .int j => if 0 ≤ j then match xs[j.toNat]? with
        | some a => (g e).ro fun b e => match e[i]?, c a b with
          | some (.ow (.l ys)), some z => if j < ys.length then .nx (e.set i (.ow (.l (ys.set j.toNat z)))) else .bad
          | _, _ => .bad
        | none => .bad
      else .bad
    | _, _ => .bad
  else .bad
/-! ### own.pop(i) -/
/-! ### own.extend(t), t a tuple -/
theorem MtM.or {id : String} {r r' : V → List V → Hp → VK → Prop} (h : MtM X id r) (h' : MtM X id r') : MtM X id fun x vs H Q => r x vs H Q ∨ r' x vs H Q :=
  fun pins s σ H x vs v us Q I rx rv q => q.elim (fun z => h pins s σ H x vs v us Q I rx rv z) fun z => h' pins s σ H x vs v us Q I rx rv z
def fExt (i : Nat) (f : List Sl → Rs D) (env : List Sl) : Rs D :=
  match env[i]? with
  | some (.ow (.l _)) => (f env).bind fun d e => match e[i]?, d with
    | some (.ow (.l xs)), .lst ys => if xs.length + ys.length ≤ sizeLine then .ok .non (e.set i (.ow (.l (xs ++ ys)))) else .bad
    | some (.ow (.l xs)), .tup ys => if xs.length + ys.length ≤ sizeLine then .ok .non (e.set i (.ow (.l (xs ++ ys)))) else .bad
    | _, _ => .bad
  | _ => .bad
end
end Pf
namespace Pf
open PySem PySem.Spec PyProof.Rows L2 GxR GenW Gx Wk
section
variable {X : Cx} {S : Se} {M : Xw}
/-! ### comprehensions of two clauses -/
def turn2 (g : D → List Sl → Option (List Sl)) (t : List Sl → Rs Bool) (f1 : List Sl → Rs (List D)) (g1 : D → List Sl → Option (List Sl)) (t1 : List Sl → Rs Bool) (el : List Sl → Rs D) (vs1 : List Nat) (e0 : List Sl) (d : D) : Option (List D) :=
  match g d e0 with
  | none => none
  | some e1 => match t e1 with
    | .ok b e1' => if b = true then match f1 e1' with
        | .ok ds1 e2 => turnsD g1 t1 el (hideE vs1 e2) ds1
        | _ => none
      else some []
    | _ => none
def turns2 (g : D → List Sl → Option (List Sl)) (t : List Sl → Rs Bool) (f1 : List Sl → Rs (List D)) (g1 : D → List Sl → Option (List Sl)) (t1 : List Sl → Rs Bool) (el : List Sl → Rs D) (vs1 : List Nat) (e0 : List Sl) : List D → Option (List D)
  | [] => some []
  | d :: ds => match turn2 g t f1 g1 t1 el vs1 e0 d with
    | none => none
    | some xs => (turns2 g t f1 g1 t1 el vs1 e0 ds).map (xs ++ ·)
def fLc2 (f : List Sl → Rs (List D)) (g : D → List Sl → Option (List Sl)) (t : List Sl → Rs Bool) (f1 : List Sl → Rs (List D)) (g1 : D → List Sl → Option (List Sl)) (t1 : List Sl → Rs Bool) (el : List Sl → Rs D) (own vs1 : List Nat) (env : List Sl) : Rs Ow :=
  (f env).bind fun ds e => match turns2 g t f1 g1 t1 el vs1 (hideE own e) ds with
    | some xs => if xs.length ≤ sizeLine then .ok (.l xs) e else .bad
    | none => .bad
/-! ### own dicts -/
def D.key : D → Option Key
  | .int i => some (.inl i)
  | .str x => some (.inr x)
  | _ => none
end
end Pf
namespace Pf
open PySem PySem.Spec PyProof.Rows L2 GxR GenW Gx Wk
/-! ### from the head's facts to the promises -/
def fdG (K : PySem.W.Frag) (x : Str) (z : FuncData) : FuncData := match K.lookup (He.ga K x) with
  | some ⟨_, _, .func fd, _⟩ => fd
  | _ => z
abbrev dOf (x : Str) (st : Stmt) : He.DefD := ⟨(x, none), x, x, defArgs st, defBody st, defScope st, [], []⟩
theorem funC_of {K : PySem.W.Frag} {x : Str} {st : Stmt} {z : FuncData} (h : ∃ fd, FunD K x x (defArgs st) (defBody st) (defScope st) [] [] (He.ga K x) fd) :
    FunC K x x st (He.ga K x) (fdG K x z) (He.codeOf K (x, none)) := by
  obtain ⟨fd, F⟩ := h
  obtain ⟨oc, od, dV, kV, doc, pm, an, cdv, ct, osl, h1, h2, h3, h4, h5⟩ := F.ex
  have hd : dV = .none := by
    rcases h4 with ⟨_, q⟩ | ⟨q, _⟩
    · exact q
    · exact absurd rfl q
  obtain ⟨c, rfl⟩ := He.codeIn_ref h3
  have e1 : fdG K x z = fd := by unfold fdG; rw [h2]
  have e2 : He.codeOf K (x, none) = c := He.codeOf_eq (p := (x, none)) h2 (by rw [h1] <;> rfl)
  rw [e1, e2]
  subst hd
  exact ⟨⟨oc, od, kV, doc, pm, an, ct, osl, h1, h2, h3⟩, F.kp⟩
theorem tabB_of {base : Heap} {mg : Str → Option Value} {c P : Addr} (h : LamX.TabB base mg c P) : GxR.TabB base mg c P := ⟨h.code, h.bm, h.gP⟩
/-- the law's own beginning: its script is at a -/
theorem sp_law {K : PySem.W.Frag} {T : List Addr} {xc : Str → Option Value} {F : List D → Rf} {H : Hp} {a : Addr} {ns : List Int} (hT : ∀ P ∈ T, H P = some (.tbl #[])) (hS : SqL K H a (ns.map V.int)) (hF : F [.scr ns] = .ok (.bl true)) :
    spP K T xc 1 F [.ref a] H (fun v _ => v = .bl true) fun _ _ _ => False := by
  have fin : ∀ B : Hp, Same B H → NoT B → SqL K B a (ns.map V.int) → spP K T xc 1 F [.ref a] H (fun v _ => v = .bl true) fun _ _ _ => False := fun B bh nt sq => by
    refine ⟨rfl, B, [.scr ns], ⟨fun P hP => ⟨#[], hT P hP, by trivial⟩, bh, nt⟩, .cons (.scr sq) .nil, ?_⟩
    rw [hF]
    intro v B' H' g hv
    cases hv
    rfl
  have one : ∀ o : HO, H a = some o → (∀ ps, o ≠ .tbl ps) → Rd (fun b => if b = a then some o else none) a (.lst (ns.map V.int)) → spP K T xc 1 F [.ref a] H (fun v _ => v = .bl true) fun _ _ _ => False := fun o ho no rd => by
    refine fin (fun b => if b = a then some o else none) (fun b u h => ?_) (fun b ps h => ?_) (.inl rd)
    · dsimp only at h
      split at h
      · rename_i e; subst e; cases h; exact ho
      · cases h
    · dsimp only at h
      split at h
      · cases h; exact no ps rfl
      · cases h
  rcases hS with (h | ⟨o, h⟩) | h
  · exact one _ h (fun ps z => by cases z) (.inl (if_pos rfl))
  · exact one _ h (fun ps z => by cases z) (.inr ⟨o, if_pos rfl⟩)
  · exact fin (fun _ => none) (fun b u h => by cases h) (fun b ps h => by cases h) (.inr h)
theorem FunC.bindsA {K : PySem.W.Frag} {x qual : Str} {st : Stmt} {f : Addr} {fd : FuncData} {c : Addr} {ps : List Str} (F : FunC K x qual st f fd c)
    (hb : ∀ (kV doc pm : Value) (an : Option Addr) (cdv ct : Value) (us : List Value), us.length = ps.length → bindArgs (PySem.W.fnOf x qual (defArgs st) (defBody st) (defScope st) .none kV doc pm an cdv ct) { pos := us } = pure (ps.zip us))
    (s : Shared) (us : List Value) (hl : us.length = ps.length) : BindsTo s fd { pos := us } (ps.zip us) := by
  obtain ⟨oc, od, kV, doc, pm, an, ct, osl, h1, _⟩ := F.ex
  subst h1
  exact .of_eq (hb _ _ _ _ _ _ us hl)
theorem cx_end {P : Program} (w : World) (H : Hp) (s : Shared) (e : Value) (s' : Shared) (h : CX P w [] H s (fun _ _ _ => False) e s') : False := by
  obtain ⟨_, _, _, _, _, _, _, _, _, _, _, _, h⟩ := h
  exact h
/-- without the empty tables -/
def flt (K : PySem.W.Frag) : PySem.W.Frag := K.filter fun q => !He.emptyTab q.2
theorem flt_mem {K : PySem.W.Frag} {a : Addr} {o : Obj} (h : (flt K).lookup a = some o) : (a, o) ∈ K ∧ He.emptyTab o = false := by
  obtain ⟨h1, h2⟩ := List.mem_filter.mp (He.lookup_mem h)
  refine ⟨h1, ?_⟩
  cases q : He.emptyTab o with
  | false => rfl
  | true =>
    have h3 : (!He.emptyTab o) = true := h2
    rw [q] at h3
    cases h3
/-- no place twice -/
def onceB : List Addr → Bool
  | [] => true
  | a :: r => !r.contains a && onceB r
theorem lookup_once : ∀ {l : PySem.W.Frag} {a : Addr} {o : Obj}, onceB (l.map (·.1)) = true → (a, o) ∈ l → l.lookup a = some o
  | [], _, _, _, h => (by cases h)
  | (b, u) :: r, a, o, n, h => by
    rw [List.map_cons, onceB, Bool.and_eq_true] at n
    rcases List.mem_cons.mp h with e | h2
    · cases e
      simp [List.lookup]
    · have ne : a ≠ b := fun e => by
        subst e
        have m : a ∈ r.map (·.1) := List.mem_map.mpr ⟨(a, o), h2, rfl⟩
        have n1 := n.1
        rw [Bool.not_eq_true', ← Bool.not_eq_true, List.contains_iff_mem] at n1
        exact n1 m
      have hb : (a == b) = false := by simpa using ne
      have ih := lookup_once n.2 h2
      simp [List.lookup, hb]
      exact ih
theorem flt_in {K : PySem.W.Frag} {h : Heap} (X : K.In h) (n : onceB (K.map (·.1)) = true) : (flt K).In h := fun _ _ e => X _ _ (lookup_once n (flt_mem e).1)
theorem saysX_lit {K : PySem.W.Frag} {h : Heap} {w : World} {fa : List He.Fa} {fn : List He.DefD} {ts : List He.Tab} {tf : List He.Defn} {ex : PySem.W.Frag → Bool} (X : K.In h)
    (e1 : He.obsT fa fn ts (flt K) = He.valT fn ts w) (e2 : ex (flt K) = true)
    (e3 : (tf.all fun p => PySem.W.codeHdIn (flt K) (He.cT (flt K) p).1 (He.cT (flt K) p).2 && (((flt K).lookup (He.cT (flt K) p).2).isNone && (match K.lookup (He.cT (flt K) p).2 with
      | some o => He.emptyTab o
      | none => false))) = true) : He.SaysX fa fn ts tf ex w h (flt K) := by
  have key : ∀ p ∈ tf, PySem.W.codeHdIn (flt K) (He.cT (flt K) p).1 (He.cT (flt K) p).2 = true ∧ (flt K).lookup (He.cT (flt K) p).2 = none ∧ ∃ o, K.lookup (He.cT (flt K) p).2 = some o ∧ He.emptyTab o = true := fun p hp => by
    have q := List.all_eq_true.mp e3 p hp
    simp only [Bool.and_eq_true] at q
    refine ⟨q.1, Option.isNone_iff_eq_none.mp q.2.1, ?_⟩
    have q2 := q.2.2
    cases z : K.lookup (He.cT (flt K) p).2 with
    | none => rw [z] at q2; cases q2
    | some o => rw [z] at q2; exact ⟨o, rfl, q2⟩
  exact ⟨e1, e2, fun p hp => (key p hp).1, fun p hp => (key p hp).2.1, fun p hp => by
    obtain ⟨_, _, o, q, z⟩ := key p hp
    rw [X _ _ q, He.emptyTab_eq z]⟩
end Pf
namespace Pf
open PySem PySem.Spec PyProof.Rows L2 GxR GenW Gx Wk
end Pf
namespace Pf
open PySem PySem.Spec PyProof.Rows L2 GxR GenW Gx Wk
theorem DqAll.reverse {K : PySem.W.Frag} {B : Hp} : ∀ {vs : List V} {ds : List D}, DqAll K B vs ds → DqAll K B vs.reverse ds.reverse
  | _, _, .nil => .nil
  | _, _, .cons a r => by
    simp only [List.reverse_cons]
    exact (DqAll.reverse r).append (.cons a .nil)
section
variable {X : Cx} {S : Se} {M : Xw}
def wRev (f : List Sl → Rs D) (env : List Sl) : Rs (List D) := (f env).bind fun d e => Rs.opt (d.items.map List.reverse) e
/-- xs[::-1] -/
def fRev (f : List Sl → Rs D) (env : List Sl) : Rs Ow := (f env).bind fun d e => match d with
  | .lst xs => .ok (.l xs.reverse) e
  | _ => .bad
/-! ### texts -/
def strsD : List D → Option (List Str)
  | [] => some []
  | .str x :: ds => (strsD ds).map (x :: ·)
  | _ :: _ => none
theorem strs_dq {K : PySem.W.Frag} {B : Hp} : ∀ {vs : List V} {ds : List D} {ns : List Str}, DqAll K B vs ds → strsD ds = some ns → vs = ns.map V.str
  | _, _, _, .nil, e => by cases e; rfl
  | _, _, ns, .cons (d := d) (ds := ds) a r, e => by
    cases a <;> first | cases e | skip
    rename_i i
    have e : (strsD ds).map (i :: ·) = some ns := e
    cases q : strsD ds with
    | none => (rw [q] at e; cases e)
    | some ms =>
      rw [q] at e
      cases e
      rw [strs_dq r q]
      rfl
theorem strs_of {K : PySem.W.Frag} {B : Hp} : ∀ ys : List Str, DqAll K B (ys.map V.str) (ys.map D.str)
  | [] => .nil
  | y :: ys => .cons (.str y) (strs_of ys)
def dJoin : D → D → Option D
  | .str a, e => match e.items with
    | some ds => match strsD ds with
      | some ys => if (ys.map (·.length)).sum + ys.length * a.length ≤ 16777216 then some (.str (Txt.join a ys)) else none
      | none => none
    | none => none
  | _, _ => none
theorem pv_join {o e : Expr} {apos pos : Pos} {f g : List Sl → Rs D} (ho : PV X S M o f) (he : PV X S M e g)
    (h1 : starEach [e] X.env = [(false, eval e X.env)] := by rfl) (h2 : attributeBase o "join" X.env (eval o X.env) = eval o X.env := by rfl) (h3 : (apos.endLine == pos.line) = true := by rfl) :
    PV X S M (.Call (.Attribute o "join" apos) [e] [] pos) (fun env => (f env).bind fun d e1 => match d with
      | .str _ => (g e1).bind fun d2 e2 => Rs.opt (dJoin d d2) e2
      | _ => .bad) := ⟨peI (pe_join ho.pe he.pe h1 h2 h3) (by
  rintro σ H Q ⟨B, env, R, P⟩
  refine ⟨B, env, R, (Post.bind P).mono fun d e B1 H1 R1 X1 P1 x hx => ?_⟩
  cases hx <;> first | exact P1.elim | skip
  rename_i a
  refine ⟨⟨a, rfl⟩, B1, e, R1, (Post.bind P1).mono fun d2 e2 B2 H2 R2 X2 P2 y hy => ?_⟩
  unfold dJoin at P2
  cases q1 : d2.items with
  | none => simp only [q1] at P2; exact P2.elim
  | some ds =>
    cases q2 : strsD ds with
    | none => simp only [q1, q2] at P2; exact P2.elim
    | some ys =>
      simp only [q1, q2] at P2
      split at P2
      · rename_i hl
        obtain ⟨k, p, vs, rfl, h4, h5⟩ := dq_seq hy q1
        have e3 := strs_dq h5 q2
        subst e3
        unfold sqK at h4
        refine ⟨a, p, ys, rfl, rfl, ?_, hl, P2.ok R2 _ (.str _)⟩
        cases k with
        | true => exact .inl (same_seqL R2.bh h4)
        | false => exact .inr (same_seqT R2.bh h4)
      · exact P2.elim)⟩
def fJoin (f g : List Sl → Rs D) (env : List Sl) : Rs D := (f env).bind fun d e1 => match d with
  | .str _ => (g e1).bind fun d2 e2 => Rs.opt (dJoin d d2) e2
  | _ => .bad
theorem q_join {o e : Expr} {apos pos : Pos} {f g : List Sl → Rs D} (ho : PV X S M o f) (he : PV X S M e g)
    (h1 : starEach [e] X.env = [(false, eval e X.env)] := by rfl) (h2 : attributeBase o "join" X.env (eval o X.env) = eval o X.env := by rfl) (h3 : (apos.endLine == pos.line) = true := by rfl) :
    PV X S M (.Call (.Attribute o "join" apos) [e] [] pos) (fJoin f g) := pv_join ho he h1 h2 h3
def fSplit (f g : List Sl → Rs D) (env : List Sl) : Rs Ow := (f env).bind fun d e => match d with
  | .str a => (g e).bind fun d2 e2 => match d2 with
    | .str b => if (b.length == 0) = false ∧ a.length + 2 ≤ sizeLine then .ok (.l ((Txt.split a b).map .str)) e2 else .bad
    | _ => .bad
  | _ => .bad
theorem pn_split {o e : Expr} {apos pos : Pos} {f g : List Sl → Rs D} (ho : PV X S M o f) (he : PV X S M e g)
    (h1 : starEach [e] X.env = [(false, eval e X.env)] := by rfl) (h2 : attributeBase o "split" X.env (eval o X.env) = eval o X.env := by rfl) (h3 : (apos.endLine == pos.line) = true := by rfl) :
    PN X S M (.Call (.Attribute o "split" apos) [e] [] pos) (fSplit f g) := ⟨peI (pe_split ho.pe he.pe h1 h2 h3) (by
  rintro σ H Q ⟨B, env, R, P⟩
  refine ⟨B, env, R, (Post.bind P).mono fun d e B1 H1 R1 X1 P1 x hx => ?_⟩
  cases hx <;> first | exact P1.elim | skip
  rename_i a
  refine ⟨⟨a, rfl⟩, B1, e, R1, (Post.bind P1).mono fun d2 e2 B2 H2 R2 X2 P2 y hy => ?_⟩
  cases hy <;> first | exact P2.elim | skip
  rename_i b
  have P2 : Post X.K S M σ B2 H2 e2 (if (b.length == 0) = false ∧ a.length + 2 ≤ sizeLine then .ok (Ow.l ((Txt.split a b).map D.str)) e2 else .bad) _ := P2
  split at P2
  · rename_i hl
    refine ⟨a, b, rfl, rfl, hl.1, hl.2, fun l hn => ?_⟩
    obtain ⟨R3, X3, F⟩ := Fresh.new (o := .lst ((Txt.split a b).map V.str)) R2 hn
    exact P2 _ _ R3 X3 l _ (X1.live l (X2.live l hn)) F (strs_of _)
  · exact P2.elim)⟩
end
end Pf
namespace Pf
open PySem PySem.Spec PyProof.Rows L2 GxR GenW Gx Wk
section
variable {X : Cx} {S : Se} {M : Xw}
def fStrB (p : Str → Bool) (f : List Sl → Rs D) (env : List Sl) : Rs D := (f env).bind fun d e => match d with
  | .str a => .ok (.bl (p a)) e
  | _ => .bad
theorem pv_isdigit {o : Expr} {apos pos : Pos} {f : List Sl → Rs D} (ho : PV X S M o f) (h2 : attributeBase o "isdigit" X.env (eval o X.env) = eval o X.env := by rfl) (h3 : (apos.endLine == pos.line) = true := by rfl) :
    PV X S M (.Call (.Attribute o "isdigit" apos) [] [] pos) (fStrB Txt.isdigit f) := ⟨peI (pe_bm0 PySem.F.plainAttrs_str PySem.F.slot_str_isdigit PySem.F.type_str_isdigit mt_isdigit ho.pe h2 h3) (by
  rintro σ H Q ⟨B, env, R, P⟩
  refine ⟨B, env, R, (Post.bind P).mono fun d e B1 H1 R1 X1 P1 x hx => ?_⟩
  cases hx <;> first | exact P1.elim | skip
  exact ⟨rfl, _, rfl, rfl, trivial, P1.ok R1 _ (.bl _)⟩)⟩
theorem pv_isascii {o : Expr} {apos pos : Pos} {f : List Sl → Rs D} (ho : PV X S M o f) (h2 : attributeBase o "isascii" X.env (eval o X.env) = eval o X.env := by rfl) (h3 : (apos.endLine == pos.line) = true := by rfl) :
    PV X S M (.Call (.Attribute o "isascii" apos) [] [] pos) (fStrB Txt.isascii f) := ⟨peI (pe_bm0 PySem.F.plainAttrs_str PySem.F.slot_str_isascii PySem.F.type_str_isascii mt_isascii ho.pe h2 h3) (by
  rintro σ H Q ⟨B, env, R, P⟩
  refine ⟨B, env, R, (Post.bind P).mono fun d e B1 H1 R1 X1 P1 x hx => ?_⟩
  cases hx <;> first | exact P1.elim | skip
  exact ⟨rfl, _, rfl, rfl, trivial, P1.ok R1 _ (.bl _)⟩)⟩
end
end Pf
namespace Pf
open PySem PySem.Spec PyProof.Rows L2 GxR GenW Gx Wk
section
variable {X : Cx} {S : Se} {M : Xw}
/-! ### `or` and `and` of any data: one of both -/
def fOrT (f g : List Sl → Rs D) (env : List Sl) : Rs D := (f env).bind fun d e => (Rs.opt d.tru e).bind fun b e => if b = true then .ok d e else g e
def fAndT (f g : List Sl → Rs D) (env : List Sl) : Rs D := (f env).bind fun d e => (Rs.opt d.tru e).bind fun b e => if b = true then g e else .ok d e
theorem pv_orT {a b : Expr} {pos : Pos} {rest : List Expr} {f g : List Sl → Rs D} (ha : PV X S M a f) (hb : PV X S M (.BoolOp .Or (b :: rest) pos) g) : PV X S M (.BoolOp .Or (a :: b :: rest) pos) (fOrT f g) := ⟨peI (pe_orT ha.pe hb.pe) (by
  rintro σ H Q ⟨B, env, R, P⟩
  refine ⟨B, env, R, (Post.bind P).mono fun d e B1 H1 R1 X1 P1 x hx => ?_⟩
  cases q : d.tru with
  | none => rw [q] at P1; exact P1.elim
  | some k =>
    rw [q] at P1
    have P2 : Post X.K S M σ B1 H1 e (if k = true then .ok d e else g e) _ := P1
    refine ⟨k, dq_tru R1.bh hx q, ?_⟩
    cases k with
    | true => exact P2.ok R1 x hx
    | false => exact ⟨B1, e, R1, P2⟩)⟩
end
end Pf
namespace Pf
open PySem PySem.Spec PyProof.Rows L2 GxR GenW Gx Wk
section
variable {X : Cx} {S : Se} {M : Xw}
/-! ### a call whose errors are caught: W may speak of the slots -/
theorem Rel.under {K : PySem.W.Frag} {B H : Hp} {env : List Sl} {σ : L2.St} {i : Nat} {v : Option V} (R : Rel K S B (env.set i .no) σ H) : Rel K S B (env.set i .no) (σ.set i v) H := by
  refine ⟨R.old, R.tab, R.b0, R.bh, R.nt, R.new, by rw [R.len, List.length_set], fun j e he => ?_, fun j l p e e' h1 h2 o1 o2 s1 s2 => ?_⟩
  · by_cases c : i = j
    · subst c
      have lt : i < env.length := by
        have := (List.getElem?_eq_some_iff.mp he).1
        simpa using this
      rw [List.getElem?_set_self lt] at he
      cases he
      trivial
    · rw [List.getElem?_set_ne c]
      exact R.sl j e he
  · have ne : ∀ {j : Nat} {e : Sl}, (env.set i .no)[j]? = some e → e.prv = true → i ≠ j := fun {j e} h o c => by
      subst c
      have lt : i < env.length := by
        have := (List.getElem?_eq_some_iff.mp h).1
        simpa using this
      rw [List.getElem?_set_self lt] at h
      cases h
      cases o
    rw [List.getElem?_set_ne (ne h1 o1)] at s1
    rw [List.getElem?_set_ne (ne h2 o2)] at s2
    exact R.sep j l p e e' h1 h2 o1 o2 s1 s2
/-! ### in the suite -/
end
end Pf
namespace Gx
open L2 PyProof.Rows PySem.Spec PySem
end Gx
namespace Pf
open PySem PySem.Spec PyProof.Rows L2 GxR GenW Gx
/-! ### sets of ints, made of a sequence -/
section
variable {X : Cx} {S : Se} {M : Xw}
theorem Post.pre {K : PySem.W.Frag} {σ : L2.St} {B H B0 H0 : Hp} {env env0 : List Sl} {α : Type} {r : Rs α} {k : α → List Sl → Hp → Hp → Prop} (x : Ext env env0 σ B H B0 H0) (h : Post K S M σ B H env r k) : Post K S M σ B0 H0 env0 r k := by
  cases r with
  | bad => exact h
  | ex x => exact h
  | ok a e => exact fun B' H' R X => h B' H' R (x.trans X)
end
end Pf
namespace Pf
open PySem PySem.Spec PyProof.Rows L2 GxR GenW Gx
section
variable {X : Cx} {S : Se} {M : Xw}
/-- of which nothing is promised -/
def rBad (_ : List Sl) : Ro := .bad
end
end Pf
namespace Pf
open PySem PySem.Spec PyProof.Rows L2 GxR GenW Gx
section
variable {X : Cx} {S : Se} {M : Xw}
/-! ### name = [..] on one line: the name is stored within -/
structure PSw (X : Cx) (S : Se) (M : Xw) (st : Stmt) (i : Nat) (f : List Sl → Rs Ow) : Prop where
  ex : ∃ te, PS X st (tAsg te (gName i)) ∧ ∀ σ H Q, semN X.K S M f σ H Q → te σ H Q
theorem q_sw {st : Stmt} {i : Nat} {f : List Sl → Rs Ow} (h : PSw X S M st i f) : PX X S M st (rSet i (fFrz f)) := by
  obtain ⟨te, h1, h2⟩ := h.ex
  refine ⟨psI h1 ?_⟩
  rintro D0 σ H ⟨B, env, R, P⟩
  have P2 : Post X.K S M σ B H env (fFrz f env) fun d _ B' H' => ∀ v, Dq X.K B' v d → gName i v σ H' D0.nx :=
    (PostS.of P).mono fun d e B1 H1 R1 X1 P1 v hv => P1 B1 H1 _ (R1.setIm i hv) (Same.refl _)
  exact h2 σ H _ ⟨B, env, R, Post.frz P2⟩
theorem psw_lc {i : Nat} {y : Str} {py : Pos} {elt tg iter : Expr} {ifs : List Expr} {scope : Scope} {own : List (Str × Nat)} {pos spos : Pos} {f : List Sl → Rs (List D)} {g : D → List Sl → Option (List Sl)} {t : List Sl → Rs Bool} {el : List Sl → Rs D} {L : List Nat}
    (hc : X.calm = true) (hN : X.N.Nodup) (hi : PIt X S M tg iter f) (ok : BlkOk X.N X.env.scope scope own)
    (hg : ∀ (s : Shared) (H : Hp) (C : Addr) (cl : List (Str × Addr)) (fp : List Addr), PTg (X.blk s H scope (compEnvC scope cl C X.env) fp) S tg g L)
    (ht : ∀ (s : Shared) (H : Hp) (C : Addr) (cl : List (Str × Addr)) (fp : List Addr), PIf (X.blk s H scope (compEnvC scope cl C X.env) fp) S M.calm ifs t)
    (he : ∀ (s : Shared) (H : Hp) (C : Addr) (cl : List (Str × Addr)) (fp : List Addr), PV (X.blk s H scope (compEnvC scope cl C X.env) fp) S M.calm elt el)
    (hL : ∀ i ∈ L, i ∈ own.map (·.2)) (hy : X.N[i]? = some y) (hyl : X.env.scope.names.lookup y = some .local)
    (hsw : swapsWith (.ListComp elt [⟨tg, iter, ifs, 0⟩] scope pos) (some (.Name y py)) spos.line X.env = pure true) (hq : ∀ x, foldedSetIterable iter X.env x = pure x := by exact fun _ => rfl) :
    PSw X S M (.Assign [.Name y py] (.ListComp elt [⟨tg, iter, ifs, 0⟩] scope pos) spos) i (fLc f g t el (own.map (·.2))) :=
  ⟨_, ps_setLc hc hN hy hyl hsw hi.pi ok (fun s H C cl fp => (hg s H C cl fp).pg) (fun s H C cl fp => (ht s H C cl fp).pts) (fun s H C cl fp => (he s H C cl fp).pe) hq, sem_lc hL⟩
/-! ### min of a list -/
end
end Pf
namespace Pf
open PySem PySem.Spec PyProof.Rows L2 GxR GenW Gx
section
variable {X : Cx} {S : Se} {M : Xw}
/-! ### targets that change a list of one's own -/
def Nxt (K : PySem.W.Frag) (S : Se) (B : Hp) (r : Ro) (Q : L2.St → Hp → Prop) : Prop := ∃ e, r = .nx e ∧ ∀ B' H' σ', Rel K S B' e σ' H' → Same B B' → Q σ' H'
theorem Nxt.mono {B B1 : Hp} {r : Ro} {Q : L2.St → Hp → Prop} (h : Nxt X.K S B r Q) (sm : Same B B1) : Nxt X.K S B1 r Q := by
  obtain ⟨e, rfl, k⟩ := h
  exact ⟨e, rfl, fun B' H' σ' R s => k B' H' σ' R (sm.trans s)⟩
structure PTm (X : Cx) (S : Se) (M : Xw) (tg : Expr) (g : D → List Sl → Ro) : Prop where
  pg : PG X tg fun v σ H Q => ∃ B env d, Rel X.K S B env σ H ∧ Dq X.K B v d ∧ Nxt X.K S B (g d env) Q
def gOf (g : D → List Sl → Option (List Sl)) (d : D) (env : List Sl) : Ro := match g d env with | some e => .nx e | none => .bad
def gIt (i : Nat) (f : List Sl → Rs D) (d : D) (env : List Sl) : Ro :=
  if pkN i env = true then match f env with
    | .ok k e => match e[i]?, k with
      | some (.ow (.l ys)), .int j => if 0 ≤ j ∧ j < ys.length then .nx (e.set i (.ow (.l (ys.set j.toNat d)))) else .bad
      | _, _ => .bad
    | _ => .bad
  else .bad
theorem ptm_item {x : Str} {i : Nat} {b : Expr} {pos p1 : Pos} {f : List Sl → Rs D} (hN : X.N[i]? = some x) (hv : Vis X.env.scope x) (hb : PV X S M b f)
    (hd1 : (x == Str.ofString "__debug__") = false := by rfl) (hd2 : (x == Str.ofString "__classdict__") = false := by rfl)
    (ha : ∀ z, assign (.Subscript (.Name x p1) b pos) X.env z = (do
      let oz ← holding [z] (eval (.Name x p1) X.env)
      let kz ← holding [z, oz] (eval b X.env)
      standAt pos
      holding [z, oz, kz] (setItem oz kz z)
      release [z, oz, kz] []) := by exact fun _ => rfl) : PTm X S M (.Subscript (.Name x p1) b pos) (gIt i f) := ⟨pgI (pg_sub (pe_var hN hv hd1 hd2) hb.pe set_list ha) (by
  rintro v σ H Q ⟨B, env, d, R, hd, e, he, k⟩
  unfold gIt at he
  split at he
  · rename_i hk
    obtain ⟨u, hu⟩ := pkN_v R hk
    refine ⟨u, hu, B, env, R, ?_⟩
    cases qf : f env with
    | bad => rw [qf] at he; cases he
    | ex x => rw [qf] at he; cases he
    | ok kk e1 =>
      rw [qf] at he
      dsimp only at he
      split at he
      · rename_i ys j hy
        split at he
        · rename_i hj
          cases he
          intro B1 H1 R1 X1 y hy1
          cases hy1
          obtain ⟨p, vs, f1, f2, f3⟩ := ow_v R1 hy
          rw [hu] at f1
          cases f1
          refine ⟨p, vs, j, j.toNat, rfl, rfl, f2, ?_, ?_⟩
          · unfold ixN
            rw [if_pos hj.1, if_pos (by rw [f3.length]; exact hj.2)]
          · obtain ⟨R4, X4⟩ := R1.mut (ys := .l (ys.set j.toNat d)) (us := .lst (vs.set j.toNat v)) hy hu (f3.set (hd.mono X1.same) _)
            exact k _ _ σ R4 (X1.same.trans X4.same)
        · cases he
      · cases he
  · cases he)⟩
def gmN : List D → List Sl → Ro
  | [], env => .nx env
  | _ :: _, _ => .bad
def gmC (g : D → List Sl → Ro) (h : List D → List Sl → Ro) : List D → List Sl → Ro
  | d :: ds, env => match g d env with | .nx e => h ds e | _ => .bad
  | [], _ => .bad
def gmT (n : Nat) (h : List D → List Sl → Ro) : D → List Sl → Ro
  | .tup ds, env => if ds.length = n then h ds env else .bad
  | _, _ => .bad
def rAsgM (g : D → List Sl → Ro) (f : List Sl → Rs D) (env : List Sl) : Ro := (f env).ro fun d e => match g d e with | .nx e' => .nx e' | _ => .bad
theorem px_asgM {tg e : Expr} {pos : Pos} {f : List Sl → Rs D} {g : D → List Sl → Ro} (h : PV X S M e f) (hg : PTm X S M tg g)
    (h1 : swapsWithSole [tg] e pos.line X.env = pure false := by rfl) (h2 : swappedStores [tg] e X.env = pure none := by rfl) (h3 : (assignEach [tg] X.env).map (·.2) = [assign tg X.env] := by rfl) :
    PX X S M (.Assign [tg] e pos) (rAsgM g f) := ⟨psI (ps_asg h.pe hg.pg h1 h2 h3) (by
  rintro D0 σ H ⟨B, env, R, P⟩
  refine ⟨B, env, R, (PostS.of P).mono fun d e B1 H1 R1 X1 P1 v hv => ?_⟩
  cases q : g d e with
  | nx e' =>
    rw [q] at P1
    exact ⟨B1, e, d, R1, hv, e', q, fun B2 H2 σ2 R2 s2 => P1 B2 H2 σ2 R2 s2⟩
  | rt d => rw [q] at P1; exact P1.elim
  | bk d => rw [q] at P1; exact P1.elim
  | ct d => rw [q] at P1; exact P1.elim
  | ex d => rw [q] at P1; exact P1.elim
  | bad => rw [q] at P1; exact P1.elim)⟩
/-! ### a, b = x, y: plain names -/
def rPar (i j : Nat) (f : List Sl → Rs (List D)) (env : List Sl) : Ro := (f env).ro fun ds e => match ds with
  | [d, d2] => .nx ((e.set i (.im d)).set j (.im d2))
  | _ => .bad
/-! ### gcd -/
/-! ### range(i, j, -1) -/
def rng3 : List D → Option (List D)
  | [.int i, .int j, .int c] => if c = -1 ∧ -(2 ^ 62) ≤ i ∧ i < 2 ^ 62 ∧ -(2 ^ 62) ≤ j ∧ j < 2 ^ 62 then some ((List.range (i - j).toNat).map fun (k : Nat) => D.int (i + (k : Int) * (-1))) else none
  | _ => none
def wRng3 (g : List Sl → Rs (List D)) (env : List Sl) : Rs (List D) := (g env).bind fun ds e => Rs.opt (rng3 ds) e
/-! ### sorted(xs), ints -/
end
end Pf
namespace Pf
open PySem PySem.Spec PyProof.Rows L2 GxR GenW Gx
end Pf
namespace Pf
open L2 PySem PyProof.Rows PySem.Spec
/-! ### a law's own call, where no repr is under way -/
/-- what is tracked there: the tables of the code objects, and the script if it is not the top's own -/
def topH (T : List Addr) (a : Addr) (vs : List Value) (ns : List Int) (own : Bool) : Hp := fun b =>
  if b ∈ T then some (.tbl #[]) else if own = true ∧ b = a then some (.frz { cls := .type "list", data := .seq vs.toArray } (.lst (ns.map V.int))) else none
section
variable {T : List Addr} {a b : Addr} {vs : List Value} {ns : List Int} {own : Bool}
theorem topH_in (h : b ∈ T) : topH T a vs ns own b = some (.tbl #[]) := if_pos h
theorem topH_cases {u : HO} (h : topH T a vs ns own b = some u) : (b ∈ T ∧ u = .tbl #[]) ∨ (b ∉ T ∧ own = true ∧ b = a ∧ u = .frz { cls := .type "list", data := .seq vs.toArray } (.lst (ns.map V.int))) := by
  unfold topH at h
  by_cases hT : b ∈ T
  · rw [if_pos hT] at h
    exact .inl ⟨hT, (Option.some.inj h).symm⟩
  · rw [if_neg hT] at h
    by_cases ho : own = true ∧ b = a
    · rw [if_pos ho] at h
      exact .inr ⟨hT, ho.1, ho.2, (Option.some.inj h).symm⟩
    · rw [if_neg ho] at h
      cases h
/-- an object of another sort is not tracked -/
theorem topH_off {h : Heap} {o : Obj} (isT : ∀ b ∈ T, h.get? b = some { cls := .none, data := .fields #[] }) (ha : h.get? a = some { cls := .type "list", data := .seq vs.toArray }) (hb : h.get? b = some o)
    (h1 : o.data ≠ .fields #[]) (h2 : o.data ≠ .seq vs.toArray) : topH T a vs ns own b = none := by
  cases q : topH T a vs ns own b with
  | none => rfl
  | some u =>
    rcases topH_cases q with ⟨m, -⟩ | ⟨-, -, e, -⟩
    · rw [isT b m] at hb
      exact absurd (congrArg Obj.data (Option.some.inj hb)).symm h1
    · rw [e, ha] at hb
      exact absurd (congrArg Obj.data (Option.some.inj hb)).symm h2
end
/-- the call ends well: True, nothing changed but code tables that grew, nothing left open -/
def EndsWell (s₁ : Shared) (r : Except Value Flow) (s2 : Shared) : Prop := r = .ok (.ret (.bool true)) ∧ OldK s₁.heap s2.heap ∧ s2.os = s₁.os ∧ AllBare s2.gens
/-- a table stands at b -/
def TabAt (h : Heap) (b : Addr) : Prop := ∃ us : Array Value, h.get? b = some ⟨.none, none, .fields us, #[]⟩
theorem top_call {P : Program} {w : World} {K : PySem.W.Frag} {mg mb : Str → Option Value} {CX : CXT} {fa a : Addr} {cs : List (Addr × Addr)} {s₁ : Shared} {vs : List Value} {ns : List Int}
    (kin : K.In s₁.heap) (gl : s₁.heap.Ns mainGlobals mg) (bl : s₁.heap.Ns builtinsNs mb) (boot : ∀ x : Str, x ≠ "__name__" → mb x = bootBuiltins x) (nolim : s₁.heap.NoLimit) (gens : s₁.gens = #[])
    (tabs : ∀ p ∈ cs, s₁.heap.get? p.2 = some { cls := .none, data := .fields #[] }) (loose : ∀ p ∈ cs, K.lookup p.2 = none) (hds : ∀ p ∈ cs, PySem.W.CodeHd s₁.heap p.1 p.2)
    (mods : ∃ (bm : Addr) (ob : Obj), mg "__builtins__" = some (.ref bm) ∧ bm ≠ builtinsNs ∧ s₁.heap.get? bm = some ob ∧ ob.cls = .type "module" ∧ ob.dict = some builtinsNs ∧ ob.data = .plain)
    (script : s₁.heap.get? a = some { cls := .type "list", data := .seq vs.toArray }) (nums : IntsAre vs ns) (few : ns.length ≤ sizeLine)
    (run : ∀ (base : Heap) (H : Hp), K.In base → base.Ns mainGlobals mg → (∀ p ∈ cs, LamX.TabB base mg p.1 p.2) → Env0 P w K mg base callerA [] s₁ H → (∀ p ∈ cs, H p.2 = some (.tbl #[])) → SqL K H a (ns.map V.int) →
      codeAny (model P w) callerA (.call (.ref fa) ⟨[.ref a], []⟩) (CR CX [] P w H s₁ (fun v _ => v = .bl true) fun _ _ _ => False) s₁)
    (noerr : ∀ H e s', CX [] H s₁ (fun _ _ _ => False) e s' → False) :
    codeAny (model P w) callerA (.call (.ref fa) ⟨[.ref a], []⟩) (EndsWell s₁) s₁ := by
  have isT : ∀ b ∈ cs.map (·.2), s₁.heap.get? b = some { cls := .none, data := .fields #[] } := fun b hb => by
    obtain ⟨p, hp, rfl⟩ := List.mem_map.mp hb
    exact tabs p hp
  have outT : ∀ b ∈ cs.map (·.2), K.lookup b = none := fun b hb => by
    obtain ⟨p, hp, rfl⟩ := List.mem_map.mp hb
    exact loose p hp
  have aOff : a ∉ cs.map (·.2) := fun m => by
    have q := (isT a m).symm.trans script
    cases q
  have own : ∃ k : Bool, (k = true → K.lookup a = none) ∧ (k = false → ∃ o, K.lookup a = some o) := by
    cases q : K.lookup a with
    | none => exact ⟨true, fun _ => rfl, fun z => nomatch z⟩
    | some o => exact ⟨false, fun z => (nomatch z), fun _ => ⟨o, rfl⟩⟩
  obtain ⟨k, k1, k2⟩ := own
  obtain ⟨H, hH⟩ : ∃ H, H = topH (cs.map (·.2)) a vs ns k := ⟨_, rfl⟩
  have off : ∀ {b : Addr} {o : Obj}, s₁.heap.get? b = some o → o.data ≠ .fields #[] → o.data ≠ .seq vs.toArray → H b = none := fun e h1 h2 => by
    rw [hH]
    exact topH_off isT script e h1 h2
  have rvs : Vals (ns.map V.int) vs := vals_ints nums
  have seen : ∀ {b : Addr} {o : Obj}, s₁.heap.get? b = some o → H b = none → (hidT s₁.heap H).get? b = some o := fun e n => hidT_get e n
  have names : ∀ {b : Addr} {m : Str → Option Value}, s₁.heap.Ns b m → (hidT s₁.heap H).Ns b m := fun {b m} n => by
    obtain ⟨o, es, ep, e, d, r⟩ := n
    exact ⟨o, es, ep, seen e (off e (by rw [d]; exact fun z => nomatch z) (by rw [d]; exact fun z => nomatch z)), d, r⟩
  have kin2 : K.In (hidT s₁.heap H) := fun b o e => by
    refine seen (kin b o e) ?_
    cases q : H b with
    | none => rfl
    | some u =>
      rw [hH] at q
      rcases topH_cases q with ⟨m, -⟩ | ⟨-, ho, e', -⟩
      · rw [outT b m] at e; cases e
      · rw [e', k1 ho] at e; cases e
  have M0 : L2.Mod K mg (hidT s₁.heap H) := by
    obtain ⟨mc, l1, l2⟩ := nolim
    exact ⟨kin2, names gl, ⟨mb, names bl, boot⟩, ⟨mc, names l1, l2⟩⟩
  have held : HOk P w H s₁.heap := fun b u q => by
    rw [hH] at q
    rcases topH_cases q with ⟨m, rfl⟩ | ⟨-, -, rfl, rfl⟩
    · exact isT b m
    · exact ⟨script, by rw [List.length_map]; exact few, vs, _, rvs, script⟩
  have E0 : Env0 P w K mg (hidT s₁.heap H) callerA [] s₁ H := by
    refine ⟨rfl, M0, fun b o e => of_hidT e, Nat.le_of_eq (hidT_size _ _), trivial, fun b hb => ?_, held, .of_eq gens⟩
    cases hb
  have notSeq : ∀ (xs : Array Value) (us : Array Value) (n : Nat), Data.fields us ≠ Data.seq xs n := fun xs us n z => nomatch z
  have TB : ∀ p ∈ cs, LamX.TabB (hidT s₁.heap H) mg p.1 p.2 := fun p hp => by
    have tp := tabs p hp
    constructor
    · obtain ⟨o, us, file, tf, flags, tg, inF, text, tt, e1, r1, r2, r3, r⟩ := hds p hp
      refine ⟨o, us, file, tf, flags, tg, inF, text, tt, seen e1 (off e1 (fun z => ?_) fun z => ?_), r1, r2, r3, r⟩
      · rw [r2] at z
        have e : us = #[] := Data.fields.inj z
        rw [e] at r3
        simp at r3
      · rw [r2] at z
        exact notSeq _ _ _ z
    · obtain ⟨bm, ob, b1, b2, b3, b4, b5, b6⟩ := mods
      have pl : ∀ d : Data, d ≠ .plain → ob.data ≠ d := fun d hd z => hd (by rw [← z, b6])
      refine ⟨bm, ob, b1, b2, fun z => ?_, fun z => ?_, seen b3 (off b3 (pl _ fun z => nomatch z) (pl _ fun z => nomatch z)), b4, b5, b6⟩
      · obtain ⟨o, es, ep, e, hd, _⟩ := gl
        rw [z] at b3
        have q := e.symm.trans b3
        cases q
        rw [hd] at b6
        cases b6
      · rw [z] at b3
        have q := tp.symm.trans b3
        cases q
        cases b6
    · intro z
      obtain ⟨o, es, ep, e, hd, _⟩ := gl
      rw [z] at e
      have q := tp.symm.trans e
      cases q
      cases hd
  have atT : ∀ p ∈ cs, H p.2 = some (.tbl #[]) := fun p hp => by
    rw [hH]
    exact topH_in (List.mem_map.mpr ⟨p, hp, rfl⟩)
  have sq : SqL K H a (ns.map V.int) := by
    cases hk : k with
    | true =>
      refine .inl (.inr ⟨{ cls := .type "list", data := .seq vs.toArray }, ?_⟩)
      rw [hH, hk]
      unfold topH
      rw [if_neg aOff, if_pos ⟨rfl, rfl⟩]
    | false =>
      obtain ⟨o, ho⟩ := k2 hk
      have e := (kin a o ho).symm.trans script
      cases e
      exact .inr ⟨_, vs.toArray, _, ho, rfl, rfl, rfl, by rw [List.size_toArray, nums.length]; exact few, by simpa using rvs⟩
  refine codeAny_mono (run _ H kin2 (names gl) TB E0 atT sq) fun r s' h => ?_
  cases r with
  | error e => exact (noerr H e s' h).elim
  | ok fl =>
    cases fl <;> first | exact False.elim h | skip
    rename_i u
    obtain ⟨v, H', os, bare, un, held', ru, rfl⟩ := h
    cases ru
    have frs0 : ∀ b : Addr, b ∉ frs [] := fun b z => nomatch (show b ∈ ([] : List Addr) from z)
    -- what becomes of each thing that stood before
    have fate : ∀ b o, s₁.heap.get? b = some o → s'.heap.get? b = some o ∨ ∃ p ∈ cs, p.2 = b ∧ TabAt s'.heap b := fun b o e => by
      cases q : H b with
      | none => exact .inl (un.keep b o e q (frs0 b) (by simp))
      | some u =>
        rw [hH] at q
        rcases topH_cases q with ⟨m, -⟩ | ⟨-, -, eb, eu⟩
        · obtain ⟨p, hp, ep⟩ := List.mem_map.mp m
          obtain ⟨us, z⟩ := un.tbls p.2 #[] (atT p hp)
          exact .inr ⟨p, hp, ep, #[] ++ us, by rw [← ep]; exact held' p.2 _ z⟩
        · subst eb
          subst eu
          rw [← hH] at q
          have e2 := e.symm.trans script
          cases e2
          exact .inl (held' b _ (un.frzs b _ _ q)).1
    have old : OldK s₁.heap s'.heap := by
      constructor
      · intro b o e
        rcases fate b o e with z | ⟨p, hp, rfl, us, z⟩
        · exact .inl z
        · have t0 := tabs p hp
          have e2 := e.symm.trans t0
          cases e2
          exact .inr (.inl ⟨((hds p hp).tab t0).isCodeTable, rfl, #[], us, rfl, by rw [Array.empty_append]; exact z⟩)
      · intro b o e
        rcases fate b o e with z | ⟨p, hp, rfl, us, z⟩
        · exact ⟨o, z⟩
        · exact ⟨_, z⟩
    exact ⟨rfl, old, os, bare⟩
end Pf
namespace Pf
open L2 PySem PyProof.Rows PySem.Spec
/-- one call of a def of the top, at one place -/
theorem fn_run {CX : CXT} {P : Program} {w : World} {K : PySem.W.Frag} {mg : Str → Option Value} {base : Heap} {k : Nat} {f : Addr} {name qual : Str} {params : Arguments} {body : List Stmt} {scope : Scope} {dV kV doc pm cdv ct oc : Value} {an od : Option Addr}
    {osl : Array (Option Value)} {N ps : List Str} {A : Around} {outer : List Env} {s : Shared} {H : Hp} {given : Args} {us : List Value} {vs : List V} {Q : VK} {E : XK}
    (lk : K.lookup f = some ⟨oc, od, .func (PySem.W.fnOf name qual params body scope dV kV doc pm an cdv ct), osl⟩) (code : PySem.W.codeIn K cdv qual = true) (S : FnScope N ps scope)
    (room : Room (k + 1) A) (e0 : Env0 P w K mg base A outer s H) (bt : BindsTo s (PySem.W.fnOf name qual params body scope dV kV doc pm an cdv ct) given (ps.zip us)) (rv : Vals vs us) (many : vs.length = ps.length)
    (inside : ∃ t, PSs (cxOf CX P w K mg base N qual scope f cdv A outer s H E) body t ∧ t { nx := fun _ H' => Q .non H', rt := Q } (start N vs) H) :
    codeAny (model P w) A (.call (.ref f) given) (CR CX outer P w H s Q E) s := by
  obtain ⟨t, ht, q⟩ := inside
  have up : ∀ b o, base.get? b = some o → s.heap.get? b = some o := fun b o e => (e0.bs b o e).1
  have KX : K.In s.heap := e0.mod.kin.keeps up
  have kinds : ∀ y ∈ ps.zip us, scope.names.lookup y.1 = some .local ∨ (scope.names.lookup y.1 = some .cell ∧ ((cellsFrom (s.heap.objs.size + 1) scope.names []).lookup y.1).isSome = true) := by
    intro y hy
    obtain ⟨n, v⟩ := y
    exact (S.par n (List.of_mem_zip hy).1).imp (fun l => l) fun c => ⟨c, PySem.W.cellsFrom_some _ _ _ (.inl c)⟩
  refine codeAny_call_function room.depth (KX _ _ lk) rfl S.co S.gen rfl (PySem.W.codeRec_of KX code) (bt _ _ _ _ (wpAny_newFunctionEnv_cells S.kind kinds fun env he s1 x => ?_))
  cases he
  refine ⟨(e0.mod.nolimit.keeps up).keeps x.toInCall.keep, codeAny_func (wpAny_mono (ht.run [] s1 (start N vs) H _ (inv_start S room.hd e0 many rv x) q) (fun fl s' end' => ?_) fun e s' z => z)⟩
  cases fl
  case ret u =>
    obtain ⟨v, σ', H', J, r, qv⟩ := end'
    exact ⟨v, H', J.os, J.bare, J.base, J.hok, r, qv⟩
  case next =>
    obtain ⟨σ', H', J, qv⟩ := end'
    exact ⟨V.non, H', J.os, J.bare, J.base, J.hok, rfl, qv⟩
  all_goals
    obtain ⟨_, _, _, z⟩ := end'
    exact False.elim z
end Pf
namespace Pf
open L2 PySem PyProof.Rows PySem.Spec
/-- the law's def, run at its own call -/
theorem law_run {P : Program} {w : World} {K : PySem.W.Frag} {mg : Str → Option Value} {base : Heap} {x qual : Str} {st : Stmt} {f c : Addr} {fd : FuncData} {N ps : List Str} {k : Nat}
    {T : List Addr} {xc : Str → Option Value} {F : List D → Rf} {b : List Sl → Ro} {s : Shared} {H : Hp} {args : Args} {us : List Value} {vs : List V} {Q : VK} {E : XK}
    (Fu : FunC K x qual st f fd c) (Sc : FnScope N ps (defScope st)) (hF : ∀ ds, ds.length = ps.length → F ds = (b (env0 N.length ds)).fn) (room : Room (k + 1) callerA)
    (e0 : Env0 P w K mg base callerA [] s H) (bt : BindsTo s fd args (ps.zip us)) (rv : Vals vs us) (sp : spP K T xc ps.length F vs H Q E)
    (h : ∀ B : Hp, Room k (callerA.deeper (envOfC qual (defScope st) s.heap.objs.size f (.ref c))) →
      PXs (cxOf (CX P w) P w K mg base N qual (defScope st) f (.ref c) callerA [] s H E) ⟨T, H, B⟩ ⟨E, xc⟩ (defBody st) b) :
    codeAny (model P w) callerA (.call (.ref f) args) (CR (CX P w) [] P w H s Q E) s := by
  obtain ⟨oc, od, kV, doc, pm, an, ct, osl, h1, h2, h3⟩ := Fu.ex
  subst h1
  obtain ⟨hl, B, ds, sit, hd, hk⟩ := sp
  refine fn_run h2 h3 Sc room e0 bt rv hl ⟨_, (h B (room.deeper _)).ps, B, env0 N.length ds, ?_, ?_⟩
  · refine rel0 (S := ⟨T, H, B⟩) sit hd ?_
    rw [hl, ← Sc.pre]
    exact List.length_take_le' _ _
  · rw [hF ds (by rw [← hd.length]; exact hl)] at hk
    have grow : ∀ {B' H' : Hp} {e : List Sl} {σ' : L2.St}, Rel K ⟨T, H, B⟩ B' e σ' H' → Grow K ⟨T, H, B⟩ B H B' H' := fun R => ⟨R.old, R.tab, R.b0, R.bh, R.nt, R.new⟩
    revert hk
    cases b (env0 N.length ds) with
    | nx e => exact fun hk B' H' σ' R sm => hk V.non B' H' (grow R) .non
    | rt d => exact fun hk B' H' v R sm dq => hk v B' H' (grow R) dq
    | ex x => exact fun hk => hk
    | bk e => exact fun hk => hk.elim
    | ct e => exact fun hk => hk.elim
    | bad => exact fun hk => hk.elim
/-- what a law's head must give for it -/
def LawG (l : PySem.W.OpenLaw) (w : World) (K : PySem.W.Frag) (n : Nat) (mg : Str → Option Value) (fa : Addr) (h : Heap) : Prop :=
  ∃ cs : List (Addr × Addr), (∀ p ∈ cs, h.get? p.2 = some { cls := .none, data := .fields #[] }) ∧ (∀ p ∈ cs, K.lookup p.2 = none) ∧ (∀ p ∈ cs, PySem.W.CodeHd h p.1 p.2) ∧
    ∀ (s₁ : Shared) (base : Heap) (H : Hp) (a : Addr) (ns : List Int), ns.length ≤ n → (∀ z ∈ ns, Builtin.Int.intBits z ≤ 1048576) → K.In base → base.Ns mainGlobals mg → (∀ p ∈ cs, LamX.TabB base mg p.1 p.2) →
      Env0 l.prog w K mg base callerA [] s₁ H → (∀ p ∈ cs, H p.2 = some (.tbl #[])) → SqL K H a (ns.map V.int) →
      codeAny (model l.prog w) callerA (.call (.ref fa) ⟨[.ref a], []⟩) (CR (CX l.prog w) [] l.prog w H s₁ (fun v _ => v = .bl true) fun _ _ _ => False) s₁
theorem walk_top {l : PySem.W.OpenLaw} {n : Nat} {q : Program} {free : List Str} {Xt : (Str → Option Value) → Heap → Prop} {Yt : World → Heap → Prop} {d : DefRec} (most : l.most = some n) (small : n ≤ sizeLine) (nodef : d.params.defaults = [])
    (F : ∀ (w : World) (mg : Str → Option Value) (fa : Addr) (h : Heap), Yt w h → h.Ns mainGlobals mg → mg d.name = some (.ref fa) → ∃ K : PySem.W.Frag, K.In h ∧ LawG l w K n mg fa h)
    (noerr : ∀ (w : World) (H : Hp) (s : Shared) (e : Value) (s' : Shared), CX l.prog w [] H s (fun _ _ _ => False) e s' → False) :
    PySem.W.WalkO q free Xt Yt l.row.toRowW d [] (fun f vs => PySem.call f vs) := by
  refine Att.attach_callB most nodef ?_
  intro w s₀ s₁ mg mb fa o pm cd doc a vs ns G Y ho hd hcd hmg hobj hnums hlen hbits hg
  obtain ⟨K, kin, cs, c1, c2, c3, run⟩ := F w mg fa _ Y G.T.g hmg
  exact top_call kin G.T.g G.T.b G.T.builtins G.T.nolimit hg c1 c2 c3 G.T.bmain hobj hnums (Nat.le_trans hlen small) (fun base H => run s₁ base H a ns hlen hbits) fun H e s' => noerr w H s₁ e s'
end Pf
namespace Pf
open PySem PySem.Spec PyProof.Rows L2 GxR GenW Gx
end Pf
namespace Pf
open PySem PySem.Spec PyProof.Rows L2 GxR GenW Gx
section
variable {X : Cx} {S : Se} {M : Xw}
/-! ### a method of a tuple that has no dict -/
/-- x is a tuple whose object is known to have no dict -/
def bareT (K : PySem.W.Frag) (x : V) (H : Hp) : Prop := ∃ (p : Addr) (ob : Obj) (u : HO) (xs : List V), x = .ref p ∧ H p = some (.frz ob u) ∧ ob.dict = none ∧ SqT K H p xs
theorem SqU.bare {K : PySem.W.Frag} {B H : Hp} {a : Addr} {vs : List V} (h : SqU K B a vs) (sm : Same B H) : bareT K (.ref a) H := by
  obtain ⟨sq, ob, u, e, d⟩ := h
  exact ⟨a, ob, u, vs, rfl, sm _ _ e, d, same_seqT sm sq⟩
/-! ### count and index of integers in a list or a tuple -/
end
end Pf
namespace Pf
open PySem PySem.Spec PyProof.Rows L2 GxR GenW Gx
end Pf
namespace Gx
open PySem PySem.Spec PyProof.Rows L2 GxR GenW
/-! ### sets of tuples of ints, made by a comprehension of one walk -/
abbrev TL := List (Addr × List Int)
end Gx
namespace Pf
open PySem PySem.Spec PyProof.Rows L2 GxR GenW Gx
/-! ### sets of tuples of ints, of which the number alone is asked -/
end Pf
namespace Pf
open PySem PySem.Spec PyProof.Rows L2 GxR GenW Gx
end Pf
namespace ZN
open PyProof.Rows PySem.Spec PySem
/-! ### zip(*rows): as many iterators as there are rows -/
/-- an iterator, its source, whether that is a tuple -/
structure Src where
  it : Addr
  l : Addr
  tup : Bool
def itA (h : Heap) (x : Src) (i : Nat) : Prop := ∃ o, h.get? x.it = some o ∧ (o.cls = .type (match x.tup with | true => "tuple_iterator" | false => "list_iterator") ∧ o.data = .fields #[.ref x.l, .int i 0])
def sqA (h : Heap) (x : Src) (items : Array Value) : Prop := match x.tup with
  | true => h.IsTuple x.l items
  | false => h.IsList x.l items
theorem itA.ext {h h' : Heap} {x : Src} {i : Nat} (a : itA h x i) (k : ∀ o, h.get? x.it = some o → h'.get? x.it = some o) : itA h' x i := by
  obtain ⟨o, ho, r⟩ := a
  exact ⟨o, k o ho, r⟩
theorem sqA.ext {h h' : Heap} {x : Src} {items : Array Value} (a : sqA h x items) (k : ∀ o, h.get? x.l = some o → h'.get? x.l = some o) : sqA h' x items := by
  unfold sqA at a ⊢
  split at a
  · obtain ⟨o, ho, r⟩ := a
    exact ⟨o, k o ho, r⟩
  · obtain ⟨o, ho, r⟩ := a
    exact ⟨o, k o ho, r⟩
structure Apart (z TI TO : Addr) (L : List Src) : Prop where
  TIz : TI ≠ z
  TOz : TO ≠ z
  TITO : TI ≠ TO
  it : ∀ x ∈ L, x.it ≠ z ∧ x.it ≠ TI ∧ x.it ≠ TO
  src : ∀ x ∈ L, x.l ≠ z ∧ x.l ≠ TO ∧ ∀ y ∈ L, x.l ≠ y.it
  nd : L.Pairwise fun x y => x.it ≠ y.it
/-- what stands when j of the iterators have been drawn from -/
structure Half (hp : Heap) (z TO : Addr) (L : List Src) (i j : Nat) (h : Heap) : Prop where
  its : ∀ m x, L[m]? = some x → itA h x (if m < j then i + 1 else i)
  size : h.objs.size = hp.objs.size
  keep : ∀ c o, c ≠ z → c ≠ TO → (∀ x ∈ L, c ≠ x.it) → hp.get? c = some o → h.get? c = some o
theorem Half.item {hp : Heap} {z TI TO : Addr} {L : List Src} {i j : Nat} {h h' : Heap} (H : Half hp z TO L i j h) (ap : Apart z TI TO L) {x : Src} (hx : L[j]? = some x) (a : itA h' x (i + 1)) (sb : Heap.SameBut x.it h h') : Half hp z TO L i (j + 1) h' := by
  refine ⟨fun m y hy => ?_, sb.1.trans H.size, fun c o c1 c2 c3 e => sb.extBut _ _ (c3 x (List.mem_of_getElem? hx)) (H.keep c o c1 c2 c3 e)⟩
  by_cases e : m = j
  · subst e
    rw [hx] at hy
    cases hy
    rw [if_pos (by omega)]
    exact a
  · have ne : y.it ≠ x.it := by
      have p := List.pairwise_iff_getElem.mp ap.nd
      obtain ⟨hm, rfl⟩ := List.getElem?_eq_some_iff.mp hy
      obtain ⟨hj, rfl⟩ := List.getElem?_eq_some_iff.mp hx
      rcases Nat.lt_or_gt_of_ne e with lt | gt
      · exact p m j hm hj lt
      · exact fun z => p j m hj hm gt z.symm
    have b := (H.its m y hy).ext fun o e => sb.extBut _ _ ne e
    by_cases lt : m < j
    · rw [if_pos lt] at b
      rw [if_pos (by omega)]
      exact b
    · rw [if_neg lt] at b
      rw [if_neg (by omega)]
      exact b
end ZN
namespace ZN
open PyProof.Rows PySem.Spec PySem
end ZN
namespace ZN
open PyProof.Rows PySem.Spec PySem
def sqB (h : Heap) (b : Bool) (l : Addr) (items : Array Value) : Prop := match b with
  | true => h.IsTuple l items
  | false => h.IsList l items
theorem sqB.ext {h h' : Heap} {b : Bool} {l : Addr} {items : Array Value} (a : sqB h b l items) (k : ∀ o, h.get? l = some o → h'.get? l = some o) : sqB h' b l items := by
  cases b with
  | true => obtain ⟨o, ho, r⟩ := a; exact ⟨o, k o ho, r⟩
  | false => obtain ⟨o, ho, r⟩ := a; exact ⟨o, k o ho, r⟩
end ZN
namespace ZN
open PySem PySem.Spec PyProof.Rows L2 Wk
end ZN
namespace ZN
open PySem PySem.Spec PyProof.Rows L2 Wk StX
end ZN
namespace Pf
open PySem PySem.Spec PyProof.Rows L2 GxR GenW Gx Wk ZN
def Pairs (K : PySem.W.Frag) (B : Hp) : List (Bool × Addr) → List (List D) → Prop
  | [], [] => True
  | x :: ls, ds :: r => (∃ ys, sqK (!x.1) K B x.2 ys ∧ DqAll K B ys ds) ∧ Pairs K B ls r
  | _, _ => False
theorem Pairs.len {K : PySem.W.Frag} {B : Hp} : ∀ {ls : List (Bool × Addr)} {xss : List (List D)}, Pairs K B ls xss → ls.length = xss.length
  | [], [], _ => rfl
  | x :: ls, ds :: r, h => by rw [List.length_cons, List.length_cons, Pairs.len h.2]
end Pf
namespace Pf
open PySem PySem.Spec PyProof.Rows L2 GxR GenW Gx Wk
section
variable {X : Cx} {S : Se} {M : Xw}
/-! ### displays that take a sequence in -/
/-! ### any(xs), all(xs) of a list of ints and truths -/
inductive Tv : List V → List Bool → Prop
  | nil : Tv [] []
  | bl {b : Bool} {xs : List V} {bs : List Bool} : Tv xs bs → Tv (V.bl b :: xs) (b :: bs)
  | int {n : Int} {xs : List V} {bs : List Bool} : Tv xs bs → Tv (V.int n :: xs) ((n != 0) :: bs)
theorem Tv.len : ∀ {xs : List V} {bs : List Bool}, Tv xs bs → xs.length = bs.length
  | _, _, .nil => rfl
  | _, _, .bl h => by rw [List.length_cons, List.length_cons, h.len]
  | _, _, .int h => by rw [List.length_cons, List.length_cons, h.len]
theorem tv_at {prog : Program} {w : World} {A : Around} {E : Value → Shared → Prop} {s : Shared} {Q : Bool → Shared → Prop} : ∀ {xs : List V} {bs : List Bool} {its : List Value} {i : Nat} {v : Value}, Tv xs bs → Vals xs its → its[i]? = some v → Q (bs.getD i false) s → wpAny (model prog w) A (truthy v) Q E s
  | _, _, its, i, v, .nil, r, h, _ => by
    cases r
    rw [List.getElem?_nil] at h
    cases h
  | _, _, its, 0, v, .bl t, r, h, q => by
    cases r with
    | cons r rr =>
      cases h
      cases r
      exact wpAny_truthy_bool q
  | _, _, its, 0, v, .int t, r, h, q => by
    cases r with
    | cons r rr =>
      cases h
      obtain ⟨tk, e⟩ := r
      cases e
      exact P.truthy_int q
  | _, _, its, i + 1, v, .bl t, r, h, q => by
    cases r with
    | cons r rr => exact tv_at t rr h q
  | _, _, its, i + 1, v, .int t, r, h, q => by
    cases r with
    | cons r rr => exact tv_at t rr h q
theorem cr_allT (hc : X.calm = true) : CallR X (.builtin "all") fun vs H Q => ∃ (a : Addr) (xs : List V) (bs : List Bool), vs = [V.ref a] ∧ SqL X.K H a xs ∧ Tv xs bs ∧ Q (.bl (bs.all id)) H := by
  intro pins s σ H vs us Qv I r h
  obtain ⟨a, xs, bs, rfl, hs, t, q⟩ := h
  obtain ⟨its, rv, hl, _⟩ := (I.list hs)
  rw [Vals.ref1 r]
  apply call_all_walk
  refine iter_any hl.isList fun s₂ e2 st hne => ?_
  subst e2
  refine ⟨_, _, _, _, _, _, _, rfl, Walks.list (A := X.A.in1) (I.ok.hd hc) _ a hne its.toArray, st, fun i v s Q E hv hq => tv_at t rv (by simpa using hv) hq, fun h' tk hk => ?_⟩
  refine ⟨.bl (bs.all id), H, I.kept fun b o eo => hk b o (fun hm => ?_) (Heap.get?_push_of_some _ eo), ?_, q⟩
  · obtain e1 | hm := List.mem_cons.mp hm
    · exact (Nat.lt_irrefl _ (e1 ▸ Heap.lt_size eo)).elim
    · exact nomatch hm
  · show (Value.bool _) = (Value.bool _)
    have n : its.toArray.size = bs.length := by rw [List.size_toArray, ← rv.length, t.len]
    rw [n, L2.all_range]
def tvs : List D → Option (List Bool)
  | [] => some []
  | .bl b :: r => (tvs r).map (b :: ·)
  | .int n :: r => (tvs r).map ((n != 0) :: ·)
  | _ :: _ => none
theorem tv_of {K : PySem.W.Frag} {B : Hp} : ∀ {vs : List V} {ds : List D} {bs : List Bool}, DqAll K B vs ds → tvs ds = some bs → Tv vs bs
  | _, [], _, .nil, h => by cases h; exact .nil
  | _, .bl b :: ds, bs, .cons h1 h2, h => by
    have h : (tvs ds).map (b :: ·) = some bs := h
    cases q : tvs ds with
    | none => rw [q] at h; exact nomatch h
    | some cs =>
      rw [q] at h
      cases h
      cases h1
      exact .bl (tv_of h2 q)
  | _, .int n :: ds, bs, .cons h1 h2, h => by
    have h : (tvs ds).map ((n != 0) :: ·) = some bs := h
    cases q : tvs ds with
    | none => rw [q] at h; exact nomatch h
    | some cs =>
      rw [q] at h
      cases h
      cases h1
      exact .int (tv_of h2 q)
  | _, .non :: _, _, _, h => by cases h
  | _, .str _ :: _, _, _, h => by cases h
  | _, .lst _ :: _, _, _, h => by cases h
  | _, .tup _ :: _, _, _, h => by cases h
  | _, .scr _ :: _, _, _, h => by cases h
  | _, .rng _ _ :: _, _, _, h => by cases h
  | _, .st _ :: _, _, _, h => by cases h
def cAllL : List D → Option D
  | [.lst ds] => (tvs ds).map fun bs => .bl (bs.all id)
  | _ => none
theorem cd_allL (hc : X.calm = true) : CalD X S (.builtin "all") cAllL := ⟨_, cr_allT hc, fun B H vs ds z Q s hd hc w => by
  unfold cAllL at hc
  split at hc
  · rename_i xs
    cases q : tvs xs with
    | none => rw [q] at hc; exact nomatch hc
    | some bs =>
      rw [q] at hc
      cases hc
      obtain ⟨v, rfl, hv⟩ := dqall_one hd
      cases hv with
      | lst h1 h2 => exact ⟨_, _, bs, rfl, SqL.of (s.bh _ _ h1), tv_of h2 q, w.now s (.bl _)⟩
  · exact nomatch hc⟩
end
end Pf
namespace Tsr
open PyProof.Rows PySem.Spec PySem
/-! ### lists of tuples of ints, sorted downwards -/
section
variable {A : Around} {prog : Program} {w : World} {s : Shared} {E : Value → Shared → Prop}
/-- tuples of d ints each -/
def Tps (h : Heap) (d : Nat) (k : Value → List Int) (vs : List Value) : Prop := ∀ v ∈ vs, TS.TupInts h v (k v) ∧ (k v).length = d
theorem Tps.keeps {h h' : Heap} {d : Nat} {k : Value → List Int} {vs : List Value} (x : Tps h d k vs) (q : ∀ b o, h.get? b = some o → o.cls = .type "tuple" → h'.get? b = some o) : Tps h' d k vs := fun v hv => ⟨(x v hv).1.keeps q, (x v hv).2⟩
end
end Tsr
namespace Pf
open PySem PySem.Spec PyProof.Rows L2 GxR GenW Gx Wk
/-! ### sorted(xs, reverse=True), tuples of ints of one length -/
end Pf
namespace L2
open PyProof.Rows PySem.Spec PySem
/-! ### set(xs) of a list of ints, its order kept in mind -/
end L2
namespace Pf
open PySem PySem.Spec PyProof.Rows L2 GxR GenW Gx Wk
end Pf
namespace Pf
open PySem PySem.Spec PyProof.Rows L2 GxR GenW Gx Wk
end Pf
namespace ZN
open PySem PySem.Spec PyProof.Rows L2 Wk StX
end ZN
namespace Pf
open PySem PySem.Spec PyProof.Rows L2 GxR GenW Gx Wk ZN
end Pf
namespace Pf
open PySem PySem.Spec PyProof.Rows L2 GxR GenW Gx
/-! ### lists of lists of one's own -/
theorem mem_ne {α : Type} {l : List α} {a b : α} (ha : a ∈ l) (hb : b ∉ l) : a ≠ b := by
  intro z
  subst z
  exact hb ha
def Sl.isRo : Sl → Bool
  | .ro _ => true
  | _ => false
def okE (i : Nat) (e : List Sl) : Bool := (match e[i]? with | some .no => true | _ => false) && e.all fun s => !s.isRo
theorem okE_no {i : Nat} {e : List Sl} (h : okE i e = true) : e[i]? = some .no := by
  unfold okE at h
  rw [Bool.and_eq_true] at h
  obtain ⟨h, _⟩ := h
  split at h
  · assumption
  · cases h
theorem okE_ro {i : Nat} {e : List Sl} (h : okE i e = true) : ∀ s ∈ e, s.isRo = false := fun s hs => by
  unfold okE at h
  rw [Bool.and_eq_true, List.all_eq_true] at h
  simpa using h.2 s hs
theorem okE_prv {i : Nat} {e : List Sl} (h : okE i e = true) {σ : L2.St} {a : Addr} (p : PrvA e σ a) : OwnA e σ a := by
  obtain ⟨j, s, h1, h2, h3⟩ := p
  refine ⟨j, s, h1, ?_, h3⟩
  have r := okE_ro h s (List.mem_of_getElem? h1)
  cases s with
  | ro xs => cases r
  | ow w => rfl
  | no => cases h2
  | im d => cases h2
theorem okE_set {i j : Nat} {e : List Sl} {d : D} (h : okE i e = true) (n : j ≠ i) : okE i (e.set j (.im d)) = true := by
  have h1 := okE_no h
  unfold okE
  rw [Bool.and_eq_true, List.all_eq_true, List.getElem?_set_ne n, h1]
  refine ⟨rfl, fun s hs => ?_⟩
  rcases List.mem_or_eq_of_mem_set hs with hs | rfl
  · rw [okE_ro h s hs]; rfl
  · rfl
/-- a place that is no one's -/
structure Pr (S : Se) (B : Hp) (e : List Sl) (σ : L2.St) (a : Addr) : Prop where
  h0 : S.H0 a = none
  b : B a = none
  no : ¬ PrvA e σ a
def InAll (K : PySem.W.Frag) (B H : Hp) : List Addr → List (List D) → Prop
  | [], [] => True
  | q :: qs, xs :: r => (∃ vs, H q = some (.lst vs) ∧ DqAll K B vs xs) ∧ InAll K B H qs r
  | _, _ => False
theorem InAll.live {K : PySem.W.Frag} {B H : Hp} : ∀ {qs : List Addr} {xss : List (List D)}, InAll K B H qs xss → ∀ q ∈ qs, ∃ vs, H q = some (.lst vs)
  | [], [], _, q, h => nomatch h
  | x :: qs, xs :: r, h, q, hq => by
    obtain rfl | hq := List.mem_cons.mp hq
    · obtain ⟨⟨vs, e, _⟩, _⟩ := h
      exact ⟨vs, e⟩
    · exact InAll.live h.2 q hq
theorem InAll.len {K : PySem.W.Frag} {B H : Hp} : ∀ {qs : List Addr} {xss : List (List D)}, InAll K B H qs xss → qs.length = xss.length
  | [], [], _ => rfl
  | _ :: qs, _ :: r, h => by rw [List.length_cons, List.length_cons, InAll.len h.2]
theorem InAll.mono {K : PySem.W.Frag} {B H B' H' : Hp} (sm : Same B B') : ∀ {qs : List Addr} {xss : List (List D)}, InAll K B H qs xss → (∀ q ∈ qs, ∀ vs, H q = some (.lst vs) → H' q = some (.lst vs)) → InAll K B' H' qs xss
  | [], [], _, _ => trivial
  | x :: qs, xs :: r, h, k => by
    obtain ⟨⟨vs, e, d⟩, h2⟩ := h
    exact ⟨⟨vs, k x List.mem_cons_self vs e, d.mono sm⟩, InAll.mono sm h2 fun q hq => k q (List.mem_cons_of_mem _ hq)⟩
theorem InAll.at {K : PySem.W.Frag} {B H : Hp} : ∀ {qs : List Addr} {xss : List (List D)} {m : Nat} {xs : List D}, InAll K B H qs xss → xss[m]? = some xs → ∃ q vs, qs[m]? = some q ∧ H q = some (.lst vs) ∧ DqAll K B vs xs
  | [], [], m, xs, _, e => (by simp at e)
  | q :: qs, y :: r, 0, xs, h, e => by
    simp at e
    subst e
    obtain ⟨⟨vs, a, b⟩, _⟩ := h
    exact ⟨q, vs, rfl, a, b⟩
  | q :: qs, y :: r, m + 1, xs, h, e => by
    simp at e
    obtain ⟨q', vs, a, b, c⟩ := InAll.at h.2 e
    exact ⟨q', vs, by simpa using a, b, c⟩
theorem InAll.set {K : PySem.W.Frag} {B H : Hp} {q : Addr} {xs : List D} {vs : List V} (d : DqAll K B vs xs) : ∀ {qs : List Addr} {xss : List (List D)} {m : Nat}, InAll K B H qs xss → qs.Nodup → qs[m]? = some q → InAll K B (upd H q (.lst vs)) qs (xss.set m xs)
  | [], [], m, _, _, e => (by simp at e)
  | x :: qs, y :: r, 0, h, nd, e => by
    simp at e
    subst e
    refine ⟨⟨vs, upd_same, d⟩, h.2.mono (Same.refl B) fun a ha us hu => ?_⟩
    rw [upd_ne (mem_ne ha (List.nodup_cons.mp nd).1)]
    exact hu
  | x :: qs, y :: r, m + 1, h, nd, e => by
    simp at e
    have ne : x ≠ q := fun z => (List.nodup_cons.mp nd).1 (z ▸ List.mem_of_getElem? e)
    obtain ⟨⟨us, a, b⟩, h2⟩ := h
    exact ⟨⟨us, by rw [upd_ne ne]; exact a, b⟩, InAll.set d h2 (List.nodup_cons.mp nd).2 e⟩
/-- slot i holds a list of lists, all of its own -/
structure Nst (K : PySem.W.Frag) (S : Se) (B H : Hp) (e : List Sl) (σ : L2.St) (i : Nat) (p : Addr) (qs : List Addr) (xss : List (List D)) : Prop where
  rel : Rel K S B e σ H
  ok : okE i e = true
  at' : σ[i]? = some (some (V.ref p))
  out : H p = some (.lst (qs.map V.ref))
  pr : ∀ a ∈ p :: qs, Pr S B e σ a
  nd : (p :: qs).Nodup
  inn : InAll K B H qs xss
section
variable {K : PySem.W.Frag} {S : Se} {B H B' H' : Hp} {e e' : List Sl} {σ : L2.St} {i : Nat} {p : Addr} {qs : List Addr} {xss : List (List D)}
theorem Nst.live (N : Nst K S B H e σ i p qs xss) : ∀ a ∈ p :: qs, ∃ vs, H a = some (.lst vs) := fun a ha => by
  obtain rfl | ha := List.mem_cons.mp ha
  · exact ⟨_, N.out⟩
  · exact N.inn.live a ha
theorem Nst.step (N : Nst K S B H e σ i p qs xss) (R : Rel K S B' e' σ H') (X : Ext e e' σ B H B' H') (ok : okE i e' = true) : Nst K S B' H' e' σ i p qs xss := by
  have kept : ∀ a ∈ p :: qs, ∀ vs, H a = some (.lst vs) → H' a = some (.lst vs) := fun a ha vs h => X.at h (PrvA.own (N.pr a ha).no) (fun ps z => by cases z)
  refine ⟨R, ok, N.at', kept p List.mem_cons_self _ N.out, fun a ha => ⟨(N.pr a ha).h0, ?_, fun z => (N.pr a ha).no (X.sub a (okE_prv ok z)).prv⟩, N.nd, N.inn.mono X.same fun q hq => kept q (List.mem_cons_of_mem _ hq)⟩
  cases z : B' a with
  | none => rfl
  | some o =>
    rcases X.new a o z with y | y | y
    · rw [(N.pr a ha).b] at y; cases y
    · obtain ⟨vs, l⟩ := N.live a ha
      rw [l] at y; cases y
    · exact absurd y (PrvA.own (N.pr a ha).no)
theorem prvA_set {j : Nat} {d : D} {v : V} {a : Addr} (h : PrvA (e.set j (.im d)) (σ.set j (some v)) a) : PrvA e σ a := by
  obtain ⟨k, s, h1, h2, h3⟩ := h
  rcases env_set h1 with ⟨rfl, rfl⟩ | ⟨hne, h1⟩
  · cases h2
  · rw [List.getElem?_set_ne (Ne.symm hne)] at h3
    exact ⟨k, s, h1, h2, h3⟩
theorem Nst.set (N : Nst K S B H e σ i p qs xss) {j : Nat} (n : j ≠ i) {v : V} {d : D} (hd : Dq K B v d) : Nst K S B H (e.set j (.im d)) (σ.set j (some v)) i p qs xss :=
  ⟨N.rel.setIm j hd, okE_set N.ok n, by rw [List.getElem?_set_ne n]; exact N.at', N.out, fun a ha => ⟨(N.pr a ha).h0, (N.pr a ha).b, fun z => (N.pr a ha).no (prvA_set z)⟩, N.nd, N.inn⟩
end
/-! ### a comprehension whose items are lists of one's own -/
end Pf
namespace Pf
open PySem PySem.Spec PyProof.Rows L2 GxR GenW Gx
/-! ### counting in a list of lists of one's own -/
end Pf
namespace Pf
open PySem PySem.Spec PyProof.Rows L2 GxR GenW Gx
end Pf
namespace Pf
open PySem PySem.Spec PyProof.Rows L2 GxR GenW Gx
end Pf
/-! what is in an own list, and a comprehension that walks an own list: neither makes it data -/
namespace Pf
open PySem PySem.Spec PyProof.Rows L2 GxR GenW Gx Wk ZN
end Pf
/-! any(xs) of a list or a tuple of ints and truths -/
namespace Pf
open PySem PySem.Spec PyProof.Rows L2 GxR GenW Gx Wk
end Pf
namespace Pf
open L2 PySem PySem.Spec PyProof.Rows
/-! evaluation of cores -/
theorem rSeq_nx {f g : List Sl → Ro} {env e : List Sl} (h : f env = .nx e) : rSeq f g env = g e := by unfold rSeq; rw [h]; rfl
theorem rRet_ok {f : List Sl → Rs D} {env e : List Sl} {d : D} (h : f env = .ok d e) : rRet f env = .rt d := by unfold rRet; rw [h]; rfl
theorem rSet_ok {i : Nat} {f : List Sl → Rs D} {env e : List Sl} {d : D} (h : f env = .ok d e) : rSet i f env = .nx (e.set i (.im d)) := by unfold rSet; rw [h]; rfl
theorem rSetO_ok {i : Nat} {f : List Sl → Rs Ow} {env e : List Sl} {w : Ow} (h : f env = .ok w e) : rSetO i f env = .nx (e.set i (.ow w)) := by unfold rSetO; rw [h]; rfl
theorem rExpr_ok {f : List Sl → Rs D} {env e : List Sl} {d : D} (h : f env = .ok d e) : rExpr f env = .nx e := by unfold rExpr; rw [h]; rfl
theorem rIf_t {t : List Sl → Rs Bool} {f g : List Sl → Ro} {env e : List Sl} (h : t env = .ok true e) : rIf t f g env = f e := by unfold rIf; rw [h]; rfl
theorem rIf_f {t : List Sl → Rs Bool} {f g : List Sl → Ro} {env e : List Sl} (h : t env = .ok false e) : rIf t f g env = g e := by unfold rIf; rw [h]; rfl
theorem rFor_ok {f : List Sl → Rs (List D)} {g : D → List Sl → Option (List Sl)} {b : List Sl → Ro} {env e : List Sl} {ds : List D} (h : f env = .ok ds e) : rFor f g b env = forR g b ds e := by unfold rFor; rw [h]; rfl
theorem fAsB_ok {f : List Sl → Rs D} {env e : List Sl} {b : Bool} (h : f env = .ok (.bl b) e) : fAsB f env = .ok b e := by unfold fAsB; rw [h]; rfl
theorem f2_ok {f g : List Sl → Rs D} {c : D → D → Option D} {env e1 e2 : List Sl} {x y z : D} (h : f env = .ok x e1) (h' : g e1 = .ok y e2) (q : c x y = some z) : f2 f g c env = .ok z e2 := by
  unfold f2; rw [h]; show Rs.bind (g e1) _ = _; rw [h']; show Rs.opt (c x y) e2 = _; rw [q]; rfl
theorem vCall_ok {n : Nat} {F : List D → Rf} {g : List Sl → Rs (List D)} {env e : List Sl} {ds : List D} {d : D} (h : g env = .ok ds e) (hl : ds.length = n) (q : F ds = .ok d) : vCall n F g env = .ok d e := by
  unfold vCall; rw [h]; show (if ds.length = n then (F ds).rs e else Rs.bad) = _; rw [if_pos hl, q]; rfl
theorem fCB_ok {g : List Sl → Rs (List D)} {c : List D → Option D} {env e : List Sl} {ds : List D} {d : D} (h : g env = .ok ds e) (q : c ds = some d) : fCB g c env = .ok d e := by
  unfold fCB; rw [h]; show Rs.opt (c ds) e = _; rw [q]; rfl
theorem wRng1_ok {g : List Sl → Rs (List D)} {env e : List Sl} {ds ys : List D} (h : g env = .ok ds e) (q : rng1 ds = some ys) : wRng1 g env = .ok ys e := by
  unfold wRng1; rw [h]; show Rs.opt (rng1 ds) e = _; rw [q]; rfl
theorem rng1_eq {j : Int} (h : j < 2 ^ 62) (h0 : -(2 ^ 62) ≤ j) : rng1 [.int j] = some ((List.range j.toNat).map fun (i : Nat) => .int (0 + (i : Int))) := by
  unfold rng1
  exact if_pos ⟨h0, h⟩
/-! ### turns -/
/-! ### for -/
/-! ### equality of flat data -/
theorem sh_str {a : Str} (h : PyData.strOk a = true) : SeqAt.shaped (.str a) = true := by
  unfold SeqAt.shaped
  simp [PyData.canLay0, PyData.depth, h]
theorem sh_int (a : Int) : SeqAt.shaped (.int a) = true := by
  unfold SeqAt.shaped
  simp [PyData.canLay0, PyData.depth]
theorem eqv_str (a b : Str) : PyData.eqv (.str a) (.str b) = (a == b) := by
  simp [PyData.eqv]
theorem eqv_int (a b : Int) : PyData.eqv (.int a) (.int b) = (a == b) := by
  simp [PyData.eqv]
theorem dEq_str {a b : Str} (ha : PyData.strOk a = true) (hb : PyData.strOk b = true) : dEq (.str a) (.str b) = some (.bl (a == b)) := by
  unfold dEq D.eqv
  show (if (SeqAt.shaped (.str a) && SeqAt.shaped (.str b)) = true then some (PyData.eqv (.str a) (.str b)) else none).map D.bl = _
  rw [sh_str ha, sh_str hb, eqv_str]
  rfl
theorem dEq_int (a b : Int) : dEq (.int a) (.int b) = some (.bl (a == b)) := by
  unfold dEq D.eqv
  show (if (SeqAt.shaped (.int a) && SeqAt.shaped (.int b)) = true then some (PyData.eqv (.int a) (.int b)) else none).map D.bl = _
  rw [sh_int, sh_int, eqv_int]
  rfl
theorem dNe_int (a b : Int) : dNe (.int a) (.int b) = some (.bl (!(a == b))) := by
  unfold dNe D.eqv
  show (if (SeqAt.shaped (.int a) && SeqAt.shaped (.int b)) = true then some (PyData.eqv (.int a) (.int b)) else none).map (fun b => D.bl (!b)) = _
  rw [sh_int, sh_int, eqv_int]
  rfl
end Pf
/-! try with several clauses, some of which have a name -/
namespace Pf
open PySem PySem.Spec PyProof.Rows L2 GxR GenW Gx Wk
/-- a clause: its class, the slot of its name, what its suite wants -/
structure Cl where
  c : Value
  i : Option Nat
  ts : Addr → Value → Option Addr → TS
def Cl.ends (q : Cl) (D0 : Ends) : Ends := match q.i with
  | none => D0
  | some i => { nx := fun z G => D0.nx (z.set i none) G, rt := D0.rt, bk := fun z G => D0.bk (z.set i none) G, ct := fun z G => D0.ct (z.set i none) G }
def Cl.sg (q : Cl) (z : L2.St) (a : Addr) : L2.St := match q.i with
  | none => z
  | some i => z.set i (some (.ref a))
/-- what the clauses want of an error, from the first on -/
def wCl (K : PySem.W.Frag) (Wout : WX) (D0 : Ends) : List Cl → WX
  | [] => Wout
  | q :: r => fun cls d z G => ∃ t, PySem.W.exmOne K cls q.c = some t ∧ (t = true → ∀ a, G a = none → q.ts a cls d (q.ends D0) (q.sg z a) G) ∧ (t = false → wCl K Wout D0 r cls d z G)
def NmOk (X : Cx) : Option Str → Option Nat → Prop
  | none, none => True
  | some n, some i => X.N.Nodup ∧ X.N[i]? = some n ∧ X.env.kindOf n = some .local
  | _, _ => False
inductive ClOk (X : Cx) : List ExceptHandler → List Cl → Prop
  | nil : ClOk X [] []
  | cons {x : Str} {o : Option Str} {q : Cl} {s0 : Stmt} {ss : List Stmt} {p1 p2 : Pos} {hds : List ExceptHandler} {l : List Cl} (hc : Names X x q.c) (hn : NmOk X o q.i)
      (go : ∀ (a : Addr) (ob : Obj) (cls : Value) (d : Option Addr) (pn : List (Addr × Obj)), Zc cls d ob → (∃ us, ob.data = .fields us) → PSs (X.suite a ((a, ob) :: pn)) (s0 :: ss) (q.ts a cls d)) (r : ClOk X hds l) :
      ClOk X (.ExceptHandler (some (.Name x p1)) o (s0 :: ss) p2 :: hds) (q :: l)
end Pf
/-! try with several clauses, over data -/
namespace Pf
open PySem PySem.Spec PyProof.Rows L2 GxR GenW Gx Wk
/-- what a body makes of the slots, where an error keeps the slots at which it was raised -/
inductive Rx where
  | nx (env : List Sl) | rt (d : D) | ex (x : Exn) (env : List Sl) | bad
def PostX (K : PySem.W.Frag) (S : Se) (M : Xw) (W : WX) (B : Hp) (r : Rx) (D0 : Ends) : Prop :=
  match r with
  | .nx e => ∀ B' H' σ', Rel K S B' e σ' H' → Same B B' → D0.nx σ' H'
  | .rt d => ∀ B' H' v, Rel K S B' [] [] H' → Same B B' → Dq K B' v d → D0.rt v H'
  | .ex x e => x.fs = [] ∧ ∃ C, M.xc x.cls = some C ∧ ∀ B' H' σ', Rel K S B' e σ' H' → Same B B' → W C none σ' H'
  | .bad => False
def semX (K : PySem.W.Frag) (S : Se) (M : Xw) (W : WX) (f : List Sl → Rx) : TS := fun D0 σ H => ∃ B env, Rel K S B env σ H ∧ PostX K S M W B (f env) D0
structure PTs (X : Cx) (S : Se) (M : Xw) (st : Stmt) (f : List Sl → Rx) : Prop where
  ps : ∀ (W : WX) (pn : List (Addr × Obj)) (xe : Value → Shared → Prop), Takes (X.tr pn xe) W → PS (X.tr pn xe) st (semX X.K S M W f)
def xSeq (f g : List Sl → Rx) (env : List Sl) : Rx := match f env with
  | .nx e => g e
  | .rt d => .rt d
  | .ex x e => .ex x e
  | .bad => .bad
section
variable {X : Cx} {S : Se} {M : Xw}
theorem PostX.mono {W : WX} {B B1 : Hp} {r : Rx} {D0 : Ends} (h : PostX X.K S M W B r D0) (sm : Same B B1) : PostX X.K S M W B1 r D0 := by
  cases r with
  | nx e => exact fun B' H' σ' R s => h B' H' σ' R (sm.trans s)
  | rt d => exact fun B' H' v R s => h B' H' v R (sm.trans s)
  | ex x e =>
    obtain ⟨h0, C, h1, h2⟩ := h
    exact ⟨h0, C, h1, fun B' H' σ' R s => h2 B' H' σ' R (sm.trans s)⟩
  | bad => exact h
theorem PostX.seq {W : WX} {B : Hp} {f g : List Sl → Rx} {env : List Sl} {D0 : Ends} (h : PostX X.K S M W B (xSeq f g env) D0) :
    PostX X.K S M W B (f env) { nx := semX X.K S M W g D0, rt := D0.rt, bk := D0.bk, ct := D0.ct } := by
  unfold xSeq at h
  cases q : f env with
  | nx e => rw [q] at h; exact fun B' H' σ' R s => ⟨B', e, R, PostX.mono h s⟩
  | rt d => rw [q] at h; exact h
  | ex x e => rw [q] at h; exact h
  | bad => rw [q] at h; exact h
/-! ### clauses -/
/-- of a class of errors: none: not told; some none: the clause doesn't take it; else what the suite makes of the slots -/
abbrev CaseR := List (Str × Option (List Sl → Ro))
abbrev ClR := List (Option Nat × CaseR)
def lkC : CaseR → Str → Option (Option (List Sl → Ro))
  | [], _ => none
  | (n, h) :: r, x => if x = n then some h else lkC r x
def suiteN (h : List Sl → Ro) (e : List Sl) : Ro := match h e with
  | .nx e2 => .nx e2
  | .rt d => .rt d
  | _ => .bad
def suiteI (i : Nat) (h : List Sl → Ro) (e : List Sl) : Ro := if i < e.length then (match h (e.set i .no) with
    | .nx e2 => .nx (e2.set i .no)
    | .rt d => .rt d
    | _ => .bad) else .bad
def suiteR : Option Nat → (List Sl → Ro) → List Sl → Ro
  | none => suiteN
  | some i => suiteI i
def clR : ClR → Str → List Sl → Ro
  | [], _, _ => .bad
  | (i, cs) :: r, x, e => match lkC cs x with
    | none => .bad
    | some none => clR r x e
    | some (some h) => suiteR i h e
/-- the suite: the slot of the name, if there is one, holds the error at a -/
def relO (K : PySem.W.Frag) (S : Se) (M : Xw) (i : Option Nat) (a : Addr) (f : List Sl → Ro) : TS := fun D0 σ H => (∀ j, i = some j → σ[j]? = some (some (V.ref a))) ∧ semS K S M f D0 σ H
inductive CaseOk (X : Cx) (S : Se) (M : Xw) (i : Option Nat) (c : Value) (su : List Stmt) : CaseR → Prop
  | nil : CaseOk X S M i c su []
  | no {n : Str} {C : Addr} {r : CaseR} (hx : M.xc n = some (.ref C)) (hm : PySem.W.exmOne X.K (.ref C) c = some false) (t : CaseOk X S M i c su r) : CaseOk X S M i c su ((n, none) :: r)
  | yes {n : Str} {C : Addr} {r : CaseR} {h : List Sl → Ro} (hx : M.xc n = some (.ref C)) (hm : PySem.W.exmOne X.K (.ref C) c = some true)
      (go : ∀ (a : Addr) (oe : Obj) (pn : List (Addr × Obj)), Zc (.ref C) none oe → (∃ us, oe.data = .fields us) → PSs (X.suite a ((a, oe) :: pn)) su (relO X.K S M.calm i a h)) (t : CaseOk X S M i c su r) : CaseOk X S M i c su ((n, some h) :: r)
inductive ClD (X : Cx) (S : Se) (M : Xw) : List ExceptHandler → ClR → Prop
  | nil : ClD X S M [] []
  | cons {x : Str} {c : Value} {o : Option Str} {i : Option Nat} {s0 : Stmt} {ss : List Stmt} {p1 p2 : Pos} {hds : List ExceptHandler} {cs : CaseR} {l : ClR} (hc : Names X x c) (hn : NmOk X o i) (go : CaseOk X S M i c (s0 :: ss) cs) (r : ClD X S M hds l) :
      ClD X S M (.ExceptHandler (some (.Name x p1)) o (s0 :: ss) p2 :: hds) ((i, cs) :: l)
def tsOf (K : PySem.W.Frag) (S : Se) (M : Xw) (i : Option Nat) (cs : CaseR) (a : Addr) (cls : Value) (d : Option Addr) : TS := fun D1 σ H =>
  d = none ∧ ∃ n h, M.xc n = some cls ∧ lkC cs n = some (some h) ∧ relO K S M.calm i a h D1 σ H
theorem CaseOk.at {i : Option Nat} {c : Value} {su : List Stmt} : ∀ {cs : CaseR}, CaseOk X S M i c su cs → ∀ {n : Str} {q : Option (List Sl → Ro)}, lkC cs n = some q →
    ∃ C : Addr, M.xc n = some (.ref C) ∧ PySem.W.exmOne X.K (.ref C) c = some q.isSome ∧ ∀ h, q = some h → ∀ (a : Addr) (oe : Obj) (pn : List (Addr × Obj)), Zc (.ref C) none oe → (∃ us, oe.data = .fields us) → PSs (X.suite a ((a, oe) :: pn)) su (relO X.K S M.calm i a h)
  | _, .nil, n, q, e => by cases e
  | _, .no (n := n0) hx hm t, n, q, e => by
    unfold lkC at e
    split at e
    · rename_i hn
      cases e
      subst hn
      exact ⟨_, hx, hm, fun h z => by cases z⟩
    · exact CaseOk.at t e
  | _, .yes (n := n0) hx hm go t, n, q, e => by
    unfold lkC at e
    split at e
    · rename_i hn
      cases e
      subst hn
      exact ⟨_, hx, hm, fun h z => by cases z; exact go⟩
    · exact CaseOk.at t e
theorem ClD.cls : ∀ {hds : List ExceptHandler} {hs : ClR}, ClD X S M hds hs → ∃ L, ClOk X hds L ∧ ∀ (D0 : Ends) (Wout : WX) (n : Str) (C : Value) (e : List Sl) (B H : Hp) (σ : L2.St), M.xc n = some C → Rel X.K S B e σ H → PostS X.K S M B (clR hs n e) D0 → wCl X.K Wout D0 L C none σ H
  | _, _, .nil => ⟨[], .nil, fun D0 Wout n C e B H σ hC R P => P.elim⟩
  | _, _, .cons (c := c) (i := i) (cs := cs) hc hn go r => by
    obtain ⟨L, h1, h2⟩ := ClD.cls r
    refine ⟨⟨c, i, tsOf X.K S M i cs⟩ :: L, .cons hc hn (fun a ob cls d pn hz hf => ⟨fun pins s σ H D1 I q => ?_⟩) h1, fun D0 Wout n C e B H σ hC R P => ?_⟩
    · obtain ⟨rfl, n, h, hx, lk, rel⟩ := q
      obtain ⟨C, c1, c2, c3⟩ := go.at lk
      rw [hx] at c1
      cases c1
      exact (c3 h rfl a ob pn hz hf).run pins s σ H D1 I rel
    · unfold clR at P
      cases lk : lkC cs n with
      | none => rw [lk] at P; exact P.elim
      | some q =>
        rw [lk] at P
        obtain ⟨C', c1, c2, c3⟩ := go.at lk
        rw [hC] at c1
        cases c1
        cases q with
        | none => exact ⟨false, c2, fun z => (by cases z), fun _ => h2 D0 Wout n _ e B H σ hC R P⟩
        | some h =>
          refine ⟨true, c2, fun _ a na => ⟨rfl, n, h, hC, lk, ?_⟩, fun z => by cases z⟩
          have P : PostS X.K S M B (suiteR i h e) D0 := P
          cases i with
          | none =>
            refine ⟨fun j z => (by cases z), B, e, R, ?_⟩
            have P : PostS X.K S M B (suiteN h e) D0 := P
            unfold suiteN at P
            cases qh : h e with
            | nx e2 => rw [qh] at P; exact P
            | rt d => rw [qh] at P; exact P
            | bk e2 => rw [qh] at P; exact P.elim
            | ct e2 => rw [qh] at P; exact P.elim
            | ex x => rw [qh] at P; exact P.elim
            | bad => rw [qh] at P; exact P.elim
          | some i =>
            have P : PostS X.K S M B (suiteI i h e) D0 := P
            unfold suiteI at P
            by_cases hi : i < e.length
            · rw [if_pos hi] at P
              refine ⟨fun j z => ?_, B, e.set i .no, (R.forget i).under, ?_⟩
              · cases z
                show (σ.set i (some (V.ref a)))[i]? = _
                rw [List.getElem?_set_self (by rw [← R.len]; exact hi)]
              · cases qh : h (e.set i .no) with
                | nx e2 =>
                  rw [qh] at P
                  exact fun B3 H3 σ3 R3 s3 => P B3 H3 _ (R3.forget i).under s3
                | rt d => rw [qh] at P; exact P
                | bk e2 => rw [qh] at P; exact P.elim
                | ct e2 => rw [qh] at P; exact P.elim
                | ex x => rw [qh] at P; exact P.elim
                | bad => rw [qh] at P; exact P.elim
            · rw [if_neg hi] at P
              exact P.elim
/-! ### in the suite -/
section
variable {i : Nat} {a : Addr}
/-- a statement behind which the error still stands in its slot -/
def relK (K : PySem.W.Frag) (S : Se) (M : Xw) (i : Nat) (a : Addr) (f : List Sl → Ro) : TS := fun D0 σ H => σ[i]? = some (some (V.ref a)) ∧
  semS K S M f { nx := fun σ' H' => σ'[i]? = some (some (V.ref a)) → D0.nx σ' H', rt := D0.rt, bk := D0.bk, ct := D0.ct } σ H
/-! ### more of what a suite evaluates -/
end
end
end Pf
/-! items in a suite; count and index of truths -/
namespace Pf
open PySem PySem.Spec PyProof.Rows L2 GxR GenW Gx Wk
end Pf
namespace Pf
open L2 PySem PySem.Spec PyProof.Rows
end Pf
/-! set(xs) of a list of ints, kept under a name; what is in it -/
namespace Pf
open PySem PySem.Spec PyProof.Rows L2 GxR GenW Gx Wk
end Pf
/-! defs with one keyword-only parameter that has an int as its default -/
namespace Pf
open PySem PySem.Spec PyProof.Rows L2 GxR GenW Gx Wk
/-- the keyword-only parameter left out -/
def BdK (K : PySem.W.Frag) (fd : FuncData) (ps : List Str) (i : Int) : Prop := ∃ ds, Vals [V.int i] ds ∧ L2.Binds K fd ps ds
/-- f(e, ..) with the default i behind the n values -/
def vCallD (n : Nat) (i : Int) (F : List D → Rf) (g : List Sl → Rs (List D)) (env : List Sl) : Rs D := (g env).bind fun ds e => if ds.length = n then (F (ds ++ [.int i])).rs e else .bad
section
variable {X : Cx} {S : Se} {M : Xw}
theorem spP_at {n : Nat} {F : List D → Rf} {B1 H1 : Hp} {σ : L2.St} {e : List Sl} {vs : List V} {ds : List D} {Q : VK} (hl : ds.length = n) (R1 : Rel X.K S B1 e σ H1) (hvs : DqAll X.K B1 vs ds)
    (P1 : Post X.K S M σ B1 H1 e ((F ds).rs e) fun d _ B' H' => ∀ v, Dq X.K B' v d → Q v H') : spP X.K S.T M.xc n F vs H1 Q M.E := by
  refine ⟨by rw [hvs.length, hl], B1, ds, ⟨R1.tab, R1.bh, R1.nt⟩, hvs, ?_⟩
  revert P1
  cases F ds with
  | bad => exact fun P1 => P1
  | ex x => exact fun P1 => XOk.deep P1 R1.old
  | ok d => exact fun P1 v B2 H2 g2 hv => P1 B2 H2 ((Grow.mk g2.old g2.tab g2.same g2.bh g2.nt g2.new : Grow X.K S B1 H1 B2 H2).rel R1).1 ((Grow.mk g2.old g2.tab g2.same g2.bh g2.nt g2.new : Grow X.K S B1 H1 B2 H2).rel R1).2 v hv
variable {k n : Nat} {f : Addr} {fd : FuncData} {ps : List Str} {F : List D → Rf} {x : Str} {p pos : Pos} {e : Expr} {es : List Expr} {g : List Sl → Rs (List D)}
theorem q_callD {i : Int} (G : FnOk X.prog X.w X.K X.mg X.base (CX X.prog X.w) k f fd ps (spP X.K S.T M.xc (n + 1) F)) (hr : Room k X.A) (hg : Gl X x) (hm : X.mg x = some (.ref f)) (hk : PySem.W.keepIn X.K (.ref f) = true)
    (hb : BdK X.K fd ps i) (hx : Passes (CX X.prog X.w) X M.E) (ha : PAs X S M (e :: es) g) (hl : (e :: es).length = n := by rfl)
    (h1 : (x == Str.ofString "__debug__") = false := by rfl) (h2 : starEach (e :: es) X.env = (false, eval e X.env) :: starEach es X.env := by rfl)
    (h3 : ((backTo pos (starEach es X.env)).any fun x => x.1) = false := by rfl) : PV X S M (.Call (.Name x p) (e :: es) [] pos) (vCallD n i F g) := by
  obtain ⟨ws, hw, hb⟩ := hb
  refine ⟨peI (pe_call G hr hg hm hk hb hw hx ha.pa h1 h2 h3) ?_⟩
  rintro σ H Q ⟨B, env, R, P⟩
  refine ⟨B, env, R, (Post.bind P).mono fun ds e B1 H1 R1 X1 P1 vs hvs => ?_⟩
  split at P1
  · rename_i hn
    exact spP_at (by rw [List.length_append, hn]; rfl) R1 (hvs.append (.cons (.int i) .nil)) P1
  · exact P1.elim
end
end Pf
/-! the place of any datum in a list -/
namespace Pf
open PySem PySem.Spec PyProof.Rows L2 GxR GenW Gx Wk
section
variable {X : Cx} {S : Se} {M : Xw}
theorem hu65 {A : Around} {k : Nat} (hr : Room k A) : A.units + 65 < cLine := by
  have := hr.un
  omega
end
end Pf
/-! sorted of a list or of a tuple of ints -/
namespace Pf
open PySem PySem.Spec PyProof.Rows L2 GxR GenW Gx Wk
end Pf
/-! errors with a field: the class's own __init__ calls that of its base, which has none of its own -/
namespace Pf
open PySem PySem.Spec PyProof.Rows L2 GxR GenW Gx Wk
/-! ### what is told of the classes -/
end Pf
/-! try over data, where errors may have fields (scalars) that the suites read -/
namespace Pf
open PySem PySem.Spec PyProof.Rows L2 GxR GenW Gx Wk
/-- the dict of an error with these fields stands at d -/
def AtX (K : PySem.W.Frag) (B H : Hp) (x : Exn) (d : Option Addr) : Prop := (x.fs = [] ∧ d = none) ∨ (x.fs ≠ [] ∧ ∃ (a : Addr) (vs : List V), d = some a ∧ H a = some (.xd ((x.fs.map Prod.fst).zip vs)) ∧ DqAll K B vs (x.fs.map Prod.snd))
def PostF (K : PySem.W.Frag) (S : Se) (M : Xw) (W : WX) (B : Hp) (r : Rx) (D0 : Ends) : Prop :=
  match r with
  | .nx e => ∀ B' H' σ', Rel K S B' e σ' H' → Same B B' → D0.nx σ' H'
  | .rt d => ∀ B' H' v, Rel K S B' [] [] H' → Same B B' → Dq K B' v d → D0.rt v H'
  | .ex x e => ∃ C, M.xc x.cls = some C ∧ ∀ B' H' σ' d, Rel K S B' e σ' H' → Same B B' → AtX K B' H' x d → W C d σ' H'
  | .bad => False
def semF (K : PySem.W.Frag) (S : Se) (M : Xw) (W : WX) (f : List Sl → Rx) : TS := fun D0 σ H => ∃ B env, Rel K S B env σ H ∧ PostF K S M W B (f env) D0
section
variable {X : Cx} {S : Se} {M : Xw}
theorem PostF.mono {W : WX} {B B1 : Hp} {r : Rx} {D0 : Ends} (h : PostF X.K S M W B r D0) (sm : Same B B1) : PostF X.K S M W B1 r D0 := by
  cases r with
  | nx e => exact fun B' H' σ' R s => h B' H' σ' R (sm.trans s)
  | rt d => exact fun B' H' v R s => h B' H' v R (sm.trans s)
  | ex x e =>
    obtain ⟨C, h1, h2⟩ := h
    exact ⟨C, h1, fun B' H' σ' d R s => h2 B' H' σ' d R (sm.trans s)⟩
  | bad => exact h
theorem PostF.seq {W : WX} {B : Hp} {f g : List Sl → Rx} {env : List Sl} {D0 : Ends} (h : PostF X.K S M W B (xSeq f g env) D0) :
    PostF X.K S M W B (f env) { nx := semF X.K S M W g D0, rt := D0.rt, bk := D0.bk, ct := D0.ct } := by
  unfold xSeq at h
  cases q : f env with
  | nx e => rw [q] at h; exact fun B' H' σ' R s => ⟨B', e, R, PostF.mono h s⟩
  | rt d => rw [q] at h; exact h
  | ex x e => rw [q] at h; exact h
  | bad => rw [q] at h; exact h
end
/-! ### clauses -/
abbrev SuR := List (Str × D) → List Sl → Ro
abbrev CaseF := List (Str × Option SuR)
abbrev ClF := List (Option Nat × CaseF)
def lkF : CaseF → Str → Option (Option SuR)
  | [], _ => none
  | (n, h) :: r, x => if x = n then some h else lkF r x
def clF : ClF → Exn → List Sl → Ro
  | [], _, _ => .bad
  | (i, cs) :: r, x, e => match lkF cs x.cls with
    | none => .bad
    | some none => clF r x e
    | some (some h) => suiteR i (h x.fs) e
def relF (K : PySem.W.Frag) (S : Se) (M : Xw) (i : Option Nat) (a : Addr) (x : Exn) (d : Option Addr) (f : List Sl → Ro) : TS := fun D0 σ H => (∀ j, i = some j → σ[j]? = some (some (V.ref a))) ∧ AtX K S.B0 S.H0 x d ∧ semS K S M f D0 σ H
theorem relH {K : PySem.W.Frag} {S : Se} {B H : Hp} {e : List Sl} {σ : L2.St} (R : Rel K S B e σ H) (np : (e.all fun s => !s.prv) = true) : Rel K ⟨S.T, H, B⟩ B e σ H where
  old := Old.refl H
  tab := R.tab
  b0 := Same.refl B
  bh := R.bh
  nt := R.nt
  new := fun a o h => .inl h
  len := R.len
  sl := fun i s h => by
    have q := R.sl i s h
    have z := List.all_eq_true.mp np s (List.mem_of_getElem? h)
    cases s with
    | no => exact q
    | im d => exact q
    | ow w => cases z
    | ro xs => cases z
  sep := R.sep
theorem relD {K : PySem.W.Frag} {S : Se} {B H B' H' : Hp} {e e' : List Sl} {σ σ' : L2.St} (R : Rel K S B e σ H) (R' : Rel K ⟨S.T, H, B⟩ B' e' σ' H') : Rel K S B' e' σ' H' where
  old := R.old.trans R'.old
  tab := R'.tab
  b0 := R.b0.trans R'.b0
  bh := R'.bh
  nt := R'.nt
  new := fun a o h => by
    rcases R'.new a o h with z | z
    · exact R.new a o z
    · exact .inr (R.old.none z)
  len := R'.len
  sl := fun i s h => by
    have q := R'.sl i s h
    cases s with
    | no => exact q
    | im d => exact q
    | ow w =>
      obtain ⟨p, o, h1, h2, h3⟩ := q
      exact ⟨p, o, h1, R.old.none h2, h3⟩
    | ro xs =>
      obtain ⟨p, o, h1, h2, h3⟩ := q
      exact ⟨p, o, h1, R.old.none h2, h3⟩
  sep := R'.sep
inductive CaseFOk (X : Cx) (S : Se) (M : Xw) (i : Option Nat) (c : Value) (su : List Stmt) : CaseF → Prop
  | nil : CaseFOk X S M i c su []
  | no {n : Str} {C : Addr} {r : CaseF} (hx : M.xc n = some (.ref C)) (hm : PySem.W.exmOne X.K (.ref C) c = some false) (t : CaseFOk X S M i c su r) : CaseFOk X S M i c su ((n, none) :: r)
  | yes {n : Str} {C : Addr} {r : CaseF} {h : SuR} (hx : M.xc n = some (.ref C)) (hm : PySem.W.exmOne X.K (.ref C) c = some true)
      (go : ∀ (S' : Se), S'.T = S.T → ∀ (a : Addr) (oe : Obj) (pn : List (Addr × Obj)) (d : Option Addr) (fs : List (Str × D)), Zc (.ref C) d oe → (∃ us, oe.data = .fields us) → PSs (X.suite a ((a, oe) :: pn)) su (relF X.K S' M.calm i a ⟨n, fs⟩ d (h fs)))
      (t : CaseFOk X S M i c su r) : CaseFOk X S M i c su ((n, some h) :: r)
inductive ClFD (X : Cx) (S : Se) (M : Xw) : List ExceptHandler → ClF → Prop
  | nil : ClFD X S M [] []
  | cons {x : Str} {c : Value} {o : Option Str} {i : Option Nat} {s0 : Stmt} {ss : List Stmt} {p1 p2 : Pos} {hds : List ExceptHandler} {cs : CaseF} {l : ClF} (hc : Names X x c) (hn : NmOk X o i) (go : CaseFOk X S M i c (s0 :: ss) cs) (r : ClFD X S M hds l) :
      ClFD X S M (.ExceptHandler (some (.Name x p1)) o (s0 :: ss) p2 :: hds) ((i, cs) :: l)
def tsF (K : PySem.W.Frag) (S : Se) (M : Xw) (i : Option Nat) (cs : CaseF) (a : Addr) (cls : Value) (d : Option Addr) : TS := fun D1 σ H =>
  ∃ (n : Str) (h : SuR) (fs : List (Str × D)) (S' : Se), S'.T = S.T ∧ M.xc n = some cls ∧ lkF cs n = some (some h) ∧ relF K S' M.calm i a ⟨n, fs⟩ d (h fs) D1 σ H
section
variable {X : Cx} {S : Se} {M : Xw}
theorem CaseFOk.at {i : Option Nat} {c : Value} {su : List Stmt} : ∀ {cs : CaseF}, CaseFOk X S M i c su cs → ∀ {n : Str} {q : Option SuR}, lkF cs n = some q →
    ∃ C : Addr, M.xc n = some (.ref C) ∧ PySem.W.exmOne X.K (.ref C) c = some q.isSome ∧ ∀ h, q = some h → ∀ (S' : Se), S'.T = S.T → ∀ (a : Addr) (oe : Obj) (pn : List (Addr × Obj)) (d : Option Addr) (fs : List (Str × D)), Zc (.ref C) d oe → (∃ us, oe.data = .fields us) → PSs (X.suite a ((a, oe) :: pn)) su (relF X.K S' M.calm i a ⟨n, fs⟩ d (h fs))
  | _, .nil, n, q, e => by cases e
  | _, .no (n := n0) hx hm t, n, q, e => by
    unfold lkF at e
    split at e
    · rename_i hn
      cases e
      subst hn
      exact ⟨_, hx, hm, fun h z => by cases z⟩
    · exact CaseFOk.at t e
  | _, .yes (n := n0) hx hm go t, n, q, e => by
    unfold lkF at e
    split at e
    · rename_i hn
      cases e
      subst hn
      exact ⟨_, hx, hm, fun h z => by cases z; exact go⟩
    · exact CaseFOk.at t e
theorem noprv_set {e : List Sl} (h : (e.all fun s => !s.prv) = true) (i : Nat) : ((e.set i .no).all fun s => !s.prv) = true := by
  rw [List.all_eq_true] at h ⊢
  intro s hs
  rcases List.mem_or_eq_of_mem_set hs with z | z
  · exact h s z
  · rw [z]
    rfl
theorem ClFD.cls : ∀ {hds : List ExceptHandler} {hs : ClF}, ClFD X S M hds hs → ∃ L, ClOk X hds L ∧ ∀ (D0 : Ends) (Wout : WX) (x : Exn) (C : Value) (e : List Sl) (B H : Hp) (σ : L2.St) (d : Option Addr), M.xc x.cls = some C → Rel X.K S B e σ H → AtX X.K B H x d → (e.all fun s => !s.prv) = true →
      PostS X.K S M B (clF hs x e) D0 → wCl X.K Wout D0 L C d σ H
  | _, _, .nil => ⟨[], .nil, fun D0 Wout x C e B H σ d hC R hA np P => P.elim⟩
  | _, _, .cons (c := c) (i := i) (cs := cs) hc hn go r => by
    obtain ⟨L, h1, h2⟩ := ClFD.cls r
    refine ⟨⟨c, i, tsF X.K S M i cs⟩ :: L, .cons hc hn (fun a ob cls d pn hz hf => ⟨fun pins s σ H D1 I q => ?_⟩) h1, fun D0 Wout x C e B H σ d hC R hA np P => ?_⟩
    · obtain ⟨n, h, fs, S', hT, hx, lk, rel⟩ := q
      obtain ⟨C, c1, c2, c3⟩ := go.at lk
      rw [hx] at c1
      cases c1
      exact (c3 h rfl S' hT a ob pn d fs hz hf).run pins s σ H D1 I rel
    · unfold clF at P
      cases lk : lkF cs x.cls with
      | none => rw [lk] at P; exact P.elim
      | some q =>
        rw [lk] at P
        obtain ⟨C', c1, c2, c3⟩ := go.at lk
        rw [hC] at c1
        cases c1
        cases q with
        | none => exact ⟨false, c2, fun z => (by cases z), fun _ => h2 D0 Wout x _ e B H σ d hC R hA np P⟩
        | some h =>
          refine ⟨true, c2, fun _ a na => ⟨x.cls, h, x.fs, ⟨S.T, H, B⟩, rfl, hC, lk, ?_⟩, fun z => by cases z⟩
          have P : PostS X.K S M B (suiteR i (h x.fs) e) D0 := P
          cases i with
          | none =>
            refine ⟨fun j z => (by cases z), hA, B, e, relH R np, ?_⟩
            have P : PostS X.K S M B (suiteN (h x.fs) e) D0 := P
            unfold suiteN at P
            cases qh : h x.fs e with
            | nx e2 =>
              rw [qh] at P
              exact fun B3 H3 σ3 R3 s3 => P B3 H3 σ3 (relD R R3) s3
            | rt d2 =>
              rw [qh] at P
              exact fun B3 H3 v R3 s3 => P B3 H3 v (relD R R3) s3
            | bk e2 => rw [qh] at P; exact P.elim
            | ct e2 => rw [qh] at P; exact P.elim
            | ex x2 => rw [qh] at P; exact P.elim
            | bad => rw [qh] at P; exact P.elim
          | some i =>
            have P : PostS X.K S M B (suiteI i (h x.fs) e) D0 := P
            unfold suiteI at P
            by_cases hi : i < e.length
            · rw [if_pos hi] at P
              have R0 : Rel X.K S B (e.set i .no) (σ.set i (some (V.ref a))) H := (R.forget i).under
              refine ⟨fun j z => ?_, hA, B, e.set i .no, relH R0 (noprv_set np i), ?_⟩
              · cases z
                show (σ.set i (some (V.ref a)))[i]? = _
                rw [List.getElem?_set_self (by rw [← R.len]; exact hi)]
              · cases qh : h x.fs (e.set i .no) with
                | nx e2 =>
                  rw [qh] at P
                  exact fun B3 H3 σ3 R3 s3 => P B3 H3 _ ((relD R0 R3).forget i).under s3
                | rt d2 =>
                  rw [qh] at P
                  exact fun B3 H3 v R3 s3 => P B3 H3 v (relD R0 R3) s3
                | bk e2 => rw [qh] at P; exact P.elim
                | ct e2 => rw [qh] at P; exact P.elim
                | ex x2 => rw [qh] at P; exact P.elim
                | bad => rw [qh] at P; exact P.elim
            · rw [if_neg hi] at P
              exact P.elim
end
/-! ### fields in a suite -/
/-! ### isinstance of an error that has a dict -/
end Pf
/-! the __init__ of a class of errors among what is told -/
namespace Pf
open PySem PySem.Spec PyProof.Rows L2 GxR GenW Gx Wk
end Pf
/-! more of what a suite evaluates that holds an error: comparisons, tuples -/
namespace Pf
open PySem PySem.Spec PyProof.Rows L2 GxR GenW Gx Wk
end Pf
namespace Pf
open PySem PySem.Spec PyProof.Rows L2 GxR GenW Gx
end Pf
/-! enumerate(v, start=k) -/
namespace Wk
open L2 PySem PySem.Spec PyProof.Rows
end Wk
namespace Pf
open PySem PySem.Spec PyProof.Rows L2 GxR GenW Gx Wk
end Pf
/-! in a try: a call that leaves a keyword-only parameter out -/
namespace Pf
open PySem PySem.Spec PyProof.Rows L2 GxR GenW Gx Wk
end Pf
/-! sorted(xs) of ints, or of tuples of ints of one length -/
namespace Pf
open PySem PySem.Spec PyProof.Rows L2 GxR GenW Gx Wk
end Pf
/-! what a call gives is one's own; a test that looks at an own list as at a datum and leaves it; a loop over an own list -/
namespace Pf
open PySem PySem.Spec PyProof.Rows L2 GxR GenW Gx Wk ZN
/-- frozen things stay -/
def Frz (B B' : Hp) : Prop := ∀ a ob u, B a = some (.frz ob u) → B' a = some (.frz ob u)
theorem SqU.frz {K : PySem.W.Frag} {B B' : Hp} (h : Frz B B') {a : Addr} {vs : List V} (s : SqU K B a vs) : SqU K B' a vs := by
  obtain ⟨s1, ob, u, s2, s3⟩ := s
  refine ⟨?_, ob, u, h _ _ _ s2, s3⟩
  rcases s1 with (s1 | ⟨o, s1⟩) | s1
  · rw [s2] at s1; cases s1
  · exact .inl (.inr ⟨o, h _ _ _ s1⟩)
  · exact .inr s1
section
variable {X : Cx} {S : Se} {M : Xw}
/-- what is frozen, alone -/
def frzs (B : Hp) : Hp := fun a => match B a with
  | some (.frz ob u) => some (.frz ob u)
  | _ => none
/-! ### a test that only looks -/
def Sl.dat : Sl → Sl
  | .im d => .im d
  | _ => .no
/-! ### for y in x: if t: return d0 -/
end
end Pf
/-! dicts of one's own whose keys are tuples -/
namespace Pf
open PySem PySem.Spec PyProof.Rows L2 GxR GenW Gx Wk ZN
section
variable {κ : Type}
variable [DecidableEq κ]
def valT (ks : List (κ × D)) (k : κ) : Option D := (ks.find? fun kd => decide (kd.1 = k)).map (·.2)
end
end Pf
/-! what the top of a program holds: texts, dicts with text keys; a def with one default -/
namespace Pf
open PySem PySem.Spec PyProof.Rows L2 GxR GenW Gx Wk ZN
/-- one int, text, bool or None as the top holds it -/
def tvS : D → Value → Bool
  | .int a, .int b _ => decide (a = b)
  | .str a, .str b _ => decide (a = b)
  | .bl b, .bool c => b == c
  | .non, .none => true
  | _, _ => false
theorem tvS_ok {d : D} {u : Value} (h : tvS d u = true) : ∃ v, RelV v u ∧ ∀ (K : PySem.W.Frag) (B : Hp), Dq K B v d := by
  cases d with
  | int i => cases u with
    | int j t => exact ⟨.int i, ⟨t, by rw [of_decide_eq_true h]⟩, fun _ _ => .int i⟩
    | _ => cases h
  | str i => cases u with
    | str j t => exact ⟨.str i, ⟨t, by rw [of_decide_eq_true h]⟩, fun _ _ => .str i⟩
    | _ => cases h
  | bl i => cases u with
    | bool j =>
      have e : i = j := eq_of_beq h
      exact ⟨.bl i, by rw [e]; rfl, fun _ _ => .bl i⟩
    | _ => cases h
  | non => cases u with
    | none => exact ⟨.non, rfl, fun _ _ => .non⟩
    | _ => cases h
  | lst _ => cases h
  | tup _ => cases h
  | scr _ => cases h
  | rng _ _ => cases h
  | st _ => cases h
def topL : List D → List Value → Bool
  | [], [] => true
  | d :: ds, u :: us => tvS d u && topL ds us
  | _, _ => false
theorem topL_ok : ∀ {ds : List D} {us : List Value}, topL ds us = true → ∃ vs, Vals vs us ∧ ∀ (K : PySem.W.Frag) (B : Hp), DqAll K B vs ds
  | [], [], _ => ⟨[], .nil, fun _ _ => .nil⟩
  | [], _ :: _, h => by cases h
  | _ :: _, [], h => by cases h
  | d :: ds, u :: us, h => by
    obtain ⟨h1, h2⟩ := Bool.and_eq_true_iff.mp (show (tvS d u && topL ds us) = true from h)
    obtain ⟨v, r1, q1⟩ := tvS_ok h1
    obtain ⟨vs, r2, q2⟩ := topL_ok h2
    exact ⟨v :: vs, .cons r1 r2, fun K B => .cons (q1 K B) (q2 K B)⟩
/-- a tuple of such -/
def topT (K : PySem.W.Frag) (ds : List D) : Value → Bool
  | .ref T => match K.lookup T with
    | some ⟨.type c, _, .seq its _, _⟩ => decide (c = "tuple") && (decide (its.size ≤ sizeLine) && topL ds its.toList)
    | _ => false
  | _ => false
theorem topT_ok {K : PySem.W.Frag} {ds : List D} {u : Value} (h : topT K ds u = true) : ∃ a vs, u = .ref a ∧ (∀ H, SqT K H a vs) ∧ ∀ B, DqAll K B vs ds := by
  unfold topT at h
  split at h
  · rename_i T
    split at h
    · rename_i c od its n sl hl
      obtain ⟨h1, h2⟩ := Bool.and_eq_true_iff.mp h
      obtain ⟨h2, h3⟩ := Bool.and_eq_true_iff.mp h2
      obtain ⟨vs, r, q⟩ := topL_ok h3
      have e := of_decide_eq_true h1
      subst e
      exact ⟨T, vs, rfl, fun H => .inr ⟨_, its, n, hl, rfl, rfl, of_decide_eq_true h2, r⟩, q K⟩
    · cases h
  · cases h
def topV (K : PySem.W.Frag) : D → Value → Bool
  | .tup ds, u => topT K ds u
  | d, u => tvS d u
def topD (K : PySem.W.Frag) (a : Addr) (kvs : List (Str × D)) : Bool := kvs.all fun q => match PySem.W.nsIn K a q.1 with
  | some (some u) => topV K q.2 u
  | _ => false
/-- the value at a text -/
def atT (kvs : List (Str × D)) (z : Str) : Option D := match kvs with
  | [] => none
  | q :: r => if z = q.1 then some q.2 else atT r z
theorem atT_mem : ∀ {kvs : List (Str × D)} {z : Str} {d : D}, atT kvs z = some d → (z, d) ∈ kvs
  | [], z, d, h => by cases h
  | q :: r, z, d, h => by
    rw [atT] at h
    split at h
    · rename_i e
      cases h
      rw [e]
      exact List.mem_cons_self
    · exact List.mem_cons_of_mem _ (atT_mem h)
theorem atT_no : ∀ {kvs : List (Str × D)} {z : Str}, atT kvs z = none → ∀ q ∈ kvs, q.1 ≠ z
  | [], z, h, q, hq => by cases hq
  | p :: r, z, h, q, hq => by
    rw [atT] at h
    split at h
    · cases h
    · rename_i n
      rcases List.mem_cons.mp hq with e | hq
      · rw [e]
        exact fun y => n y.symm
      · exact atT_no h q hq
/-- a dict of the top with text keys -/
structure TopD (K : PySem.W.Frag) (w : World) (a : Addr) (kvs : List (Str × D)) : Prop where
  kd : ∃ es n, KDict K w a es n
  out : ∀ z, atT kvs z = none → PySem.W.nsIn K a z = some none
  val : topD K a kvs = true
theorem keys_no {P : Params} {z : Str} : ∀ {l : List DictEntry} {ks : List Str}, l.map He.keyOf = He.keysIn P ks → (∀ k ∈ ks, k ≠ z) → l.find? (·.key.isStr z) = none ∧ l.any (·.refKey) = false
  | [], _, _, _ => ⟨rfl, rfl⟩
  | e :: r, [], h, _ => by cases h
  | e :: r, k :: ks, h, n => by
    have h1 : He.keyOf e :: r.map He.keyOf = some (k, PyData.keyHash P k) :: He.keysIn P ks := h
    injection h1 with h2 h3
    obtain ⟨i1, i2⟩ := keys_no h3 fun q hq => n q (List.mem_cons_of_mem _ hq)
    have hk : ∃ t, e.key = .str k t := by
      unfold He.keyOf at h2
      split at h2
      · rename_i x t q
        have h4 := Option.some.inj h2
        exact ⟨t, by rw [q, (Prod.mk.inj h4).1]⟩
      · cases h2
    obtain ⟨t, hk⟩ := hk
    have e1 : e.key.isStr z = false := by
      rw [hk]
      show decide (k = z) = false
      exact decide_eq_false (n k List.mem_cons_self)
    have e2 : e.refKey = false := by
      unfold DictEntry.refKey
      rw [hk]
    refine ⟨?_, ?_⟩
    · rw [List.find?_cons_of_neg (by rw [e1]; decide)]
      exact i1
    · rw [List.any_cons, e2, i2]
      rfl
theorem topD_of {fa : List He.Fa} {fn : List He.DefD} {ts : List He.Tab} {w : World} {K : PySem.W.Frag} {kvs : List (Str × D)} {f : PySem.W.Frag → Addr} (c : He.SaysT fa fn ts w K) (i : Nat) (h : ts[i]? = some (f, kvs.map (·.1))) (hv : topD K (f K) kvs = true) : TopD K w (f K) kvs := by
  refine ⟨c.tab i h, fun z hz => ?_, hv⟩
  have e : ts.map (fun t => He.dicW K (t.1 K)) = ts.map fun t => some (He.keysIn w.params t.2) := congrArg (fun z : He.AlT => z.2) c
  have e2 : (ts.map fun t => He.dicW K (t.1 K))[i]? = (ts.map fun t => some (He.keysIn w.params t.2))[i]? := by rw [e]
  rw [List.getElem?_map] at e2
  rw [List.getElem?_map, h] at e2
  have e3 : He.dicW K (f K) = some (He.keysIn w.params (kvs.map (·.1))) := Option.some.inj e2
  have nk : ∀ k ∈ kvs.map (·.1), k ≠ z := fun k hk => by
    obtain ⟨q, hq, rfl⟩ := List.mem_map.mp hk
    exact atT_no hz q hq
  unfold He.dicW at e3
  unfold PySem.W.nsIn
  split at e3
  · rename_i c es n sl hl
    rw [hl]
    dsimp only
    split at e3
    · obtain ⟨k1, k2⟩ := keys_no (Option.some.inj e3) nk
      rw [k1, k2]
      rfl
    · cases e3
  · cases e3
theorem TopD.at {K : PySem.W.Frag} {w : World} {a : Addr} {kvs : List (Str × D)} (t : TopD K w a kvs) {z : Str} {d : D} (h : atT kvs z = some d) : ∃ u, PySem.W.nsIn K a z = some (some u) ∧ topV K d u = true := by
  have q := List.all_eq_true.mp t.val _ (atT_mem h)
  revert q
  dsimp only
  cases PySem.W.nsIn K a z with
  | none => exact fun q => by cases q
  | some r => cases r with
    | none => exact fun q => by cases q
    | some u => exact fun q => ⟨u, rfl, q⟩
section
variable {X : Cx} {S : Se} {M : Xw} {x : Str} {a : Addr} {kvs : List (Str × D)} {e : Expr} {f : List Sl → Rs D} {p pos : Pos}
theorem q_gs {x z : Str} {pos : Pos} (hg : Gl X x) (hm : ∃ t, X.mg x = some (.str z t)) (hd : (x == Str.ofString "__debug__") = false := by rfl) : PV X S M (.Name x pos) (vK (.str z)) := by
  obtain ⟨t, hm⟩ := hm
  exact pv_const (pe_glob hg hm (v := .str z) ⟨t, rfl⟩ hd) fun _ => .str z
/-- e in D, e not in D -/
def bInC (kvs : List (Str × D)) (pos : Bool) (f : List Sl → Rs D) (env : List Sl) : Rs Bool := (f env).bind fun d e => match d with
  | .str z => .ok ((atT kvs z).isSome == pos) e
  | _ => .bad
theorem TopD.has {K : PySem.W.Frag} {w : World} (t : TopD K w a kvs) (z : Str) : ∃ r, PySem.W.nsIn K a z = some r ∧ r.isSome = (atT kvs z).isSome := by
  cases q : atT kvs z with
  | none => exact ⟨none, t.out z q, rfl⟩
  | some d =>
    obtain ⟨u, h, _⟩ := t.at q
    exact ⟨some u, h, rfl⟩
theorem pb_ninC (t : TopD X.K X.w a kvs) (hg : Gl X x) (hm : X.mg x = some (.ref a)) (he : PV X S M e f) (hd : (x == Str.ofString "__debug__") = false := by rfl) (hb : behindInMarks .NotIn (.Name x p) = false := by rfl) : PB X S M (.Compare e [.NotIn] [.Name x p] pos) (bInC kvs false f) := by
  obtain ⟨es, n, D⟩ := t.kd
  refine ⟨ptI (pt_cmpR (op_notIn_kd D) he.pe (pe_glob hg hm (v := .ref a) rfl hd) hb) ?_⟩
  rintro σ H Q ⟨B, env, R, P⟩
  refine ⟨B, env, R, (Post.bind P).mono fun d e B1 H1 R1 X1 P1 v hv => ?_⟩
  cases hv <;> first | exact P1.elim | skip
  rename_i z
  obtain ⟨r, h1, h2⟩ := t.has z
  refine ⟨z, r, rfl, rfl, h1, ?_⟩
  rw [h2]
  refine ⟨_, rfl, ?_⟩
  have P2 := P1.ok R1
  revert P2
  cases (atT kvs z).isSome <;> exact fun P2 => P2
/-- D.get(e): what stands there is no tuple -/
def fGetC (kvs : List (Str × D)) (f : List Sl → Rs D) (env : List Sl) : Rs D := (f env).bind fun d e => match d with
  | .str z => (match atT kvs z with
    | none => .ok .non e
    | some (.tup _) => .bad
    | some d => .ok d e)
  | _ => .bad
def tGetC (K : PySem.W.Frag) (a : Addr) (ty : TE) : TE := fun σ H Q => ty σ H fun y H1 => ∃ z r, y = .str z ∧ PySem.W.nsIn K a z = some r ∧ ∃ v, RelV v (r.getD .none) ∧ Q v H1
theorem pe_getC {apos cpos : Pos} {ty : TE} (t : TopD X.K X.w a kvs) (hg : Gl X x) (hm : X.mg x = some (.ref a)) (he : PE X e ty) (m : M1 X (.Name x p) "get" apos e cpos) (hd : (x == Str.ofString "__debug__") = false := by rfl) :
    PE X (.Call (.Attribute (.Name x p) "get" apos) [e] [] cpos) (tGetC X.K a ty) := by
  obtain ⟨es, n, D⟩ := t.kd
  refine ⟨fun pins s σ H Q In h => ?_⟩
  refine wpAny_Call_method m.base m.few m.line PySem.F.plainAttrs_dict PySem.F.slot_dict_get PySem.F.type_dict_get (thn ((pe_glob hg hm (v := .ref a) rfl hd).run pins s σ H (fun v H' => v = .ref a ∧ tGetC X.K a ty σ H' Q) In ⟨rfl, h⟩) fun u s1 ⟨x0, H1, I1, rx, ex, q1⟩ => ?_)
  subst ex
  have hu : u = Value.ref a := rx
  subst hu
  have hm1 := PySem.W.mapOf_K (prog := X.prog) (w := X.w) I1.kIn D.at_ D.lit
  refine ⟨hm1.typeIs, fun b q => ?_, ?_⟩
  · cases q
    exact ⟨_, I1.kIn _ _ D.at_, rfl⟩
  rw [m.trees]
  refine Calls.callWith_builtin rfl (Calls.evalArgs_plain (Calls.spliced_cons (thn (he.run pins s1 σ H1 _ I1 q1) fun iv s2 ⟨y, H2, I2, ry, z, r, ey, hr, v, rv, q2⟩ => Calls.spliced_nil ?_)))
  subst ey
  obtain ⟨tk, rfl⟩ := (show ∃ t, iv = Value.str z t from ry)
  have hm2 := PySem.W.mapOf_K (prog := X.prog) (w := X.w) I2.kIn D.at_ D.lit
  refine call_meetsIn PySem.F.slot_dict_get hm2.typeIs PySem.F.entry_dict_get (PySem.F.args_dict_get_2 _ _) (meets_dict_get (strKind X.prog X.w) a (strKind_is X.prog X.w z tk) D.low) ⟨_, hm2, ?_⟩
  rw [PySem.W.find_K D.at_ hr]
  exact ⟨v, H2, I2.tok _, rv, q2⟩
theorem pv_getC {apos cpos : Pos} (t : TopD X.K X.w a kvs) (hg : Gl X x) (hm : X.mg x = some (.ref a)) (he : PV X S M e f) (m : M1 X (.Name x p) "get" apos e cpos := by exact ⟨rfl, rfl, rfl, rfl⟩) (hd : (x == Str.ofString "__debug__") = false := by rfl) :
    PV X S M (.Call (.Attribute (.Name x p) "get" apos) [e] [] cpos) (fGetC kvs f) := ⟨peI (pe_getC t hg hm he.pe m hd) (by
  rintro σ H Q ⟨B, env, R, P⟩
  refine ⟨B, env, R, (Post.bind P).mono fun d e B1 H1 R1 X1 P1 v hv => ?_⟩
  cases hv <;> first | exact P1.elim | skip
  rename_i z
  dsimp only at P1
  cases q : atT kvs z with
  | none =>
    rw [q] at P1
    exact ⟨z, none, rfl, t.out z q, .non, rfl, P1.ok R1 _ .non⟩
  | some d =>
    rw [q] at P1
    obtain ⟨u, h1, h2⟩ := t.at q
    have go : tvS d u = true → Post X.K S M σ B1 H1 e (.ok d e) (fun d _ B' H' => ∀ v, Dq X.K B' v d → Q v H') → ∃ z_1 r, V.str z = .str z_1 ∧ PySem.W.nsIn X.K a z_1 = some r ∧ ∃ v, RelV v (r.getD .none) ∧ Q v H1 := fun h3 P2 => by
      obtain ⟨v, r, hd⟩ := tvS_ok h3
      exact ⟨z, some u, rfl, h1, v, r, P2.ok R1 _ (hd _ _)⟩
    cases d <;> first | exact P1.elim | exact go h2 P1)⟩
/-- a, b = D[e]: a tuple that the top holds -/
def rUnC (kvs : List (Str × D)) (n : Nat) (h : List D → List Sl → Option (List Sl)) (f : List Sl → Rs D) (env : List Sl) : Ro := (f env).ro fun d e => match d with
  | .str z => (match atT kvs z with
    | some (.tup ds) => if ds.length = n then (match h ds e with | some e' => .nx e' | none => .bad) else .bad
    | _ => .bad)
  | _ => .bad
theorem px_unC {ts : List Expr} {k n : Nat} {h : List D → List Sl → Option (List Sl)} {L : List Nat} {tpos spos pos : Pos} (hc : X.calm = true) (t : TopD X.K X.w a kvs) (hg : Gl X x) (hm : X.mg x = some (.ref a)) (he : PV X S M e f) (hh : PTgs X S ts h L) (hs : PlainIx e)
    (h1 : swapsWithSole [.Tuple ts k tpos] (.Subscript (.Name x p) e spos) pos.line X.env = pure false := by rfl) (h2 : swappedStores [.Tuple ts k tpos] (.Subscript (.Name x p) e spos) X.env = pure none := by rfl) (h3 : (assignEach [.Tuple ts k tpos] X.env).map (·.2) = [assign (.Tuple ts k tpos) X.env] := by rfl)
    (h4 : (assignEach ts X.env).length = n := by rfl) (h5 : (assignEach ts X.env).findIdx? (·.1) = none := by rfl) (hd : (x == Str.ofString "__debug__") = false := by rfl) : PX X S M (.Assign [.Tuple ts k tpos] (.Subscript (.Name x p) e spos) pos) (rUnC kvs n h f) := by
  obtain ⟨es, m, D⟩ := t.kd
  refine ⟨psI (ps_asg (pe_ix ix_kdict (pe_glob hg hm (v := .ref a) rfl hd) he.pe hs) (pg_tup hc hh.pgs h4 h5) h1 h2 h3) ?_⟩
  rintro D0 σ H ⟨B, env, R, P⟩
  refine ⟨B, env, R, (PostS.of P).mono fun d e B1 H1 R1 X1 P1 v hv => ?_⟩
  cases hv <;> first | exact P1.elim | skip
  rename_i z
  dsimp only at P1
  cases q : atT kvs z with
  | none => rw [q] at P1; exact P1.elim
  | some d =>
    rw [q] at P1
    obtain ⟨u, g1, g2⟩ := t.at q
    cases d <;> first | exact P1.elim | skip
    rename_i ds
    dsimp only at P1
    split at P1
    · rename_i hn
      obtain ⟨b, vs, rfl, sq, dq⟩ := topT_ok g2
      cases qe : h ds e with
      | none => rw [qe] at P1; exact P1.elim
      | some e' =>
        rw [qe] at P1
        refine ⟨a, z, .ref b, rfl, rfl, ⟨es, m, .ref b, D.at_, D.lit, g1, rfl⟩, b, vs, rfl, sq H1, by rw [(dq B1).length]; exact hn, B1, e, ds, e', R1, dq B1, qe, fun σ' R2 _ _ => P1 B1 H1 σ' R2 (Same.refl _)⟩
    · exact P1.elim
end
/-! ### a def with one default -/
structure FunP (K : PySem.W.Frag) (x qual : Str) (st : Stmt) (f : Addr) (fd : FuncData) (c : Addr) : Prop where
  ex : ∃ (oc : Value) (od : Option Addr) (dV kV doc pm : Value) (an : Option Addr) (ct : Value) (osl : Array (Option Value)),
    fd = PySem.W.fnOf x qual (defArgs st) (defBody st) (defScope st) dV kV doc pm an (.ref c) ct ∧ K.lookup f = some ⟨oc, od, .func fd, osl⟩ ∧ PySem.W.codeIn K (.ref c) qual = true
  kp : (PySem.W.keepIn K (.ref f)) = true
theorem fn_pureP {P : Program} {w : World} {K : PySem.W.Frag} {mg : Str → Option Value} {base : Heap} {x qual : Str} {st : Stmt} {f c : Addr} {fd : FuncData} {N ps : List Str} {k : Nat}
    {T : List Addr} {xc : Str → Option Value} {F : List D → Rf} {b : List Sl → Ro}
    (Fu : FunP K x qual st f fd c) (Sc : FnScope N ps (defScope st)) (hF : ∀ ds, ds.length = ps.length → F ds = (b (env0 N.length ds)).fn)
    (h : ∀ (A : Around) (outer : List Env) (s : Shared) (H B : Hp) (E : XK),
      Room k (A.deeper (envOfC qual (defScope st) s.heap.objs.size f (.ref c))) →
      PXs (cxOf (CX P w) P w K mg base N qual (defScope st) f (.ref c) A outer s H E) ⟨T, H, B⟩ ⟨E, xc⟩ (defBody st) b) :
    FnOk P w K mg base (CX P w) (k + 1) f fd ps (spP K T xc ps.length F) := by
  obtain ⟨oc, od, dV, kV, doc, pm, an, ct, osl, h1, h2, h3⟩ := Fu.ex
  subst h1
  refine fn_of h2 h3 Sc (fun vs H Q E h => h.1) fun A outer s H vs Q E hr hsp => ?_
  obtain ⟨hl, B, ds, sit, hd, hk⟩ := hsp
  refine ⟨_, (h A outer s H B E hr).ps, B, env0 N.length ds, ?_, ?_⟩
  · refine rel0 (S := ⟨T, H, B⟩) sit hd ?_
    rw [hl, ← Sc.pre]
    exact List.length_take_le' _ _
  · rw [hF ds (by rw [← hd.length]; exact hl)] at hk
    have grow : ∀ {B' H' : Hp} {e : List Sl} {σ' : L2.St}, Rel K ⟨T, H, B⟩ B' e σ' H' → Grow K ⟨T, H, B⟩ B H B' H' := fun R => ⟨R.old, R.tab, R.b0, R.bh, R.nt, R.new⟩
    revert hk
    cases b (env0 N.length ds) with
    | nx e => exact fun hk B' H' σ' R sm => hk V.non B' H' (grow R) .non
    | rt d => exact fun hk B' H' v R sm dq => hk v B' H' (grow R) dq
    | ex x => exact fun hk => hk
    | bk e => exact fun hk => hk.elim
    | ct e => exact fun hk => hk.elim
    | bad => exact fun hk => hk.elim
abbrev dOfP (x : Str) (st : Stmt) (i : Int) : He.DefD := ⟨(x, none), x, x, defArgs st, defBody st, defScope st, [.int i], []⟩
theorem funP_of {K : PySem.W.Frag} {x : Str} {i : Int} {st : Stmt} {z : FuncData} (h : ∃ fd, FunD K x x (defArgs st) (defBody st) (defScope st) [.int i] [] (He.ga K x) fd) :
    FunP K x x st (He.ga K x) (fdG K x z) (He.codeOf K (x, none)) ∧ FunD K x x (defArgs st) (defBody st) (defScope st) [.int i] [] (He.ga K x) (fdG K x z) := by
  obtain ⟨fd, F⟩ := h
  obtain ⟨oc, od, dV, kV, doc, pm, an, cdv, ct, osl, h1, h2, h3, h4, h5⟩ := F.ex
  obtain ⟨c, rfl⟩ := He.codeIn_ref h3
  have e1 : fdG K x z = fd := by unfold fdG; rw [h2]
  have e2 : He.codeOf K (x, none) = c := He.codeOf_eq (p := (x, none)) h2 (by rw [h1] <;> rfl)
  rw [e1, e2]
  exact ⟨⟨⟨oc, od, dV, kV, doc, pm, an, ct, osl, h1, h2, h3⟩, F.kp⟩, F⟩
theorem bdP {K : PySem.W.Frag} {x : Str} {i : Int} {st : Stmt} {f : Addr} {fd : FuncData} {ps : List Str} (F : FunD K x x (defArgs st) (defBody st) (defScope st) [.int i] [] f fd) (n : Nat) (hn : n + 1 = ps.length)
    (h : ∀ (T : Addr) (kV doc pm : Value) (an : Option Addr) (cdv ct : Value) (us its : List Value), us.length = n → its.length = 1 →
      ∃ k, bindArgs (PySem.W.fnOf x x (defArgs st) (defBody st) (defScope st) (.ref T) kV doc pm an cdv ct) ⟨us, []⟩ = seqItems? (.ref T) >>= k ∧ k (some its.toArray) = pure (ps.zip (us ++ its.drop 0))) : BdK K fd ps i :=
  F.binds1 n 0 (by simp) hn h
end Pf
/-! defs whose every return is a list of one's own -/
namespace Pf
open PySem PySem.Spec PyProof.Rows L2 GxR GenW Gx Wk ZN
def PostSo (K : PySem.W.Frag) (S : Se) (M : Xw) (B : Hp) (r : Ro) (D0 : Ends) : Prop := match r with
  | .rt d => ∃ xs, d = .lst xs ∧ ∀ B' H' p o, Rel K S B' [] [] H' → Same B B' → S.H0 p = none → B' p = none → H' p = some o → OwOk K B' o (.l xs) → D0.rt (.ref p) H'
  | r => PostS K S M B r D0
def semSo (K : PySem.W.Frag) (S : Se) (M : Xw) (f : List Sl → Ro) : TS := fun D0 σ H => ∃ B env, Rel K S B env σ H ∧ PostSo K S M B (f env) D0
structure PXo (X : Cx) (S : Se) (M : Xw) (st : Stmt) (f : List Sl → Ro) : Prop where
  ps : PS X st (semSo X.K S M f)
structure PXso (X : Cx) (S : Se) (M : Xw) (st : List Stmt) (f : List Sl → Ro) : Prop where
  ps : PSs X st (semSo X.K S M f)
/-- no return here -/
def NoRt (f : List Sl → Ro) : Prop := ∀ env d, f env ≠ .rt d
theorem rSet_nr {i : Nat} {f : List Sl → Rs D} : NoRt (rSet i f) := fun env d h => by
  unfold rSet at h
  cases q : f env <;> (rw [q] at h; cases h)
/-- return e, a list of one's own -/
def rRetO (f : List Sl → Rs Ow) (env : List Sl) : Ro := (f env).ro fun w _ => match w with | .l xs => .rt (.lst xs) | _ => .bad
section
variable {X : Cx} {S : Se} {M : Xw}
theorem PostSo.mono {B B1 : Hp} {r : Ro} {D0 : Ends} (h : PostSo X.K S M B r D0) (sm : Same B B1) : PostSo X.K S M B1 r D0 := by
  cases r with
  | rt d =>
    obtain ⟨xs, e, h⟩ := h
    exact ⟨xs, e, fun B' H' p o R s => h B' H' p o R (sm.trans s)⟩
  | nx e => exact PostS.mono (D0 := D0) (S := S) (M := M) (r := .nx e) h sm
  | bk e => exact PostS.mono (D0 := D0) (S := S) (M := M) (r := .bk e) h sm
  | ct e => exact PostS.mono (D0 := D0) (S := S) (M := M) (r := .ct e) h sm
  | ex e => exact PostS.mono (D0 := D0) (S := S) (M := M) (r := .ex e) h sm
  | bad => exact h
theorem PostSo.of {α : Type} {σ : L2.St} {B H : Hp} {env : List Sl} {r : Rs α} {k : α → List Sl → Ro} {D0 : Ends} (h : PostSo X.K S M B (r.ro k) D0) :
    Post X.K S M σ B H env r fun a e B1 _ => PostSo X.K S M B1 (k a e) D0 := by
  cases r with
  | ok a e => exact fun B1 H1 R1 X1 => PostSo.mono h X1.same
  | ex x => exact h
  | bad => exact h
theorem PostSo.seq {B : Hp} {r : Ro} {g : List Sl → Ro} {D0 : Ends} (h : PostSo X.K S M B (r.seq g) D0) :
    PostSo X.K S M B r { nx := semSo X.K S M g D0, rt := D0.rt, bk := D0.bk, ct := D0.ct } := by
  cases r with
  | nx e => exact fun B' H' σ' R s => ⟨B', e, R, PostSo.mono h s⟩
  | bk e => exact h
  | ct e => exact h
  | rt d => exact h
  | ex x => exact h
  | bad => exact h
theorem qo_of {st : Stmt} {f : List Sl → Ro} (h : PX X S M st f) (n : NoRt f) : PXo X S M st f := ⟨psI h.ps (by
  rintro D0 σ H ⟨B, env, R, P⟩
  refine ⟨B, env, R, ?_⟩
  revert P
  cases q : f env with
  | rt d => exact absurd q (n env d)
  | nx e => exact fun P => P
  | bk e => exact fun P => P
  | ct e => exact fun P => P
  | ex e => exact fun P => P
  | bad => exact fun P => P)⟩
theorem qo_nil : PXso X S M [] Ro.nx := ⟨pssI pss_nil (by rintro D0 σ H ⟨B, env, R, P⟩; exact P B H σ R (Same.refl B))⟩
theorem qo_cons {st : Stmt} {rest : List Stmt} {f g : List Sl → Ro} (h : PXo X S M st f) (hs : PXso X S M rest g) : PXso X S M (st :: rest) (rSeq f g) :=
  ⟨pssI (pss_cons h.ps hs.ps) (by rintro D0 σ H ⟨B, env, R, P⟩; exact ⟨B, env, R, PostSo.seq P⟩)⟩
theorem qo_one {st : Stmt} {f : List Sl → Ro} (h : PXo X S M st f) : PXso X S M [st] f := ⟨pss_one h.ps⟩
theorem qo_if {c : Expr} {a b : List Stmt} {pos : Pos} {t : List Sl → Rs Bool} {f g : List Sl → Ro} (hc : PB X S M c t) (ha : PXso X S M a f) (hb : PXso X S M b g) :
    PXo X S M (.If c a b pos) (rIf t f g) := ⟨psI (ps_if hc.pt ha.ps hb.ps) (by
  rintro D0 σ H ⟨B, env, R, P⟩
  refine ⟨B, env, R, (PostSo.of P).mono fun k e B1 H1 R1 X1 P1 => ?_⟩
  cases k with
  | true => exact ⟨B1, e, R1, P1⟩
  | false => exact ⟨B1, e, R1, P1⟩)⟩
theorem qo_ret {e : Expr} {pos : Pos} {f : List Sl → Rs Ow} (h : PN X S M e f) : PXo X S M (.Return (some e) pos) (rRetO f) := ⟨psI (ps_ret h.pe) (by
  rintro D0 σ H ⟨B, env, R, P⟩
  refine ⟨B, env, R, (PostSo.of P).mono fun w e B1 H1 R1 X1 P1 p o hp F ho => ?_⟩
  cases w <;> first | exact P1.elim | skip
  obtain ⟨xs, e, h⟩ := P1
  cases e
  exact h B1 H1 p o R1.bare (Same.refl _) F.1 F.2.1 F.2.2.1 ho)⟩
end
/-- a call gives a list of one's own -/
def spN (K : PySem.W.Frag) (T : List Addr) (xc : Str → Option Value) (n : Nat) (F : List D → Rf) : Sp := fun vs H Q E =>
  vs.length = n ∧ ∃ B ds, Sit K ⟨T, H, B⟩ B H ∧ DqAll K B vs ds ∧ match F ds with
    | .ok d => ∃ xs, d = .lst xs ∧ ∀ B' H' p o, Grow K ⟨T, H, B⟩ B H B' H' → H p = none → B' p = none → H' p = some o → OwOk K B' o (.l xs) → Q (.ref p) H'
    | .ex x => XOk K ⟨T, H, B⟩ ⟨E, xc⟩ x
    | .bad => False
theorem fn_own {P : Program} {w : World} {K : PySem.W.Frag} {mg : Str → Option Value} {base : Heap} {x qual : Str} {st : Stmt} {f c : Addr} {fd : FuncData} {N ps : List Str} {k : Nat}
    {T : List Addr} {xc : Str → Option Value} {F : List D → Rf} {b : List Sl → Ro}
    (Fu : FunC K x qual st f fd c) (Sc : FnScope N ps (defScope st)) (hF : ∀ ds, ds.length = ps.length → F ds = (b (env0 N.length ds)).fn) (hn : ∀ env e, b env ≠ .nx e)
    (h : ∀ (A : Around) (outer : List Env) (s : Shared) (H B : Hp) (E : XK),
      Room k (A.deeper (envOfC qual (defScope st) s.heap.objs.size f (.ref c))) →
      PXso (cxOf (CX P w) P w K mg base N qual (defScope st) f (.ref c) A outer s H E) ⟨T, H, B⟩ ⟨E, xc⟩ (defBody st) b) :
    FnOk P w K mg base (CX P w) (k + 1) f fd ps (spN K T xc ps.length F) := by
  obtain ⟨oc, od, kV, doc, pm, an, ct, osl, h1, h2, h3⟩ := Fu.ex
  subst h1
  refine fn_of h2 h3 Sc (fun vs H Q E h => h.1) fun A outer s H vs Q E hr hsp => ?_
  obtain ⟨hl, B, ds, sit, hd, hk⟩ := hsp
  refine ⟨_, (h A outer s H B E hr).ps, B, env0 N.length ds, ?_, ?_⟩
  · refine rel0 (S := ⟨T, H, B⟩) sit hd ?_
    rw [hl, ← Sc.pre]
    exact List.length_take_le' _ _
  · rw [hF ds (by rw [← hd.length]; exact hl)] at hk
    have grow : ∀ {B' H' : Hp} {e : List Sl} {σ' : L2.St}, Rel K ⟨T, H, B⟩ B' e σ' H' → Grow K ⟨T, H, B⟩ B H B' H' := fun R => ⟨R.old, R.tab, R.b0, R.bh, R.nt, R.new⟩
    revert hk
    cases q : b (env0 N.length ds) with
    | nx e => exact absurd q (hn _ e)
    | rt d =>
      rintro ⟨xs, e, hk⟩
      exact ⟨xs, e, fun B' H' p o R sm h0 hb hp ho => hk B' H' p o (grow R) h0 hb hp ho⟩
    | ex x => exact fun hk => hk
    | bk e => exact fun hk => hk.elim
    | ct e => exact fun hk => hk.elim
    | bad => exact fun hk => hk.elim
def vCallO (n : Nat) (F : List D → Rf) (g : List Sl → Rs (List D)) (env : List Sl) : Rs Ow := (g env).bind fun ds e => if ds.length = n then (match F ds with
  | .ok (.lst xs) => .ok (.l xs) e
  | .ok _ => .bad
  | .ex x => .ex x
  | .bad => .bad) else .bad
section
variable {X : Cx} {S : Se} {M : Xw}
theorem q_callO {k n : Nat} {f : Addr} {fd : FuncData} {ps : List Str} {F : List D → Rf} {x : Str} {p pos : Pos} {e : Expr} {es : List Expr} {g : List Sl → Rs (List D)}
    (G : FnOk X.prog X.w X.K X.mg X.base (CX X.prog X.w) k f fd ps (spN X.K S.T M.xc n F)) (hr : Room k X.A) (hg : Gl X x) (hm : X.mg x = some (.ref f)) (hk : PySem.W.keepIn X.K (.ref f) = true)
    (hb : L2.Binds X.K fd ps []) (hx : Passes (CX X.prog X.w) X M.E) (ha : PAs X S M (e :: es) g) (hl : (e :: es).length = n := by rfl)
    (h1 : (x == Str.ofString "__debug__") = false := by rfl) (h2 : starEach (e :: es) X.env = (false, eval e X.env) :: starEach es X.env := by rfl)
    (h3 : ((backTo pos (starEach es X.env)).any fun x => x.1) = false := by rfl) : PN X S M (.Call (.Name x p) (e :: es) [] pos) (vCallO n F g) :=
  ⟨peI (pe_call G hr hg hm hk hb .nil hx ha.pa h1 h2 h3) (by
  rintro σ H Q ⟨B, env, R, P⟩
  refine ⟨B, env, R, (Post.bind P).mono fun ds e B1 H1 R1 X1 P1 vs hvs => ?_⟩
  show spN X.K S.T M.xc n F (vs ++ []) H1 Q M.E
  rw [List.append_nil]
  split at P1
  · rename_i hn
    refine ⟨by rw [hvs.length, hn], B1, ds, ⟨R1.tab, R1.bh, R1.nt⟩, hvs, ?_⟩
    revert P1
    cases q : F ds with
    | bad => exact fun P1 => P1
    | ex x => exact fun P1 => XOk.deep P1 R1.old
    | ok d =>
      cases d <;> first | exact fun P1 => P1.elim | skip
      rename_i xs
      refine fun P1 => ⟨xs, rfl, fun B2 H2 p o g2 h0 hb hp ho => ?_⟩
      have G2 : Grow X.K S B1 H1 B2 H2 := Grow.mk g2.old g2.tab g2.same g2.bh g2.nt g2.new
      refine P1 B2 H2 (G2.rel R1).1 (G2.rel R1).2 p o (X1.live p h0) ⟨R1.old.none h0, hb, hp, fun pr => ?_⟩ ho
      obtain ⟨_, _, o', w, h5, _⟩ := R1.prvB pr
      rw [h0] at h5
      cases h5
  · exact P1.elim)⟩
end
end Pf
namespace Pf
/-- a body that ends by a return -/
def NoNx (f : List Sl → Ro) : Prop := ∀ env e, f env ≠ .nx e
theorem rRetO_nn {f : List Sl → Rs Ow} : NoNx (rRetO f) := fun env e h => by
  unfold rRetO at h
  cases q : f env with
  | ok w e => rw [q] at h; cases w <;> cases h
  | ex x => rw [q] at h; cases h
  | bad => rw [q] at h; cases h
theorem rSeq_nn {f g : List Sl → Ro} (h : NoNx g) : NoNx (rSeq f g) := fun env e q => by
  unfold rSeq at q
  cases z : f env with
  | nx e' => rw [z] at q; exact h _ _ q
  | rt d => rw [z] at q; cases q
  | bk e => rw [z] at q; cases q
  | ct e => rw [z] at q; cases q
  | ex e => rw [z] at q; cases q
  | bad => rw [z] at q; cases q
end Pf
/-! texts: in, a text many times over, sign by sign -/
namespace Pf
open PySem PySem.Spec PyProof.Rows L2 GxR GenW Gx Wk ZN
theorem OpR_mul_str {X : Cx} : OpR X (binaryOp .Mult) (fun x y H Q => ∃ (z : Str) (n : Int), x = .str z ∧ y = .int n ∧ MulOk z n ∧ Q (.str (Txt.mul z n)) H) := by
  intro pins s σ H x y v u Q Iv rx ry h
  obtain ⟨z, n, rfl, rfl, ok, q⟩ := h
  obtain ⟨t, rfl⟩ := rx
  obtain ⟨t', rfl⟩ := ry
  exact SB.mul ok fun t' k => ⟨.str (Txt.mul z n), H, Iv.tok _, ⟨t', rfl⟩, q⟩
section
variable {X : Cx} {S : Se} {M : Xw}
/-- a text, n times -/
def dMulS (d e : D) : Option D := match d, e with
  | .str z, .int n => if z.length ≤ 64 ∧ n ≤ 4096 ∧ -(2 ^ 62) ≤ n then some (.str (Txt.mul z n)) else none
  | _, _ => none
theorem od_mulS : OpD X S (binaryOp .Mult) dMulS := ⟨_, OpR_mul_str, fun B H x y d e z Q s hx hy hc w => by
  revert hc
  cases hx <;> cases hy <;> intro hc <;> first | cases hc | skip
  rename_i a n
  have hc : (if a.length ≤ 64 ∧ n ≤ 4096 ∧ -(2 ^ 62) ≤ n then some (D.str (Txt.mul a n)) else none) = some z := hc
  split at hc
  · rename_i hb
    cases hc
    exact ⟨a, n, rfl, rfl, mulOk_of 64 4096 hb.1 hb.2.1 (by omega) (by decide) (by decide), Wish.now s w (.str _)⟩
  · cases hc⟩
/-- one sign in a text -/
def dInT (neg : Bool) (d e : D) : Option D := match d, e with
  | .str x, .str y => (match x.cps.toList with
    | [c] => some (.bl (if neg = true then !decide (c ∈ y.cps.toList) else decide (c ∈ y.cps.toList)))
    | _ => none)
  | _, _ => none
theorem sgn_of {x : Str} {c : Nat} (h : x.cps.toList = [c]) : x = ⟨#[c]⟩ := by
  obtain ⟨a⟩ := x
  have : a = #[c] := Array.toList_inj.mp (by rw [h])
  rw [this]
theorem od_inT : OpD X S (compareOp .In) (dInT false) := ⟨_, op_in_sign, fun B H x y d e z Q s hx hy hc w => by
  revert hc
  cases hx <;> cases hy <;> intro hc <;> first | cases hc | skip
  rename_i a b
  unfold dInT at hc
  dsimp only at hc
  split at hc
  · rename_i c hcc
    cases hc
    exact ⟨c, b, by rw [sgn_of hcc], rfl, Wish.now s w (.bl _)⟩
  · cases hc⟩
theorem od_notInT : OpD X S (compareOp .NotIn) (dInT true) := ⟨_, op_notIn_sign, fun B H x y d e z Q s hx hy hc w => by
  revert hc
  cases hx <;> cases hy <;> intro hc <;> first | cases hc | skip
  rename_i a b
  unfold dInT at hc
  dsimp only at hc
  split at hc
  · rename_i c hcc
    cases hc
    exact ⟨c, b, by rw [sgn_of hcc], rfl, Wish.now s w (.bl _)⟩
  · cases hc⟩
/-- a text sign by sign -/
def sgns (x : Str) : List D := x.cps.toList.map fun c => .str ⟨#[c]⟩
def fChars (f : List Sl → Rs D) (env : List Sl) : Rs (List D) := (f env).bind fun d e => match d with
  | .str x => .ok (sgns x) e
  | _ => .bad
theorem walk_c {K : PySem.W.Frag} {B : Hp} {x : Str} : Walk K S (Its x) (sgns x) B := by
  have hl : (sgns x).length = x.cps.size := by unfold sgns; simp
  refine ⟨fun B' H' i s sm hi => ?_, fun B' H' i s sm hi => ?_, fun B' H' i v H2 d s sm hi hy => ?_⟩
  · show i < x.cps.size
    rw [← hl]; exact hi
  · show x.cps.size ≤ i
    rw [← hl]; exact Nat.le_of_eq hi
  · obtain ⟨rfl, c, h1, rfl⟩ := hy
    refine ⟨B', ⟨Old.refl _, s.tab, Same.refl _, s.bh, s.nt, fun _ _ h => .inl h⟩, ?_⟩
    unfold sgns at hi
    rw [List.getElem?_map, Array.getElem?_toList, h1] at hi
    cases hi
    exact .str _
theorem pit_chars {tg e : Expr} {f : List Sl → Rs D} (h : PV X S M e f) : PIt X S M tg e (fChars f) := ⟨piI (pi_str h.pe) (by
  rintro σ H Q ⟨B, env, R, P⟩
  refine ⟨B, env, R, (Post.bind P).mono fun d e B1 H1 R1 X1 P1 v hv => ?_⟩
  cases hv <;> first | exact P1.elim | skip
  rename_i x
  exact ⟨x, rfl, P1.ok R1 _ walk_c⟩)⟩
/-- a slice of a text -/
def fSlS (f : List Sl → Rs D) (l h : List Sl → Rs (Option Int)) (env : List Sl) : Rs D :=
  (f env).bind fun d e => (l e).bind fun lo e => (h e).bind fun hi e => match d with
    | .str z => if z.length ≤ sizeLine then .ok (.str (cutS z lo hi)) e else .bad
    | _ => .bad
theorem pv_slS {a : Expr} {lo hi : Option Expr} {pos p2 : Pos} {f : List Sl → Rs D} {l h : List Sl → Rs (Option Int)} (ha : PV X S M a f) (hl : PQ X S M lo l) (hh : PQ X S M hi h) :
    PV X S M (.Subscript a (.Slice lo hi none p2) pos) (fSlS f l h) := ⟨peI (pe_slice sl_str ha.pe hl.po hh.po) (by
  rintro σ H Q ⟨B, env, R, P⟩
  refine ⟨B, env, R, (Post.bind P).mono fun d e B1 H1 R1 X1 P1 x hx => ⟨B1, e, R1, (Post.bind P1).mono fun lo e2 B2 H2 R2 X2 P2 => ⟨B2, e2, R2, (Post.bind P2).mono fun hi e3 B3 H3 R3 X3 P3 => ?_⟩⟩⟩
  cases hx <;> first | exact P3.elim | skip
  rename_i z
  dsimp only at P3
  split at P3
  · rename_i hz
    exact ⟨z, rfl, hz, P3.ok R3 _ (.str _)⟩
  · exact P3.elim)⟩
/-- in a tuple of any data -/
def dInP (neg : Bool) (d e : D) : Option D := match d.py, e with
  | some x, .tup es => (match D.py.pys es with
    | some ys => if SeqAt.shaped x = true ∧ SeqAt.shaped (.tuple ys) = true then some (.bl (if neg = true then !(ys.any fun z => PyData.eqv z x) else ys.any fun z => PyData.eqv z x)) else none
    | none => none)
  | _, _ => none
theorem op_inP (hu : X.A.units + 65 < cLine) : OpR X (compareOp .In) (fun x y H Q => ∃ d ds, Dp X.K H x d ∧ Dp X.K H y (.tuple ds) ∧ SeqAt.shaped d = true ∧ SeqAt.shaped (.tuple ds) = true ∧ Q (.bl (ds.any fun z => PyData.eqv z d)) H) := by
  intro pins s σ H x y v u Q Iv rx ry h
  obtain ⟨d, es, hd, he, sd, se, q⟩ := h
  obtain ⟨as, r1⟩ := Dp.reads Iv d x v hd rx
  obtain ⟨bs, r2⟩ := Dp.reads Iv (.tuple es) y u he ry
  exact SeqAt.in_tuple_reads r2 r1 (SeqAt.canLay_of_shaped se) (SeqAt.canLay_of_shaped sd) (room_in_shaped sd hu) ⟨.bl _, H, Iv, rfl, q⟩
theorem od_inP (hu : X.A.units + 65 < cLine) : OpD X S (compareOp .In) (dInP false) := ⟨_, op_inP hu, fun B H x y d e z Q s hx hy hc w => by
  unfold dInP at hc
  split at hc
  · rename_i x0 es hx0
    split at hc
    · rename_i ys hys
      split at hc
      · rename_i hs
        cases hc
        exact ⟨x0, ys, Dq.dp (hx.mono s.bh) hx0, Dq.dp (hy.mono s.bh) (by rw [D.py, hys]; rfl), hs.1, hs.2, Wish.now s w (.bl _)⟩
      · cases hc
    · cases hc
  · cases hc⟩
/-- len of a text -/
def cLenS : List D → Option D
  | [.str z] => if z.length ≤ sizeLine then some (.int ((z.length : Nat) : Int)) else none
  | _ => none
theorem cd_lenS : CalD X S (.builtin "len") cLenS := ⟨_, call_len_str, fun B H vs ds z Q s hd hc w => by
  unfold cLenS at hc
  split at hc
  · rename_i x
    obtain ⟨v, rfl, hv⟩ := dqall_one hd
    cases hv
    split at hc
    · rename_i hz
      cases hc
      exact ⟨x, rfl, hz, Wish.now s w (.int _)⟩
    · cases hc
  · cases hc⟩
end
end Pf
namespace Pf
open PyProof.Rows L2 PySem.Spec PySem
/-! symbolic runs: what each piece makes of what stood ahead of it -/
theorem xo_some {α : Type} {a : α} {e : List Sl} : Rs.opt (some a) e = .ok a e := Eq.trans rfl rfl
theorem xb_ok {α β : Type} {a : α} {e : List Sl} {f : α → List Sl → Rs β} : Rs.bind (.ok a e) f = f a e := Eq.trans rfl rfl
theorem xb_ex {α β : Type} {x : Exn} {f : α → List Sl → Rs β} : Rs.bind (.ex x) f = .ex x := Eq.trans rfl rfl
theorem xr_ok {α : Type} {a : α} {e : List Sl} {k : α → List Sl → Ro} : Rs.ro (.ok a e) k = k a e := Eq.trans rfl rfl
theorem xr_ex {α : Type} {x : Exn} {k : α → List Sl → Ro} : Rs.ro (.ex x) k = .ex x := Eq.trans rfl rfl
theorem xs_nx {e : List Sl} {g : List Sl → Ro} : Ro.seq (.nx e) g = g e := Eq.trans rfl rfl
theorem xs_rt {d : D} {g : List Sl → Ro} : Ro.seq (.rt d) g = .rt d := Eq.trans rfl rfl
theorem xs_ex {x : Exn} {g : List Sl → Ro} : Ro.seq (.ex x) g = .ex x := Eq.trans rfl rfl
theorem xs_bk {e : List Sl} {g : List Sl → Ro} : Ro.seq (.bk e) g = .bk e := Eq.trans rfl rfl
theorem xs_ct {e : List Sl} {g : List Sl → Ro} : Ro.seq (.ct e) g = .ct e := Eq.trans rfl rfl
theorem xn_rt {d : D} : Ro.fn (.rt d) = .ok d := Eq.trans rfl rfl
theorem xn_nx {e : List Sl} : Ro.fn (.nx e) = .ok .non := Eq.trans rfl rfl
theorem xn_ex {x : Exn} : Ro.fn (.ex x) = .ex x := Eq.trans rfl rfl
theorem len_le {n : Nat} (h : n ≤ 4000) : n ≤ sizeLine := Nat.le_trans h (Nat.le_of_ble_eq_true rfl)
theorem len_lt {n : Nat} (h : n < 4000) : n < sizeLine := Nat.lt_of_lt_of_le h (Nat.le_of_ble_eq_true rfl)
theorem uSeq {f g : List Sl → Ro} {env : List Sl} : rSeq f g env = (f env).seq g := Eq.trans rfl rfl
def kRet  (r : Rs D) : Ro := r.ro fun d _ => .rt d
theorem uRet {f : List Sl → Rs D} {env : List Sl} : rRet f env = kRet  (f env) := Eq.trans rfl rfl
theorem vRet0  {d : D} {e : List Sl} : kRet  (.ok d e) = .rt d := Eq.trans rfl rfl
theorem vRet1  {x : Exn} : kRet  (.ex x) = .ex x := Eq.trans rfl rfl
theorem uRetN {env : List Sl} : rRetN env = .rt .non := Eq.trans rfl rfl
theorem uBad {env : List Sl} : rBad env = .bad := Eq.trans rfl rfl
theorem uRaise {x : Str} {env : List Sl} : rRaise x env = .ex ⟨x, []⟩ := Eq.trans rfl rfl
def kExpr  (r : Rs D) : Ro := r.ro fun _ e => .nx e
theorem uExpr {f : List Sl → Rs D} {env : List Sl} : rExpr f env = kExpr  (f env) := Eq.trans rfl rfl
theorem vExpr0  {d : D} {e : List Sl} : kExpr  (.ok d e) = .nx e := Eq.trans rfl rfl
theorem vExpr1  {x : Exn} : kExpr  (.ex x) = .ex x := Eq.trans rfl rfl
def kIf (f : List Sl → Ro) (g : List Sl → Ro) (r : Rs Bool) : Ro := r.ro fun k e => if k = true then f e else g e
theorem uIf {t : List Sl → Rs Bool} {f : List Sl → Ro} {g : List Sl → Ro} {env : List Sl} : rIf t f g env = kIf f g (t env) := Eq.trans rfl rfl
theorem vIf0 {f : List Sl → Ro} {g : List Sl → Ro} {e : List Sl} : kIf f g (.ok true e) = f e := Eq.trans rfl rfl
theorem vIf1 {f : List Sl → Ro} {g : List Sl → Ro} {e : List Sl} : kIf f g (.ok false e) = g e := Eq.trans rfl rfl
theorem vIf2 {f : List Sl → Ro} {g : List Sl → Ro} {x : Exn} : kIf f g (.ex x) = .ex x := Eq.trans rfl rfl
def kSet (i : Nat) (r : Rs D) : Ro := r.ro fun d e => .nx (e.set i (.im d))
theorem uSet {i : Nat} {f : List Sl → Rs D} {env : List Sl} : rSet i f env = kSet i (f env) := Eq.trans rfl rfl
theorem vSet0 {i : Nat} {d : D} {e : List Sl} : kSet i (.ok d e) = .nx (e.set i (.im d)) := Eq.trans rfl rfl
theorem vSet1 {i : Nat} {x : Exn} : kSet i (.ex x) = .ex x := Eq.trans rfl rfl
def kSetO (i : Nat) (r : Rs Ow) : Ro := r.ro fun d e => .nx (e.set i (.ow d))
theorem uSetO {i : Nat} {f : List Sl → Rs Ow} {env : List Sl} : rSetO i f env = kSetO i (f env) := Eq.trans rfl rfl
theorem vSetO0 {i : Nat} {d : Ow} {e : List Sl} : kSetO i (.ok d e) = .nx (e.set i (.ow d)) := Eq.trans rfl rfl
theorem vSetO1 {i : Nat} {x : Exn} : kSetO i (.ex x) = .ex x := Eq.trans rfl rfl
def kFor (g : D → List Sl → Option (List Sl)) (b : List Sl → Ro) (r : Rs (List D)) : Ro := r.ro fun ds e => forR g b ds e
theorem uFor {f : List Sl → Rs (List D)} {g : D → List Sl → Option (List Sl)} {b : List Sl → Ro} {env : List Sl} : rFor f g b env = kFor g b (f env) := Eq.trans rfl rfl
theorem vFor0 {g : D → List Sl → Option (List Sl)} {b : List Sl → Ro} {ds : List D} {e : List Sl} : kFor g b (.ok ds e) = forR g b ds e := Eq.trans rfl rfl
theorem vFor1 {g : D → List Sl → Option (List Sl)} {b : List Sl → Ro} {x : Exn} : kFor g b (.ex x) = .ex x := Eq.trans rfl rfl
def kOnly : Ro → Ro
  | .nx e => .nx e
  | _ => .bad
def kOnto (r : Ro) (h : List Sl → Ro) : Ro := match r with
  | .nx e => h e
  | _ => .bad
def kRob (r : Rs D) (k : D → List Sl → Ro) : Ro := match r with
  | .ok a e => k a e
  | _ => .bad
theorem xrob_ok {a : D} {e : List Sl} {k : D → List Sl → Ro} : kRob (.ok a e) k = k a e := Eq.trans rfl rfl
theorem xonto_ok {e : List Sl} {k : List Sl → Ro} : kOnto (.nx e) k = k e := Eq.trans rfl rfl
theorem xonly_ok {e : List Sl} : kOnly (.nx e) = .nx e := Eq.trans rfl rfl
def kAsgM (g : D → List Sl → Ro) (r : Rs D) : Ro := r.ro fun d e => kOnly (g d e)
theorem uAsgM {g : D → List Sl → Ro} {f : List Sl → Rs D} {env : List Sl} : rAsgM g f env = kAsgM g (f env) := by
  unfold rAsgM kAsgM
  cases f env <;> rfl
theorem vAsgM {g : D → List Sl → Ro} {d : D} {e : List Sl} : kAsgM g (.ok d e) = kOnly (g d e) := Eq.trans rfl rfl
theorem uGmT2 {h : List D → List Sl → Ro} {a b : D} {env : List Sl} : gmT 2 h (.tup [a, b]) env = h [a, b] env := Eq.trans rfl rfl
theorem uGmC {g : D → List Sl → Ro} {h : List D → List Sl → Ro} {d : D} {ds : List D} {env : List Sl} : gmC g h (d :: ds) env = kOnto (g d env) (h ds) := Eq.trans rfl rfl
theorem uGmN {env : List Sl} : gmN [] env = .nx env := Eq.trans rfl rfl
theorem uGOfN {i : Nat} {d : D} {env : List Sl} : gOf (gNm i) d env = .nx (env.set i (.im d)) := Eq.trans rfl rfl
theorem uNm {i : Nat} {d : D} {env : List Sl} : gNm i d env = some (env.set i (.im d)) := Eq.trans rfl rfl
theorem uTwo {i j : Nat} {a b : D} {env : List Sl} : gTu 2 (gsC (gNm i) (gsC (gNm j) gsN)) (.tup [a, b]) env = some ((env.set i (.im a)).set j (.im b)) := Eq.trans rfl rfl
theorem uThree {i j k : Nat} {a b c : D} {env : List Sl} : gTu 3 (gsC (gNm i) (gsC (gNm j) (gsC (gNm k) gsN))) (.tup [a, b, c]) env = some (((env.set i (.im a)).set j (.im b)).set k (.im c)) := Eq.trans rfl rfl
def kAsg (g : D → List Sl → Option (List Sl)) (r : Rs D) : Ro := r.ro fun d e => match g d e with | some e' => .nx e' | none => .bad
def kAsgZ (o : Option (List Sl)) : Ro := match o with | some e' => .nx e' | none => .bad
theorem uAsg {g : D → List Sl → Option (List Sl)} {f : List Sl → Rs D} {env : List Sl} : rAsg g f env = kAsg g (f env) := Eq.trans rfl rfl
theorem vAsg {g : D → List Sl → Option (List Sl)} {d : D} {e : List Sl} : kAsg g (.ok d e) = kAsgZ (g d e) := Eq.trans rfl rfl
theorem vAsgZ {e : List Sl} : kAsgZ (some e) = .nx e := Eq.trans rfl rfl
def kPar (i j : Nat) (r : Rs (List D)) : Ro := r.ro fun ds e => match ds with
  | [d, d2] => .nx ((e.set i (.im d)).set j (.im d2))
  | _ => .bad
theorem uPar {i j : Nat} {f : List Sl → Rs (List D)} {env : List Sl} : rPar i j f env = kPar i j (f env) := Eq.trans rfl rfl
theorem vPar {i j : Nat} {a b : D} {e : List Sl} : kPar i j (.ok [a, b] e) = .nx ((e.set i (.im a)).set j (.im b)) := Eq.trans rfl rfl
theorem uK {d : D} {env : List Sl} : vK d env = .ok d env := Eq.trans rfl rfl
theorem uYes {env : List Sl} : tYes' env = .ok true env := Eq.trans rfl rfl
theorem uPNo {env : List Sl} : pNo env = .ok none env := Eq.trans rfl rfl
theorem uNil {env : List Sl} : aNil env = .ok [] env := Eq.trans rfl rfl
theorem uIx {f g : List Sl → Rs D} {env : List Sl} : fIx f g env = f2 f g ixD env := Eq.trans rfl rfl
def k2b (c : D → D → Option D) (d : D) (r : Rs D) : Rs D := r.bind fun d2 e2 => Rs.opt (c d d2) e2
def k2 (g : List Sl → Rs D) (c : D → D → Option D) (r : Rs D) : Rs D := r.bind fun d e => k2b c d (g e)
theorem u2 {f : List Sl → Rs D} {g : List Sl → Rs D} {c : D → D → Option D} {env : List Sl} : f2 f g c env = k2 g c (f env) := Eq.trans rfl rfl
theorem v20 {g : List Sl → Rs D} {c : D → D → Option D} {d : D} {e : List Sl} : k2 g c (.ok d e) = k2b c d (g e) := Eq.trans rfl rfl
theorem v21 {g : List Sl → Rs D} {c : D → D → Option D} {x : Exn} : k2 g c (.ex x) = .ex x := Eq.trans rfl rfl
theorem v2b0 {c : D → D → Option D} {d d2 : D} {e : List Sl} : k2b c d (.ok d2 e) = Rs.opt (c d d2) e := Eq.trans rfl rfl
theorem v2b1 {c : D → D → Option D} {d : D} {x : Exn} : k2b c d (.ex x) = .ex x := Eq.trans rfl rfl
def kAsB  (r : Rs D) : Rs Bool := r.bind fun d e => Rs.opt d.asB e
theorem uAsB {f : List Sl → Rs D} {env : List Sl} : fAsB f env = kAsB  (f env) := Eq.trans rfl rfl
theorem vAsB0  {d : D} {e : List Sl} : kAsB  (.ok d e) = Rs.opt d.asB e := Eq.trans rfl rfl
theorem vAsB1  {x : Exn} : kAsB  (.ex x) = .ex x := Eq.trans rfl rfl
def kTru  (r : Rs D) : Rs Bool := r.bind fun d e => Rs.opt d.tru e
theorem uTru {f : List Sl → Rs D} {env : List Sl} : fTru f env = kTru  (f env) := Eq.trans rfl rfl
theorem vTru0  {d : D} {e : List Sl} : kTru  (.ok d e) = Rs.opt d.tru e := Eq.trans rfl rfl
theorem vTru1  {x : Exn} : kTru  (.ex x) = .ex x := Eq.trans rfl rfl
def kNot  (r : Rs D) : Rs D := r.bind fun d e => Rs.opt (d.asB.map fun b => .bl (!b)) e
theorem uNot {f : List Sl → Rs D} {env : List Sl} : fNot f env = kNot  (f env) := Eq.trans rfl rfl
theorem vNot0  {b : Bool} {e : List Sl} : kNot  (.ok (.bl b) e) = .ok (.bl (!b)) e := Eq.trans rfl rfl
theorem vNot1  {x : Exn} : kNot  (.ex x) = .ex x := Eq.trans rfl rfl
def kAnd (g : List Sl → Rs D) (r : Rs D) : Rs D := r.bind fun d e => (Rs.opt d.asB e).bind fun b e => if b = true then g e else .ok (.bl false) e
theorem uAnd {f : List Sl → Rs D} {g : List Sl → Rs D} {env : List Sl} : fAnd f g env = kAnd g (f env) := Eq.trans rfl rfl
theorem vAnd0 {g : List Sl → Rs D} {e : List Sl} : kAnd g (.ok (.bl true) e) = g e := Eq.trans rfl rfl
theorem vAnd1 {g : List Sl → Rs D} {e : List Sl} : kAnd g (.ok (.bl false) e) = .ok (.bl false) e := Eq.trans rfl rfl
theorem vAnd2 {g : List Sl → Rs D} {x : Exn} : kAnd g (.ex x) = .ex x := Eq.trans rfl rfl
def kOr (g : List Sl → Rs D) (r : Rs D) : Rs D := r.bind fun d e => (Rs.opt d.asB e).bind fun b e => if b = true then .ok (.bl true) e else g e
theorem uOr {f : List Sl → Rs D} {g : List Sl → Rs D} {env : List Sl} : fOr f g env = kOr g (f env) := Eq.trans rfl rfl
theorem vOr0 {g : List Sl → Rs D} {e : List Sl} : kOr g (.ok (.bl true) e) = .ok (.bl true) e := Eq.trans rfl rfl
theorem vOr1 {g : List Sl → Rs D} {e : List Sl} : kOr g (.ok (.bl false) e) = g e := Eq.trans rfl rfl
theorem vOr2 {g : List Sl → Rs D} {x : Exn} : kOr g (.ex x) = .ex x := Eq.trans rfl rfl
def kOrZ (g : List Sl → Rs D) (d : D) (e : List Sl) (o : Option Bool) : Rs D := (Rs.opt o e).bind fun b e => if b = true then .ok d e else g e
def kAndZ (g : List Sl → Rs D) (d : D) (e : List Sl) (o : Option Bool) : Rs D := (Rs.opt o e).bind fun b e => if b = true then g e else .ok d e
def kOrT (g : List Sl → Rs D) (r : Rs D) : Rs D := r.bind fun d e => kOrZ g d e d.tru
theorem uOrT {f : List Sl → Rs D} {g : List Sl → Rs D} {env : List Sl} : fOrT f g env = kOrT g (f env) := Eq.trans rfl rfl
theorem vOrT0 {g : List Sl → Rs D} {d : D} {e : List Sl} : kOrT g (.ok d e) = kOrZ g d e d.tru := Eq.trans rfl rfl
theorem vOrT1 {g : List Sl → Rs D} {x : Exn} : kOrT g (.ex x) = .ex x := Eq.trans rfl rfl
def kAndT (g : List Sl → Rs D) (r : Rs D) : Rs D := r.bind fun d e => kAndZ g d e d.tru
theorem uAndT {f : List Sl → Rs D} {g : List Sl → Rs D} {env : List Sl} : fAndT f g env = kAndT g (f env) := Eq.trans rfl rfl
theorem vAndT0 {g : List Sl → Rs D} {d : D} {e : List Sl} : kAndT g (.ok d e) = kAndZ g d e d.tru := Eq.trans rfl rfl
theorem vAndT1 {g : List Sl → Rs D} {x : Exn} : kAndT g (.ex x) = .ex x := Eq.trans rfl rfl
theorem vOrZ0 {g : List Sl → Rs D} {d : D} {e : List Sl} : kOrZ g d e (some true) = .ok d e := Eq.trans rfl rfl
theorem vOrZ1 {g : List Sl → Rs D} {d : D} {e : List Sl} : kOrZ g d e (some false) = g e := Eq.trans rfl rfl
theorem vAndZ0 {g : List Sl → Rs D} {d : D} {e : List Sl} : kAndZ g d e (some true) = g e := Eq.trans rfl rfl
theorem vAndZ1 {g : List Sl → Rs D} {d : D} {e : List Sl} : kAndZ g d e (some false) = .ok d e := Eq.trans rfl rfl
def kbNot  (r : Rs Bool) : Rs Bool := r.bind fun b e => .ok (!b) e
theorem ubNot {f : List Sl → Rs Bool} {env : List Sl} : bNot f env = kbNot  (f env) := Eq.trans rfl rfl
theorem vbNot0  {b : Bool} {e : List Sl} : kbNot  (.ok b e) = .ok (!b) e := Eq.trans rfl rfl
theorem vbNot1  {x : Exn} : kbNot  (.ex x) = .ex x := Eq.trans rfl rfl
def kbAnd (g : List Sl → Rs Bool) (r : Rs Bool) : Rs Bool := r.bind fun b e => if b = true then g e else .ok false e
theorem ubAnd {f : List Sl → Rs Bool} {g : List Sl → Rs Bool} {env : List Sl} : bAnd f g env = kbAnd g (f env) := Eq.trans rfl rfl
theorem vbAnd0 {g : List Sl → Rs Bool} {e : List Sl} : kbAnd g (.ok true e) = g e := Eq.trans rfl rfl
theorem vbAnd1 {g : List Sl → Rs Bool} {e : List Sl} : kbAnd g (.ok false e) = .ok false e := Eq.trans rfl rfl
theorem vbAnd2 {g : List Sl → Rs Bool} {x : Exn} : kbAnd g (.ex x) = .ex x := Eq.trans rfl rfl
def kbOr (g : List Sl → Rs Bool) (r : Rs Bool) : Rs Bool := r.bind fun b e => if b = true then .ok true e else g e
theorem ubOr {f : List Sl → Rs Bool} {g : List Sl → Rs Bool} {env : List Sl} : bOr f g env = kbOr g (f env) := Eq.trans rfl rfl
theorem vbOr0 {g : List Sl → Rs Bool} {e : List Sl} : kbOr g (.ok true e) = .ok true e := Eq.trans rfl rfl
theorem vbOr1 {g : List Sl → Rs Bool} {e : List Sl} : kbOr g (.ok false e) = g e := Eq.trans rfl rfl
theorem vbOr2 {g : List Sl → Rs Bool} {x : Exn} : kbOr g (.ex x) = .ex x := Eq.trans rfl rfl
def kIfE (f : List Sl → Rs D) (g : List Sl → Rs D) (r : Rs Bool) : Rs D := r.bind fun b e => if b = true then f e else g e
theorem uIfE {t : List Sl → Rs Bool} {f : List Sl → Rs D} {g : List Sl → Rs D} {env : List Sl} : fIf t f g env = kIfE f g (t env) := Eq.trans rfl rfl
theorem vIfE0 {f : List Sl → Rs D} {g : List Sl → Rs D} {e : List Sl} : kIfE f g (.ok true e) = f e := Eq.trans rfl rfl
theorem vIfE1 {f : List Sl → Rs D} {g : List Sl → Rs D} {e : List Sl} : kIfE f g (.ok false e) = g e := Eq.trans rfl rfl
theorem vIfE2 {f : List Sl → Rs D} {g : List Sl → Rs D} {x : Exn} : kIfE f g (.ex x) = .ex x := Eq.trans rfl rfl
def kCh4 (c2 : D → D → Option D) (d2 : D) (r : Rs D) : Rs D := r.bind fun d3 e => Rs.opt (c2 d2 d3) e
def kCh3 (h : List Sl → Rs D) (c2 : D → D → Option D) (d2 : D) (r : Rs D) : Rs D := r.bind fun b e => (Rs.opt b.asB e).bind fun k e => if k = true then kCh4 c2 d2 (h e) else .ok (.bl false) e
def kCh2 (h : List Sl → Rs D) (c1 c2 : D → D → Option D) (d : D) (r : Rs D) : Rs D := r.bind fun d2 e => kCh3 h c2 d2 (Rs.opt (c1 d d2) e)
def kCh (g h : List Sl → Rs D) (c1 c2 : D → D → Option D) (r : Rs D) : Rs D := r.bind fun d e => kCh2 h c1 c2 d (g e)
theorem uCh {f g h : List Sl → Rs D} {c1 c2 : D → D → Option D} {env : List Sl} : fChain f g h c1 c2 env = kCh g h c1 c2 (f env) := by
  unfold fChain kCh
  cases f env <;> first | rfl | skip
  rename_i x e
  show Rs.bind (g e) _ = kCh2 h c1 c2 x (g e)
  unfold kCh2
  cases g e <;> first | rfl | skip
  rename_i y e
  show Rs.bind (Rs.opt ((c1 x y).bind D.asB) e) _ = kCh3 h c2 y (Rs.opt (c1 x y) e)
  cases c1 x y <;> rfl
theorem vCh {g h : List Sl → Rs D} {c1 c2 : D → D → Option D} {d : D} {e : List Sl} : kCh g h c1 c2 (.ok d e) = kCh2 h c1 c2 d (g e) := Eq.trans rfl rfl
theorem vCh2 {h : List Sl → Rs D} {c1 c2 : D → D → Option D} {d d2 : D} {e : List Sl} : kCh2 h c1 c2 d (.ok d2 e) = kCh3 h c2 d2 (Rs.opt (c1 d d2) e) := Eq.trans rfl rfl
theorem vCh3t {h : List Sl → Rs D} {c2 : D → D → Option D} {d2 : D} {e : List Sl} : kCh3 h c2 d2 (.ok (.bl true) e) = kCh4 c2 d2 (h e) := Eq.trans rfl rfl
theorem vCh3f {h : List Sl → Rs D} {c2 : D → D → Option D} {d2 : D} {e : List Sl} : kCh3 h c2 d2 (.ok (.bl false) e) = .ok (.bl false) e := Eq.trans rfl rfl
theorem vCh4 {c2 : D → D → Option D} {d2 d3 : D} {e : List Sl} : kCh4 c2 d2 (.ok d3 e) = Rs.opt (c2 d2 d3) e := Eq.trans rfl rfl
def kCons2 (d : D) (r : Rs (List D)) : Rs (List D) := r.bind fun ds e => .ok (d :: ds) e
def kCons (g : List Sl → Rs (List D)) (r : Rs D) : Rs (List D) := r.bind fun d e => kCons2 d (g e)
theorem uCons {f : List Sl → Rs D} {g : List Sl → Rs (List D)} {env : List Sl} : fCons f g env = kCons g (f env) := Eq.trans rfl rfl
theorem vCons0 {g : List Sl → Rs (List D)} {d : D} {e : List Sl} : kCons g (.ok d e) = kCons2 d (g e) := Eq.trans rfl rfl
theorem vCons1 {g : List Sl → Rs (List D)} {x : Exn} : kCons g (.ex x) = .ex x := Eq.trans rfl rfl
theorem vCons2a {d : D} {ds : List D} {e : List Sl} : kCons2 d (.ok ds e) = .ok (d :: ds) e := Eq.trans rfl rfl
theorem vCons2b {d : D} {x : Exn} : kCons2 d (.ex x) = .ex x := Eq.trans rfl rfl
def kRs (e : List Sl) (r : Rf) : Rs D := r.rs e
theorem vRs0 {d : D} {e : List Sl} : kRs e (.ok d) = .ok d e := Eq.trans rfl rfl
theorem vRs1 {x : Exn} {e : List Sl} : kRs e (.ex x) = .ex x := Eq.trans rfl rfl
def kCall (n : Nat) (F : List D → Rf) (r : Rs (List D)) : Rs D := r.bind fun ds e => if ds.length = n then kRs e (F ds) else .bad
theorem uCall {n : Nat} {F : List D → Rf} {g : List Sl → Rs (List D)} {env : List Sl} : vCall n F g env = kCall n F (g env) := Eq.trans rfl rfl
theorem vCall0 {F : List D → Rf} {e : List Sl} : kCall 0 F (.ok [] e) = kRs e (F []) := Eq.trans rfl rfl
theorem vCall1 {F : List D → Rf} {d0 : D} {e : List Sl} : kCall 1 F (.ok [d0] e) = kRs e (F [d0]) := Eq.trans rfl rfl
theorem vCall2 {F : List D → Rf} {d0 d1 : D} {e : List Sl} : kCall 2 F (.ok [d0, d1] e) = kRs e (F [d0, d1]) := Eq.trans rfl rfl
theorem vCall3 {F : List D → Rf} {d0 d1 d2 : D} {e : List Sl} : kCall 3 F (.ok [d0, d1, d2] e) = kRs e (F [d0, d1, d2]) := Eq.trans rfl rfl
theorem vCall4 {F : List D → Rf} {d0 d1 d2 d3 : D} {e : List Sl} : kCall 4 F (.ok [d0, d1, d2, d3] e) = kRs e (F [d0, d1, d2, d3]) := Eq.trans rfl rfl
theorem vCall5 {F : List D → Rf} {d0 d1 d2 d3 d4 : D} {e : List Sl} : kCall 5 F (.ok [d0, d1, d2, d3, d4] e) = kRs e (F [d0, d1, d2, d3, d4]) := Eq.trans rfl rfl
theorem vCall6 {F : List D → Rf} {d0 d1 d2 d3 d4 d5 : D} {e : List Sl} : kCall 6 F (.ok [d0, d1, d2, d3, d4, d5] e) = kRs e (F [d0, d1, d2, d3, d4, d5]) := Eq.trans rfl rfl
theorem vCall7 {F : List D → Rf} {d0 d1 d2 d3 d4 d5 d6 : D} {e : List Sl} : kCall 7 F (.ok [d0, d1, d2, d3, d4, d5, d6] e) = kRs e (F [d0, d1, d2, d3, d4, d5, d6]) := Eq.trans rfl rfl
theorem vCall8 {F : List D → Rf} {d0 d1 d2 d3 d4 d5 d6 d7 : D} {e : List Sl} : kCall 8 F (.ok [d0, d1, d2, d3, d4, d5, d6, d7] e) = kRs e (F [d0, d1, d2, d3, d4, d5, d6, d7]) := Eq.trans rfl rfl
theorem vCallx {n : Nat} {F : List D → Rf} {x : Exn} : kCall n F (.ex x) = .ex x := Eq.trans rfl rfl
def kCB (C : List D → Option D) (r : Rs (List D)) : Rs D := r.bind fun ds e => Rs.opt (C ds) e
theorem uCB {g : List Sl → Rs (List D)} {C : List D → Option D} {env : List Sl} : fCB g C env = kCB C (g env) := Eq.trans rfl rfl
theorem vCB0 {C : List D → Option D} {ds : List D} {e : List Sl} : kCB C (.ok ds e) = Rs.opt (C ds) e := Eq.trans rfl rfl
theorem vCB1 {C : List D → Option D} {x : Exn} : kCB C (.ex x) = .ex x := Eq.trans rfl rfl
def kTup (r : Rs (List D)) : Rs D := r.bind fun ds e => if ds.length ≤ sizeLine then .ok (.tup ds) e else .bad
theorem uTup {f : List Sl → Rs (List D)} {env : List Sl} : fTup f env = kTup (f env) := Eq.trans rfl rfl
def kLst (r : Rs (List D)) : Rs Ow := r.bind fun ds e => if ds.length ≤ sizeLine then .ok (.l ds) e else .bad
theorem kTup_ok {ds : List D} {e : List Sl} (h : ds.length ≤ 4000) : kTup (.ok ds e) = .ok (.tup ds) e := if_pos (len_le h)
theorem kLst_ok {ds : List D} {e : List Sl} (h : ds.length ≤ 4000) : kLst (.ok ds e) = .ok (.l ds) e := if_pos (len_le h)
theorem uLst {f : List Sl → Rs (List D)} {env : List Sl} : fLst f env = kLst (f env) := Eq.trans rfl rfl
theorem vTup0 {e : List Sl} : kTup (.ok [] e) = .ok (.tup []) e := kTup_ok (Nat.le_of_ble_eq_true rfl)
theorem vLst0 {e : List Sl} : kLst (.ok [] e) = .ok (.l []) e := kLst_ok (Nat.le_of_ble_eq_true rfl)
theorem vTup1 {d0 : D} {e : List Sl} : kTup (.ok [d0] e) = .ok (.tup [d0]) e := kTup_ok (Nat.le_of_ble_eq_true rfl)
theorem vLst1 {d0 : D} {e : List Sl} : kLst (.ok [d0] e) = .ok (.l [d0]) e := kLst_ok (Nat.le_of_ble_eq_true rfl)
theorem vTup2 {d0 d1 : D} {e : List Sl} : kTup (.ok [d0, d1] e) = .ok (.tup [d0, d1]) e := kTup_ok (Nat.le_of_ble_eq_true rfl)
theorem vLst2 {d0 d1 : D} {e : List Sl} : kLst (.ok [d0, d1] e) = .ok (.l [d0, d1]) e := kLst_ok (Nat.le_of_ble_eq_true rfl)
theorem vTup3 {d0 d1 d2 : D} {e : List Sl} : kTup (.ok [d0, d1, d2] e) = .ok (.tup [d0, d1, d2]) e := kTup_ok (Nat.le_of_ble_eq_true rfl)
theorem vLst3 {d0 d1 d2 : D} {e : List Sl} : kLst (.ok [d0, d1, d2] e) = .ok (.l [d0, d1, d2]) e := kLst_ok (Nat.le_of_ble_eq_true rfl)
theorem vTup4 {d0 d1 d2 d3 : D} {e : List Sl} : kTup (.ok [d0, d1, d2, d3] e) = .ok (.tup [d0, d1, d2, d3]) e := kTup_ok (Nat.le_of_ble_eq_true rfl)
theorem vLst4 {d0 d1 d2 d3 : D} {e : List Sl} : kLst (.ok [d0, d1, d2, d3] e) = .ok (.l [d0, d1, d2, d3]) e := kLst_ok (Nat.le_of_ble_eq_true rfl)
theorem vTup5 {d0 d1 d2 d3 d4 : D} {e : List Sl} : kTup (.ok [d0, d1, d2, d3, d4] e) = .ok (.tup [d0, d1, d2, d3, d4]) e := kTup_ok (Nat.le_of_ble_eq_true rfl)
theorem vLst5 {d0 d1 d2 d3 d4 : D} {e : List Sl} : kLst (.ok [d0, d1, d2, d3, d4] e) = .ok (.l [d0, d1, d2, d3, d4]) e := kLst_ok (Nat.le_of_ble_eq_true rfl)
theorem vTup6 {d0 d1 d2 d3 d4 d5 : D} {e : List Sl} : kTup (.ok [d0, d1, d2, d3, d4, d5] e) = .ok (.tup [d0, d1, d2, d3, d4, d5]) e := kTup_ok (Nat.le_of_ble_eq_true rfl)
theorem vLst6 {d0 d1 d2 d3 d4 d5 : D} {e : List Sl} : kLst (.ok [d0, d1, d2, d3, d4, d5] e) = .ok (.l [d0, d1, d2, d3, d4, d5]) e := kLst_ok (Nat.le_of_ble_eq_true rfl)
theorem vTup7 {d0 d1 d2 d3 d4 d5 d6 : D} {e : List Sl} : kTup (.ok [d0, d1, d2, d3, d4, d5, d6] e) = .ok (.tup [d0, d1, d2, d3, d4, d5, d6]) e := kTup_ok (Nat.le_of_ble_eq_true rfl)
theorem vLst7 {d0 d1 d2 d3 d4 d5 d6 : D} {e : List Sl} : kLst (.ok [d0, d1, d2, d3, d4, d5, d6] e) = .ok (.l [d0, d1, d2, d3, d4, d5, d6]) e := kLst_ok (Nat.le_of_ble_eq_true rfl)
theorem vTup8 {d0 d1 d2 d3 d4 d5 d6 d7 : D} {e : List Sl} : kTup (.ok [d0, d1, d2, d3, d4, d5, d6, d7] e) = .ok (.tup [d0, d1, d2, d3, d4, d5, d6, d7]) e := kTup_ok (Nat.le_of_ble_eq_true rfl)
theorem vLst8 {d0 d1 d2 d3 d4 d5 d6 d7 : D} {e : List Sl} : kLst (.ok [d0, d1, d2, d3, d4, d5, d6, d7] e) = .ok (.l [d0, d1, d2, d3, d4, d5, d6, d7]) e := kLst_ok (Nat.le_of_ble_eq_true rfl)
theorem vTupx {x : Exn} : kTup (.ex x) = .ex x := Eq.trans rfl rfl
def kFrz  (r : Rs Ow) : Rs D := r.bind fun w e => match w with | .l xs => .ok (.lst xs) e | _ => .bad
theorem uFrz {f : List Sl → Rs Ow} {env : List Sl} : fFrz f env = kFrz  (f env) := Eq.trans rfl rfl
theorem vFrz0  {xs : List D} {e : List Sl} : kFrz  (.ok (.l xs) e) = .ok (.lst xs) e := Eq.trans rfl rfl
theorem vFrz1  {x : Exn} : kFrz  (.ex x) = .ex x := Eq.trans rfl rfl
def kOw (e : List Sl) (o : Option (List D)) : Rs Ow := Rs.opt (o.map Ow.l) e
theorem vOw {e : List Sl} {xs : List D} : kOw e (some xs) = .ok (.l xs) e := Eq.trans rfl rfl
def kN2b (c : D → D → Option (List D)) (d : D) (r : Rs D) : Rs Ow := r.bind fun d2 e2 => kOw e2 (c d d2)
def kN2 (g : List Sl → Rs D) (c : D → D → Option (List D)) (r : Rs D) : Rs Ow := r.bind fun d e => kN2b c d (g e)
theorem uN2 {f : List Sl → Rs D} {g : List Sl → Rs D} {c : D → D → Option (List D)} {env : List Sl} : fN2 f g c env = kN2 g c (f env) := Eq.trans rfl rfl
theorem vN20 {g : List Sl → Rs D} {c : D → D → Option (List D)} {d : D} {e : List Sl} : kN2 g c (.ok d e) = kN2b c d (g e) := Eq.trans rfl rfl
theorem vN21 {g : List Sl → Rs D} {c : D → D → Option (List D)} {x : Exn} : kN2 g c (.ex x) = .ex x := Eq.trans rfl rfl
theorem vN2b {c : D → D → Option (List D)} {d d2 : D} {e : List Sl} : kN2b c d (.ok d2 e) = kOw e (c d d2) := Eq.trans rfl rfl
def kItems  (r : Rs D) : Rs (List D) := r.bind fun d e => Rs.opt d.items e
theorem uItems {f : List Sl → Rs D} {env : List Sl} : fItems f env = kItems  (f env) := Eq.trans rfl rfl
theorem vItems0  {d : D} {e : List Sl} : kItems  (.ok d e) = Rs.opt d.items e := Eq.trans rfl rfl
theorem vItems1  {x : Exn} : kItems  (.ex x) = .ex x := Eq.trans rfl rfl
def kNeg  (r : Rs D) : Rs D := r.bind fun d e => match d with | .int i => .ok (.int (-i)) e | _ => .bad
theorem uNeg {f : List Sl → Rs D} {env : List Sl} : fNeg f env = kNeg  (f env) := Eq.trans rfl rfl
theorem vNeg0  {i : Int} {e : List Sl} : kNeg  (.ok (.int i) e) = .ok (.int (-i)) e := Eq.trans rfl rfl
theorem vNeg1  {x : Exn} : kNeg  (.ex x) = .ex x := Eq.trans rfl rfl
def kPart  (r : Rs D) : Rs (Option Int) := r.bind fun d e => match d with | .int i => .ok (some i) e | _ => .bad
theorem uPart {f : List Sl → Rs D} {env : List Sl} : fPart f env = kPart  (f env) := Eq.trans rfl rfl
theorem vPart0  {i : Int} {e : List Sl} : kPart  (.ok (.int i) e) = .ok (some i) e := Eq.trans rfl rfl
theorem vPart1  {x : Exn} : kPart  (.ex x) = .ex x := Eq.trans rfl rfl
def isiD (ts : List String) (d : D) : Option D := d.ty.map fun a => .bl (ts.any (isBT a))
def kOwnT (r : Rs D) : Rs Bool := r.bind fun d e => match d with | .int n => .ok (n != 0) e | _ => .bad
def kIsi (ts : List String) (r : Rs D) : Rs D := r.bind fun d e => Rs.opt (d.ty.map fun a => .bl (ts.any (isBT a))) e
theorem uIsi {f : List Sl → Rs D} {ts : List String} {env : List Sl} : fIsi f ts env = kIsi ts (f env) := Eq.trans rfl rfl
theorem vIsi0 {ts : List String} {d : D} {e : List Sl} : kIsi ts (.ok d e) = Rs.opt (isiD ts d) e := Eq.trans rfl rfl
theorem vIsi1 {ts : List String} {x : Exn} : kIsi ts (.ex x) = .ex x := Eq.trans rfl rfl
def kSl3 (d : D) (lo : Option Int) (r : Rs (Option Int)) : Rs D := r.bind fun hi e => Rs.opt (slD lo hi d) e
def kSl2 (h : List Sl → Rs (Option Int)) (d : D) (r : Rs (Option Int)) : Rs D := r.bind fun lo e => kSl3 d lo (h e)
def kSl (l h : List Sl → Rs (Option Int)) (r : Rs D) : Rs D := r.bind fun d e => kSl2 h d (l e)
theorem uSl {f : List Sl → Rs D} {l h : List Sl → Rs (Option Int)} {env : List Sl} : fSl f l h env = kSl l h (f env) := Eq.trans rfl rfl
theorem vSl {l h : List Sl → Rs (Option Int)} {d : D} {e : List Sl} : kSl l h (.ok d e) = kSl2 h d (l e) := Eq.trans rfl rfl
theorem vSl2 {h : List Sl → Rs (Option Int)} {d : D} {o : Option Int} {e : List Sl} : kSl2 h d (.ok o e) = kSl3 d o (h e) := Eq.trans rfl rfl
theorem vSl3 {d : D} {o p : Option Int} {e : List Sl} : kSl3 d o (.ok p e) = Rs.opt (slD o p d) e := Eq.trans rfl rfl
def kNl (r : Rs (List D)) : Rs Ow := r.bind fun ds e => match ds with
  | [.lst xs] => .ok (.l xs) e
  | [.tup xs] => .ok (.l xs) e
  | _ => .bad
theorem uNl {g : List Sl → Rs (List D)} {env : List Sl} : fNewL g env = kNl (g env) := Eq.trans rfl rfl
theorem vNl0 {xs : List D} {e : List Sl} : kNl (.ok [.lst xs] e) = .ok (.l xs) e := Eq.trans rfl rfl
theorem vNl1 {xs : List D} {e : List Sl} : kNl (.ok [.tup xs] e) = .ok (.l xs) e := Eq.trans rfl rfl
def kRev (r : Rs D) : Rs Ow := r.bind fun d e => match d with
  | .lst xs => .ok (.l xs.reverse) e
  | _ => .bad
theorem uRev {f : List Sl → Rs D} {env : List Sl} : fRev f env = kRev (f env) := Eq.trans rfl rfl
theorem vRev {xs : List D} {e : List Sl} : kRev (.ok (.lst xs) e) = .ok (.l xs.reverse) e := Eq.trans rfl rfl
def kW (c : List D → Option (List D)) (r : Rs (List D)) : Rs (List D) := r.bind fun ds e => Rs.opt (c ds) e
theorem uRng1 {g : List Sl → Rs (List D)} {env : List Sl} : wRng1 g env = kW rng1 (g env) := Eq.trans rfl rfl
theorem uRng2 {g : List Sl → Rs (List D)} {env : List Sl} : wRng2 g env = kW rng2 (g env) := Eq.trans rfl rfl
theorem uRng3 {g : List Sl → Rs (List D)} {env : List Sl} : wRng3 g env = kW rng3 (g env) := Eq.trans rfl rfl
theorem uEnum {g : List Sl → Rs (List D)} {env : List Sl} : wEnumA g env = kW enum0 (g env) := Eq.trans rfl rfl
theorem uZip {g : List Sl → Rs (List D)} {env : List Sl} : wZip g env = kW zip2 (g env) := Eq.trans rfl rfl
theorem vW {c : List D → Option (List D)} {ds : List D} {e : List Sl} : kW c (.ok ds e) = Rs.opt (c ds) e := Eq.trans rfl rfl
def kWRev (r : Rs D) : Rs (List D) := r.bind fun d e => Rs.opt (d.items.map List.reverse) e
theorem uWRev {f : List Sl → Rs D} {env : List Sl} : wRev f env = kWRev (f env) := Eq.trans rfl rfl
theorem vWRev {xs : List D} {e : List Sl} : kWRev (.ok (.lst xs) e) = .ok xs.reverse e := Eq.trans rfl rfl
theorem vWRevT {xs : List D} {e : List Sl} : kWRev (.ok (.tup xs) e) = .ok xs.reverse e := Eq.trans rfl rfl
def kLrg (r : Rs D) : Rs Ow := r.bind fun d e => match d with
  | .int b => if rgOkB 0 b = true then .ok (.l (rngL 0 b)) e else .bad
  | _ => .bad
theorem uLrg {f : List Sl → Rs D} {env : List Sl} : fLrg1 f env = kLrg (f env) := Eq.trans rfl rfl
theorem kLrg_if {b : Int} {c : Bool} {e : List Sl} (h : rgOkB 0 b = c) : kLrg (.ok (.int b) e) = if c = true then .ok (.l (rngL 0 b)) e else .bad := by subst h; rfl
theorem vLrg {n : Nat} {e : List Sl} (h : n ≤ 4000) : kLrg (.ok (.int (n : Int)) e) = .ok (.l ((List.range n).map fun (i : Nat) => D.int (i : Int))) e := by
  have q : rgOkB 0 (n : Int) = true := by
    simp only [rgOkB, decide_eq_true_eq]
    omega
  have r : rngL 0 (n : Int) = (List.range n).map fun (i : Nat) => D.int (i : Int) := by
    unfold rngL
    rw [show ((n : Int) - 0).toNat = n by omega]
    exact List.map_congr_left fun i hi => by rw [Int.zero_add]
  rw [kLrg_if q, r]
  rfl
/-- what a comprehension has gathered -/
def lcK (o : Option (List D)) (e : List Sl) : Rs Ow := match o with
  | some xs => if xs.length ≤ sizeLine then .ok (.l xs) e else .bad
  | none => .bad
def kLc (g : D → List Sl → Option (List Sl)) (t : List Sl → Rs Bool) (el : List Sl → Rs D) (own : List Nat) (r : Rs (List D)) : Rs Ow := r.bind fun ds e => lcK (turnsD g t el (hideE own e) ds) e
theorem uLc {f : List Sl → Rs (List D)} {g : D → List Sl → Option (List Sl)} {t : List Sl → Rs Bool} {el : List Sl → Rs D} {own : List Nat} {env : List Sl} : fLc f g t el own env = kLc g t el own (f env) := Eq.trans rfl rfl
theorem vLc {g : D → List Sl → Option (List Sl)} {t : List Sl → Rs Bool} {el : List Sl → Rs D} {own : List Nat} {ds : List D} {e : List Sl} : kLc g t el own (.ok ds e) = lcK (turnsD g t el (hideE own e) ds) e := Eq.trans rfl rfl
theorem vLcK {xs : List D} {e : List Sl} (h : xs.length ≤ 4000) : lcK (some xs) e = .ok (.l xs) e := if_pos (len_le h)
def kLc2 (g : D → List Sl → Option (List Sl)) (t : List Sl → Rs Bool) (f1 : List Sl → Rs (List D)) (g1 : D → List Sl → Option (List Sl)) (t1 : List Sl → Rs Bool) (el : List Sl → Rs D) (own vs1 : List Nat) (r : Rs (List D)) : Rs Ow := r.bind fun ds e => lcK (turns2 g t f1 g1 t1 el vs1 (hideE own e) ds) e
theorem uLc2 {f : List Sl → Rs (List D)} {g : D → List Sl → Option (List Sl)} {t : List Sl → Rs Bool} {f1 : List Sl → Rs (List D)} {g1 : D → List Sl → Option (List Sl)} {t1 : List Sl → Rs Bool} {el : List Sl → Rs D} {own vs1 : List Nat} {env : List Sl} :
    fLc2 f g t f1 g1 t1 el own vs1 env = kLc2 g t f1 g1 t1 el own vs1 (f env) := Eq.trans rfl rfl
theorem vLc2 {g : D → List Sl → Option (List Sl)} {t : List Sl → Rs Bool} {f1 : List Sl → Rs (List D)} {g1 : D → List Sl → Option (List Sl)} {t1 : List Sl → Rs Bool} {el : List Sl → Rs D} {own vs1 : List Nat} {ds : List D} {e : List Sl} :
    kLc2 g t f1 g1 t1 el own vs1 (.ok ds e) = lcK (turns2 g t f1 g1 t1 el vs1 (hideE own e) ds) e := Eq.trans rfl rfl
def gxK (res : List D → Option D) (e : List Sl) (o : Option (List D)) : Rs D := Rs.opt (o.bind res) e
def kGx (g : D → List Sl → Option (List Sl)) (t : List Sl → Rs Bool) (el : List Sl → Rs D) (own : List Nat) (res : List D → Option D) (r : Rs (List D)) : Rs D := r.bind fun ds e => gxK res e (turnsD g t el (hideE own e) ds)
theorem uGx {f : List Sl → Rs (List D)} {g : D → List Sl → Option (List Sl)} {t : List Sl → Rs Bool} {el : List Sl → Rs D} {own : List Nat} {res : List D → Option D} {env : List Sl} : fGx f g t el own res env = kGx g t el own res (f env) := Eq.trans rfl rfl
theorem vGx {g : D → List Sl → Option (List Sl)} {t : List Sl → Rs Bool} {el : List Sl → Rs D} {own : List Nat} {res : List D → Option D} {ds : List D} {e : List Sl} : kGx g t el own res (.ok ds e) = gxK res e (turnsD g t el (hideE own e) ds) := Eq.trans rfl rfl
theorem vGxK {res : List D → Option D} {e : List Sl} {zs : List D} : gxK res e (some zs) = Rs.opt (res zs) e := Eq.trans rfl rfl
/-- one turn of it, in steps -/
def elK (r : Rs D) : Option (Option D) := match r with
  | .ok x _ => some (some x)
  | _ => none
def tsK (r : Rs Bool) (el : List Sl → Rs D) : Option (Option D) := match r with
  | .ok b e2 => if b = true then elK (el e2) else some none
  | _ => none
def tgK (r : Option (List Sl)) (t : List Sl → Rs Bool) (el : List Sl → Rs D) : Option (Option D) := match r with
  | none => none
  | some e1 => tsK (t e1) el
theorem uTurn {g : D → List Sl → Option (List Sl)} {t : List Sl → Rs Bool} {el : List Sl → Rs D} {e0 : List Sl} {d : D} : turnD g t el e0 d = tgK (g d e0) t el := by
  unfold turnD
  cases g d e0 <;> rfl
theorem vTg {e1 : List Sl} {t : List Sl → Rs Bool} {el : List Sl → Rs D} : tgK (some e1) t el = tsK (t e1) el := Eq.trans rfl rfl
theorem vTsT {e2 : List Sl} {el : List Sl → Rs D} : tsK (.ok true e2) el = elK (el e2) := Eq.trans rfl rfl
theorem vTsF {e2 : List Sl} {el : List Sl → Rs D} : tsK (.ok false e2) el = some none := Eq.trans rfl rfl
theorem vEl {x : D} {e : List Sl} : elK (.ok x e) = some (some x) := Eq.trans rfl rfl
theorem uOwnT {i : Nat} {env : List Sl} : ownTru i env = kOwnT (ownLen i env) := Eq.trans rfl rfl
theorem vOwnT {n : Int} {e : List Sl} : kOwnT (.ok (.int n) e) = .ok (n != 0) e := Eq.trans rfl rfl
/-! what comes of a slot -/
def appK (i : Nat) (d : D) (e : List Sl) : Rs D := match e[i]? with
  | some (.ow (.l xs)) => if xs.length < sizeLine then .ok .non (e.set i (.ow (.l (xs ++ [d])))) else .bad
  | _ => .bad
def extK (i : Nat) (d : D) (e : List Sl) : Rs D := match e[i]?, d with
  | some (.ow (.l xs)), .lst ys => if xs.length + ys.length ≤ sizeLine then .ok .non (e.set i (.ow (.l (xs ++ ys)))) else .bad
  | some (.ow (.l xs)), .tup ys => if xs.length + ys.length ≤ sizeLine then .ok .non (e.set i (.ow (.l (xs ++ ys)))) else .bad
  | _, _ => .bad
def ixK (i : Nat) (k : D) (e : List Sl) : Rs D := match e[i]? with
  | some (.im (.lst xs)) => Rs.opt (ixD (.lst xs) k) e
  | some (.im (.tup xs)) => Rs.opt (ixD (.tup xs) k) e
  | some (.im (.scr xs)) => Rs.opt (ixD (.scr xs) k) e
  | some (.ow (.l xs)) => Rs.opt (ixD (.lst xs) k) e
  | some (.ro xs) => Rs.opt (ixD (.lst xs) k) e
  | _ => .bad
def augM (i : Nat) (c : D → D → Option D) (j : Int) (a b : D) (e : List Sl) : Ro := match e[i]?, c a b with
  | some (.ow (.l ys)), some z => if j < ys.length then .nx (e.set i (.ow (.l (ys.set j.toNat z)))) else .bad
  | _, _ => .bad
def augZ (i : Nat) (j : Int) (e : List Sl) (o : Option D) : Ro := match e[i]?, o with
  | some (.ow (.l ys)), some z => if j < ys.length then .nx (e.set i (.ow (.l (ys.set j.toNat z)))) else .bad
  | _, _ => .bad
def augK (i : Nat) (g : List Sl → Rs D) (c : D → D → Option D) (k : D) (e : List Sl) : Ro := match e[i]?, k with
  | some (.ow (.l xs)), .int j => if 0 ≤ j then match xs[j.toNat]? with
      | some a => (g e).ro (augM i c j a)
      | none => .bad
    else .bad
  | _, _ => .bad
theorem augK_ok {i : Nat} {g : List Sl → Rs D} {c : D → D → Option D} {j : Int} {e : List Sl} {xs : List D} (h : e[i]? = some (.ow (.l xs))) (h0 : 0 ≤ j) (h1 : j < (xs.length : Int)) : augK i g c (.int j) e = (g e).ro (augM i c j (xs.getD j.toNat .non)) := by
  unfold augK
  rw [h]
  show (if 0 ≤ j then match xs[j.toNat]? with | some a => _ | none => _ else _) = _
  rw [if_pos h0, List.getD_eq_getElem?_getD, List.getElem?_eq_getElem (by omega)]
  rfl
theorem augM_ok {i : Nat} {c : D → D → Option D} {j : Int} {a b : D} {e : List Sl} : augM i c j a b e = augZ i j e (c a b) := Eq.trans rfl rfl
theorem augZ_ok {i : Nat} {j : Int} {z : D} {e : List Sl} {ys : List D} (h : e[i]? = some (.ow (.l ys))) (h1 : j < (ys.length : Int)) : augZ i j e (some z) = .nx (e.set i (.ow (.l (ys.set j.toNat z)))) := by
  unfold augZ
  rw [h]
  exact if_pos h1
def gItK (i : Nat) (d : D) (k : D) (e : List Sl) : Ro := match e[i]?, k with
  | some (.ow (.l ys)), .int j => if 0 ≤ j ∧ j < ys.length then .nx (e.set i (.ow (.l (ys.set j.toNat d)))) else .bad
  | _, _ => .bad
theorem gIt_ok {i : Nat} {f : List Sl → Rs D} {d : D} {env : List Sl} {xs : List D} (h : env[i]? = some (.ow (.l xs))) : gIt i f d env = kRob (f env) (gItK i d) := by
  unfold gIt pkN
  rw [h]
  rfl
def agZ (i : Nat) (e : List Sl) (o : Option D) : Ro := match o with
  | some z => .nx (e.set i (.im z))
  | none => .bad
def agK (i : Nat) (c : D → D → Option D) (x : D) (d : D) (e : List Sl) : Ro := agZ i e (c x d)
theorem vAgK {i : Nat} {c : D → D → Option D} {x d : D} {e : List Sl} : agK i c x d e = agZ i e (c x d) := Eq.trans rfl rfl
theorem vAgZ {i : Nat} {z : D} {e : List Sl} : agZ i e (some z) = .nx (e.set i (.im z)) := Eq.trans rfl rfl
theorem fAug_ok {i : Nat} {f : List Sl → Rs D} {c : D → D → Option D} {env : List Sl} {x : D} (h : env[i]? = some (.im x)) : fAug i f c env = (f env).ro (agK i c x) := by
  unfold fAug
  rw [h]
  rfl
theorem vAugM {i : Nat} {c : D → D → Option D} {j : Int} {a b : D} {e : List Sl} : augM i c j a b e = augZ i j e (c a b) := augM_ok
theorem ri0 {dd : D} {l : List Sl} : rdN 0 (.im dd :: l) = .ok dd (.im dd :: l) := Eq.trans rfl rfl
theorem ro0 {xs : List D} {l : List Sl} : rdN 0 (.ow (.l xs) :: l) = .ok (.lst xs) (.im (.lst xs) :: l) := Eq.trans rfl rfl
theorem rs0 {z x : Sl} {l : List Sl} : (z :: l).set 0 x = x :: l := Eq.trans rfl rfl
theorem ap0 {f : List Sl → Rs D} {xs : List D} {l : List Sl} : fApp 0 f (.ow (.l xs) :: l) = (f (.ow (.l xs) :: l)).bind (appK 0) := Eq.trans rfl rfl
theorem aq0 {dd : D} {xs : List D} {l : List Sl} (h : xs.length < 4000) : appK 0 dd (.ow (.l xs) :: l) = .ok .non (.ow (.l (xs ++ [dd])) :: l) := if_pos (len_lt h)
theorem ix0 {g : List Sl → Rs D} {dd : D} {l : List Sl} : fIxN 0 g (.im dd :: l) = (g (.im dd :: l)).bind (ixK 0) := Eq.trans rfl rfl
theorem iy0 {g : List Sl → Rs D} {w : Ow} {l : List Sl} : fIxN 0 g (.ow w :: l) = (g (.ow w :: l)).bind (ixK 0) := Eq.trans rfl rfl
theorem iz0 {k : D} {xs : List D} {l : List Sl} : ixK 0 k (.im (.lst xs) :: l) = Rs.opt (ixD (.lst xs) k) (.im (.lst xs) :: l) := Eq.trans rfl rfl
theorem it0 {k : D} {xs : List D} {l : List Sl} : ixK 0 k (.im (.tup xs) :: l) = Rs.opt (ixD (.tup xs) k) (.im (.tup xs) :: l) := Eq.trans rfl rfl
theorem iw0 {k : D} {xs : List D} {l : List Sl} : ixK 0 k (.ow (.l xs) :: l) = Rs.opt (ixD (.lst xs) k) (.ow (.l xs) :: l) := Eq.trans rfl rfl
theorem ol0 {xs : List D} {l : List Sl} : ownLen 0 (.ow (.l xs) :: l) = .ok (.int xs.length) (.ow (.l xs) :: l) := Eq.trans rfl rfl
theorem om0 {xs : List D} {l : List Sl} : ownLen 0 (.im (.lst xs) :: l) = .ok (.int xs.length) (.im (.lst xs) :: l) := Eq.trans rfl rfl
theorem on0 {xs : List D} {l : List Sl} : ownLen 0 (.im (.tup xs) :: l) = .ok (.int xs.length) (.im (.tup xs) :: l) := Eq.trans rfl rfl
theorem au0 {f g : List Sl → Rs D} {c : D → D → Option D} {xs : List D} {l : List Sl} : augItem 0 f g c (.ow (.l xs) :: l) = (f (.ow (.l xs) :: l)).ro (augK 0 g c) := Eq.trans rfl rfl
theorem av0 {g : List Sl → Rs D} {c : D → D → Option D} {j : Int} {xs : List D} {l : List Sl} (h0 : 0 ≤ j) (h1 : j < (xs.length : Int)) : augK 0 g c (.int j) (.ow (.l xs) :: l) = (g (.ow (.l xs) :: l)).ro (augM 0 c j (xs.getD j.toNat .non)) := augK_ok rfl h0 h1
theorem aw0 {j : Int} {z : D} {xs : List D} {l : List Sl} (h1 : j < (xs.length : Int)) : augZ 0 j (.ow (.l xs) :: l) (some z) = .nx (.ow (.l (xs.set j.toNat z)) :: l) := augZ_ok rfl h1
theorem gi0 {f : List Sl → Rs D} {dd : D} {xs : List D} {l : List Sl} : gIt 0 f dd (.ow (.l xs) :: l) = kRob (f (.ow (.l xs) :: l)) (gItK 0 dd) := gIt_ok rfl
theorem gj0 {j : Int} {dd : D} {xs : List D} {l : List Sl} (h0 : 0 ≤ j) (h1 : j < (xs.length : Int)) : gItK 0 dd (.int j) (.ow (.l xs) :: l) = .nx (.ow (.l (xs.set j.toNat dd)) :: l) := if_pos ⟨h0, h1⟩
theorem ag0 {f : List Sl → Rs D} {c : D → D → Option D} {x : D} {l : List Sl} : fAug 0 f c (.im x :: l) = (f (.im x :: l)).ro (agK 0 c x) := fAug_ok rfl
theorem xe0 {f : List Sl → Rs D} {xs : List D} {l : List Sl} : fExt 0 f (.ow (.l xs) :: l) = (f (.ow (.l xs) :: l)).bind (extK 0) := Eq.trans rfl rfl
theorem xh0 {xs ys : List D} {l : List Sl} (h : xs.length + ys.length ≤ 4000) : extK 0 (.lst ys) (.ow (.l xs) :: l) = .ok .non (.ow (.l (xs ++ ys)) :: l) := if_pos (len_le h)
theorem fz0 {xs : List D} {l : List Sl} : frzE 0 (.ow (.l xs) :: l) = .im (.lst xs) :: l := Eq.trans rfl rfl
theorem fy0 {dd : D} {l : List Sl} : frzE 0 (.im dd :: l) = .im dd :: l := Eq.trans rfl rfl
theorem ri1 {a0 : Sl} {dd : D} {l : List Sl} : rdN 1 (a0 :: .im dd :: l) = .ok dd (a0 :: .im dd :: l) := Eq.trans rfl rfl
theorem ro1 {a0 : Sl} {xs : List D} {l : List Sl} : rdN 1 (a0 :: .ow (.l xs) :: l) = .ok (.lst xs) (a0 :: .im (.lst xs) :: l) := Eq.trans rfl rfl
theorem rs1 {a0 : Sl} {z x : Sl} {l : List Sl} : (a0 :: z :: l).set 1 x = a0 :: x :: l := Eq.trans rfl rfl
theorem ap1 {a0 : Sl} {f : List Sl → Rs D} {xs : List D} {l : List Sl} : fApp 1 f (a0 :: .ow (.l xs) :: l) = (f (a0 :: .ow (.l xs) :: l)).bind (appK 1) := Eq.trans rfl rfl
theorem aq1 {a0 : Sl} {dd : D} {xs : List D} {l : List Sl} (h : xs.length < 4000) : appK 1 dd (a0 :: .ow (.l xs) :: l) = .ok .non (a0 :: .ow (.l (xs ++ [dd])) :: l) := if_pos (len_lt h)
theorem ix1 {a0 : Sl} {g : List Sl → Rs D} {dd : D} {l : List Sl} : fIxN 1 g (a0 :: .im dd :: l) = (g (a0 :: .im dd :: l)).bind (ixK 1) := Eq.trans rfl rfl
theorem iy1 {a0 : Sl} {g : List Sl → Rs D} {w : Ow} {l : List Sl} : fIxN 1 g (a0 :: .ow w :: l) = (g (a0 :: .ow w :: l)).bind (ixK 1) := Eq.trans rfl rfl
theorem iz1 {a0 : Sl} {k : D} {xs : List D} {l : List Sl} : ixK 1 k (a0 :: .im (.lst xs) :: l) = Rs.opt (ixD (.lst xs) k) (a0 :: .im (.lst xs) :: l) := Eq.trans rfl rfl
theorem it1 {a0 : Sl} {k : D} {xs : List D} {l : List Sl} : ixK 1 k (a0 :: .im (.tup xs) :: l) = Rs.opt (ixD (.tup xs) k) (a0 :: .im (.tup xs) :: l) := Eq.trans rfl rfl
theorem iw1 {a0 : Sl} {k : D} {xs : List D} {l : List Sl} : ixK 1 k (a0 :: .ow (.l xs) :: l) = Rs.opt (ixD (.lst xs) k) (a0 :: .ow (.l xs) :: l) := Eq.trans rfl rfl
theorem ol1 {a0 : Sl} {xs : List D} {l : List Sl} : ownLen 1 (a0 :: .ow (.l xs) :: l) = .ok (.int xs.length) (a0 :: .ow (.l xs) :: l) := Eq.trans rfl rfl
theorem om1 {a0 : Sl} {xs : List D} {l : List Sl} : ownLen 1 (a0 :: .im (.lst xs) :: l) = .ok (.int xs.length) (a0 :: .im (.lst xs) :: l) := Eq.trans rfl rfl
theorem on1 {a0 : Sl} {xs : List D} {l : List Sl} : ownLen 1 (a0 :: .im (.tup xs) :: l) = .ok (.int xs.length) (a0 :: .im (.tup xs) :: l) := Eq.trans rfl rfl
theorem au1 {a0 : Sl} {f g : List Sl → Rs D} {c : D → D → Option D} {xs : List D} {l : List Sl} : augItem 1 f g c (a0 :: .ow (.l xs) :: l) = (f (a0 :: .ow (.l xs) :: l)).ro (augK 1 g c) := Eq.trans rfl rfl
theorem av1 {a0 : Sl} {g : List Sl → Rs D} {c : D → D → Option D} {j : Int} {xs : List D} {l : List Sl} (h0 : 0 ≤ j) (h1 : j < (xs.length : Int)) : augK 1 g c (.int j) (a0 :: .ow (.l xs) :: l) = (g (a0 :: .ow (.l xs) :: l)).ro (augM 1 c j (xs.getD j.toNat .non)) := augK_ok rfl h0 h1
theorem aw1 {a0 : Sl} {j : Int} {z : D} {xs : List D} {l : List Sl} (h1 : j < (xs.length : Int)) : augZ 1 j (a0 :: .ow (.l xs) :: l) (some z) = .nx (a0 :: .ow (.l (xs.set j.toNat z)) :: l) := augZ_ok rfl h1
theorem gi1 {a0 : Sl} {f : List Sl → Rs D} {dd : D} {xs : List D} {l : List Sl} : gIt 1 f dd (a0 :: .ow (.l xs) :: l) = kRob (f (a0 :: .ow (.l xs) :: l)) (gItK 1 dd) := gIt_ok rfl
theorem gj1 {a0 : Sl} {j : Int} {dd : D} {xs : List D} {l : List Sl} (h0 : 0 ≤ j) (h1 : j < (xs.length : Int)) : gItK 1 dd (.int j) (a0 :: .ow (.l xs) :: l) = .nx (a0 :: .ow (.l (xs.set j.toNat dd)) :: l) := if_pos ⟨h0, h1⟩
theorem ag1 {a0 : Sl} {f : List Sl → Rs D} {c : D → D → Option D} {x : D} {l : List Sl} : fAug 1 f c (a0 :: .im x :: l) = (f (a0 :: .im x :: l)).ro (agK 1 c x) := fAug_ok rfl
theorem xe1 {a0 : Sl} {f : List Sl → Rs D} {xs : List D} {l : List Sl} : fExt 1 f (a0 :: .ow (.l xs) :: l) = (f (a0 :: .ow (.l xs) :: l)).bind (extK 1) := Eq.trans rfl rfl
theorem xh1 {a0 : Sl} {xs ys : List D} {l : List Sl} (h : xs.length + ys.length ≤ 4000) : extK 1 (.lst ys) (a0 :: .ow (.l xs) :: l) = .ok .non (a0 :: .ow (.l (xs ++ ys)) :: l) := if_pos (len_le h)
theorem fz1 {a0 : Sl} {xs : List D} {l : List Sl} : frzE 1 (a0 :: .ow (.l xs) :: l) = a0 :: .im (.lst xs) :: l := Eq.trans rfl rfl
theorem fy1 {a0 : Sl} {dd : D} {l : List Sl} : frzE 1 (a0 :: .im dd :: l) = a0 :: .im dd :: l := Eq.trans rfl rfl
theorem ri2 {a0 a1 : Sl} {dd : D} {l : List Sl} : rdN 2 (a0 :: a1 :: .im dd :: l) = .ok dd (a0 :: a1 :: .im dd :: l) := Eq.trans rfl rfl
theorem ro2 {a0 a1 : Sl} {xs : List D} {l : List Sl} : rdN 2 (a0 :: a1 :: .ow (.l xs) :: l) = .ok (.lst xs) (a0 :: a1 :: .im (.lst xs) :: l) := Eq.trans rfl rfl
theorem rs2 {a0 a1 : Sl} {z x : Sl} {l : List Sl} : (a0 :: a1 :: z :: l).set 2 x = a0 :: a1 :: x :: l := Eq.trans rfl rfl
theorem ap2 {a0 a1 : Sl} {f : List Sl → Rs D} {xs : List D} {l : List Sl} : fApp 2 f (a0 :: a1 :: .ow (.l xs) :: l) = (f (a0 :: a1 :: .ow (.l xs) :: l)).bind (appK 2) := Eq.trans rfl rfl
theorem aq2 {a0 a1 : Sl} {dd : D} {xs : List D} {l : List Sl} (h : xs.length < 4000) : appK 2 dd (a0 :: a1 :: .ow (.l xs) :: l) = .ok .non (a0 :: a1 :: .ow (.l (xs ++ [dd])) :: l) := if_pos (len_lt h)
theorem ix2 {a0 a1 : Sl} {g : List Sl → Rs D} {dd : D} {l : List Sl} : fIxN 2 g (a0 :: a1 :: .im dd :: l) = (g (a0 :: a1 :: .im dd :: l)).bind (ixK 2) := Eq.trans rfl rfl
theorem iy2 {a0 a1 : Sl} {g : List Sl → Rs D} {w : Ow} {l : List Sl} : fIxN 2 g (a0 :: a1 :: .ow w :: l) = (g (a0 :: a1 :: .ow w :: l)).bind (ixK 2) := Eq.trans rfl rfl
theorem iz2 {a0 a1 : Sl} {k : D} {xs : List D} {l : List Sl} : ixK 2 k (a0 :: a1 :: .im (.lst xs) :: l) = Rs.opt (ixD (.lst xs) k) (a0 :: a1 :: .im (.lst xs) :: l) := Eq.trans rfl rfl
theorem it2 {a0 a1 : Sl} {k : D} {xs : List D} {l : List Sl} : ixK 2 k (a0 :: a1 :: .im (.tup xs) :: l) = Rs.opt (ixD (.tup xs) k) (a0 :: a1 :: .im (.tup xs) :: l) := Eq.trans rfl rfl
theorem iw2 {a0 a1 : Sl} {k : D} {xs : List D} {l : List Sl} : ixK 2 k (a0 :: a1 :: .ow (.l xs) :: l) = Rs.opt (ixD (.lst xs) k) (a0 :: a1 :: .ow (.l xs) :: l) := Eq.trans rfl rfl
theorem ol2 {a0 a1 : Sl} {xs : List D} {l : List Sl} : ownLen 2 (a0 :: a1 :: .ow (.l xs) :: l) = .ok (.int xs.length) (a0 :: a1 :: .ow (.l xs) :: l) := Eq.trans rfl rfl
theorem om2 {a0 a1 : Sl} {xs : List D} {l : List Sl} : ownLen 2 (a0 :: a1 :: .im (.lst xs) :: l) = .ok (.int xs.length) (a0 :: a1 :: .im (.lst xs) :: l) := Eq.trans rfl rfl
theorem on2 {a0 a1 : Sl} {xs : List D} {l : List Sl} : ownLen 2 (a0 :: a1 :: .im (.tup xs) :: l) = .ok (.int xs.length) (a0 :: a1 :: .im (.tup xs) :: l) := Eq.trans rfl rfl
theorem au2 {a0 a1 : Sl} {f g : List Sl → Rs D} {c : D → D → Option D} {xs : List D} {l : List Sl} : augItem 2 f g c (a0 :: a1 :: .ow (.l xs) :: l) = (f (a0 :: a1 :: .ow (.l xs) :: l)).ro (augK 2 g c) := Eq.trans rfl rfl
theorem av2 {a0 a1 : Sl} {g : List Sl → Rs D} {c : D → D → Option D} {j : Int} {xs : List D} {l : List Sl} (h0 : 0 ≤ j) (h1 : j < (xs.length : Int)) : augK 2 g c (.int j) (a0 :: a1 :: .ow (.l xs) :: l) = (g (a0 :: a1 :: .ow (.l xs) :: l)).ro (augM 2 c j (xs.getD j.toNat .non)) := augK_ok rfl h0 h1
theorem aw2 {a0 a1 : Sl} {j : Int} {z : D} {xs : List D} {l : List Sl} (h1 : j < (xs.length : Int)) : augZ 2 j (a0 :: a1 :: .ow (.l xs) :: l) (some z) = .nx (a0 :: a1 :: .ow (.l (xs.set j.toNat z)) :: l) := augZ_ok rfl h1
theorem gi2 {a0 a1 : Sl} {f : List Sl → Rs D} {dd : D} {xs : List D} {l : List Sl} : gIt 2 f dd (a0 :: a1 :: .ow (.l xs) :: l) = kRob (f (a0 :: a1 :: .ow (.l xs) :: l)) (gItK 2 dd) := gIt_ok rfl
theorem gj2 {a0 a1 : Sl} {j : Int} {dd : D} {xs : List D} {l : List Sl} (h0 : 0 ≤ j) (h1 : j < (xs.length : Int)) : gItK 2 dd (.int j) (a0 :: a1 :: .ow (.l xs) :: l) = .nx (a0 :: a1 :: .ow (.l (xs.set j.toNat dd)) :: l) := if_pos ⟨h0, h1⟩
theorem ag2 {a0 a1 : Sl} {f : List Sl → Rs D} {c : D → D → Option D} {x : D} {l : List Sl} : fAug 2 f c (a0 :: a1 :: .im x :: l) = (f (a0 :: a1 :: .im x :: l)).ro (agK 2 c x) := fAug_ok rfl
theorem xe2 {a0 a1 : Sl} {f : List Sl → Rs D} {xs : List D} {l : List Sl} : fExt 2 f (a0 :: a1 :: .ow (.l xs) :: l) = (f (a0 :: a1 :: .ow (.l xs) :: l)).bind (extK 2) := Eq.trans rfl rfl
theorem xh2 {a0 a1 : Sl} {xs ys : List D} {l : List Sl} (h : xs.length + ys.length ≤ 4000) : extK 2 (.lst ys) (a0 :: a1 :: .ow (.l xs) :: l) = .ok .non (a0 :: a1 :: .ow (.l (xs ++ ys)) :: l) := if_pos (len_le h)
theorem fz2 {a0 a1 : Sl} {xs : List D} {l : List Sl} : frzE 2 (a0 :: a1 :: .ow (.l xs) :: l) = a0 :: a1 :: .im (.lst xs) :: l := Eq.trans rfl rfl
theorem fy2 {a0 a1 : Sl} {dd : D} {l : List Sl} : frzE 2 (a0 :: a1 :: .im dd :: l) = a0 :: a1 :: .im dd :: l := Eq.trans rfl rfl
theorem ri3 {a0 a1 a2 : Sl} {dd : D} {l : List Sl} : rdN 3 (a0 :: a1 :: a2 :: .im dd :: l) = .ok dd (a0 :: a1 :: a2 :: .im dd :: l) := Eq.trans rfl rfl
theorem ro3 {a0 a1 a2 : Sl} {xs : List D} {l : List Sl} : rdN 3 (a0 :: a1 :: a2 :: .ow (.l xs) :: l) = .ok (.lst xs) (a0 :: a1 :: a2 :: .im (.lst xs) :: l) := Eq.trans rfl rfl
theorem rs3 {a0 a1 a2 : Sl} {z x : Sl} {l : List Sl} : (a0 :: a1 :: a2 :: z :: l).set 3 x = a0 :: a1 :: a2 :: x :: l := Eq.trans rfl rfl
theorem ap3 {a0 a1 a2 : Sl} {f : List Sl → Rs D} {xs : List D} {l : List Sl} : fApp 3 f (a0 :: a1 :: a2 :: .ow (.l xs) :: l) = (f (a0 :: a1 :: a2 :: .ow (.l xs) :: l)).bind (appK 3) := Eq.trans rfl rfl
theorem aq3 {a0 a1 a2 : Sl} {dd : D} {xs : List D} {l : List Sl} (h : xs.length < 4000) : appK 3 dd (a0 :: a1 :: a2 :: .ow (.l xs) :: l) = .ok .non (a0 :: a1 :: a2 :: .ow (.l (xs ++ [dd])) :: l) := if_pos (len_lt h)
theorem ix3 {a0 a1 a2 : Sl} {g : List Sl → Rs D} {dd : D} {l : List Sl} : fIxN 3 g (a0 :: a1 :: a2 :: .im dd :: l) = (g (a0 :: a1 :: a2 :: .im dd :: l)).bind (ixK 3) := Eq.trans rfl rfl
theorem iy3 {a0 a1 a2 : Sl} {g : List Sl → Rs D} {w : Ow} {l : List Sl} : fIxN 3 g (a0 :: a1 :: a2 :: .ow w :: l) = (g (a0 :: a1 :: a2 :: .ow w :: l)).bind (ixK 3) := Eq.trans rfl rfl
theorem iz3 {a0 a1 a2 : Sl} {k : D} {xs : List D} {l : List Sl} : ixK 3 k (a0 :: a1 :: a2 :: .im (.lst xs) :: l) = Rs.opt (ixD (.lst xs) k) (a0 :: a1 :: a2 :: .im (.lst xs) :: l) := Eq.trans rfl rfl
theorem it3 {a0 a1 a2 : Sl} {k : D} {xs : List D} {l : List Sl} : ixK 3 k (a0 :: a1 :: a2 :: .im (.tup xs) :: l) = Rs.opt (ixD (.tup xs) k) (a0 :: a1 :: a2 :: .im (.tup xs) :: l) := Eq.trans rfl rfl
theorem iw3 {a0 a1 a2 : Sl} {k : D} {xs : List D} {l : List Sl} : ixK 3 k (a0 :: a1 :: a2 :: .ow (.l xs) :: l) = Rs.opt (ixD (.lst xs) k) (a0 :: a1 :: a2 :: .ow (.l xs) :: l) := Eq.trans rfl rfl
theorem ol3 {a0 a1 a2 : Sl} {xs : List D} {l : List Sl} : ownLen 3 (a0 :: a1 :: a2 :: .ow (.l xs) :: l) = .ok (.int xs.length) (a0 :: a1 :: a2 :: .ow (.l xs) :: l) := Eq.trans rfl rfl
theorem om3 {a0 a1 a2 : Sl} {xs : List D} {l : List Sl} : ownLen 3 (a0 :: a1 :: a2 :: .im (.lst xs) :: l) = .ok (.int xs.length) (a0 :: a1 :: a2 :: .im (.lst xs) :: l) := Eq.trans rfl rfl
theorem on3 {a0 a1 a2 : Sl} {xs : List D} {l : List Sl} : ownLen 3 (a0 :: a1 :: a2 :: .im (.tup xs) :: l) = .ok (.int xs.length) (a0 :: a1 :: a2 :: .im (.tup xs) :: l) := Eq.trans rfl rfl
theorem au3 {a0 a1 a2 : Sl} {f g : List Sl → Rs D} {c : D → D → Option D} {xs : List D} {l : List Sl} : augItem 3 f g c (a0 :: a1 :: a2 :: .ow (.l xs) :: l) = (f (a0 :: a1 :: a2 :: .ow (.l xs) :: l)).ro (augK 3 g c) := Eq.trans rfl rfl
theorem av3 {a0 a1 a2 : Sl} {g : List Sl → Rs D} {c : D → D → Option D} {j : Int} {xs : List D} {l : List Sl} (h0 : 0 ≤ j) (h1 : j < (xs.length : Int)) : augK 3 g c (.int j) (a0 :: a1 :: a2 :: .ow (.l xs) :: l) = (g (a0 :: a1 :: a2 :: .ow (.l xs) :: l)).ro (augM 3 c j (xs.getD j.toNat .non)) := augK_ok rfl h0 h1
theorem aw3 {a0 a1 a2 : Sl} {j : Int} {z : D} {xs : List D} {l : List Sl} (h1 : j < (xs.length : Int)) : augZ 3 j (a0 :: a1 :: a2 :: .ow (.l xs) :: l) (some z) = .nx (a0 :: a1 :: a2 :: .ow (.l (xs.set j.toNat z)) :: l) := augZ_ok rfl h1
theorem gi3 {a0 a1 a2 : Sl} {f : List Sl → Rs D} {dd : D} {xs : List D} {l : List Sl} : gIt 3 f dd (a0 :: a1 :: a2 :: .ow (.l xs) :: l) = kRob (f (a0 :: a1 :: a2 :: .ow (.l xs) :: l)) (gItK 3 dd) := gIt_ok rfl
theorem gj3 {a0 a1 a2 : Sl} {j : Int} {dd : D} {xs : List D} {l : List Sl} (h0 : 0 ≤ j) (h1 : j < (xs.length : Int)) : gItK 3 dd (.int j) (a0 :: a1 :: a2 :: .ow (.l xs) :: l) = .nx (a0 :: a1 :: a2 :: .ow (.l (xs.set j.toNat dd)) :: l) := if_pos ⟨h0, h1⟩
theorem ag3 {a0 a1 a2 : Sl} {f : List Sl → Rs D} {c : D → D → Option D} {x : D} {l : List Sl} : fAug 3 f c (a0 :: a1 :: a2 :: .im x :: l) = (f (a0 :: a1 :: a2 :: .im x :: l)).ro (agK 3 c x) := fAug_ok rfl
theorem xe3 {a0 a1 a2 : Sl} {f : List Sl → Rs D} {xs : List D} {l : List Sl} : fExt 3 f (a0 :: a1 :: a2 :: .ow (.l xs) :: l) = (f (a0 :: a1 :: a2 :: .ow (.l xs) :: l)).bind (extK 3) := Eq.trans rfl rfl
theorem xh3 {a0 a1 a2 : Sl} {xs ys : List D} {l : List Sl} (h : xs.length + ys.length ≤ 4000) : extK 3 (.lst ys) (a0 :: a1 :: a2 :: .ow (.l xs) :: l) = .ok .non (a0 :: a1 :: a2 :: .ow (.l (xs ++ ys)) :: l) := if_pos (len_le h)
theorem fz3 {a0 a1 a2 : Sl} {xs : List D} {l : List Sl} : frzE 3 (a0 :: a1 :: a2 :: .ow (.l xs) :: l) = a0 :: a1 :: a2 :: .im (.lst xs) :: l := Eq.trans rfl rfl
theorem fy3 {a0 a1 a2 : Sl} {dd : D} {l : List Sl} : frzE 3 (a0 :: a1 :: a2 :: .im dd :: l) = a0 :: a1 :: a2 :: .im dd :: l := Eq.trans rfl rfl
theorem ri4 {a0 a1 a2 a3 : Sl} {dd : D} {l : List Sl} : rdN 4 (a0 :: a1 :: a2 :: a3 :: .im dd :: l) = .ok dd (a0 :: a1 :: a2 :: a3 :: .im dd :: l) := Eq.trans rfl rfl
theorem ro4 {a0 a1 a2 a3 : Sl} {xs : List D} {l : List Sl} : rdN 4 (a0 :: a1 :: a2 :: a3 :: .ow (.l xs) :: l) = .ok (.lst xs) (a0 :: a1 :: a2 :: a3 :: .im (.lst xs) :: l) := Eq.trans rfl rfl
theorem rs4 {a0 a1 a2 a3 : Sl} {z x : Sl} {l : List Sl} : (a0 :: a1 :: a2 :: a3 :: z :: l).set 4 x = a0 :: a1 :: a2 :: a3 :: x :: l := Eq.trans rfl rfl
theorem ap4 {a0 a1 a2 a3 : Sl} {f : List Sl → Rs D} {xs : List D} {l : List Sl} : fApp 4 f (a0 :: a1 :: a2 :: a3 :: .ow (.l xs) :: l) = (f (a0 :: a1 :: a2 :: a3 :: .ow (.l xs) :: l)).bind (appK 4) := Eq.trans rfl rfl
theorem aq4 {a0 a1 a2 a3 : Sl} {dd : D} {xs : List D} {l : List Sl} (h : xs.length < 4000) : appK 4 dd (a0 :: a1 :: a2 :: a3 :: .ow (.l xs) :: l) = .ok .non (a0 :: a1 :: a2 :: a3 :: .ow (.l (xs ++ [dd])) :: l) := if_pos (len_lt h)
theorem ix4 {a0 a1 a2 a3 : Sl} {g : List Sl → Rs D} {dd : D} {l : List Sl} : fIxN 4 g (a0 :: a1 :: a2 :: a3 :: .im dd :: l) = (g (a0 :: a1 :: a2 :: a3 :: .im dd :: l)).bind (ixK 4) := Eq.trans rfl rfl
theorem iy4 {a0 a1 a2 a3 : Sl} {g : List Sl → Rs D} {w : Ow} {l : List Sl} : fIxN 4 g (a0 :: a1 :: a2 :: a3 :: .ow w :: l) = (g (a0 :: a1 :: a2 :: a3 :: .ow w :: l)).bind (ixK 4) := Eq.trans rfl rfl
theorem iz4 {a0 a1 a2 a3 : Sl} {k : D} {xs : List D} {l : List Sl} : ixK 4 k (a0 :: a1 :: a2 :: a3 :: .im (.lst xs) :: l) = Rs.opt (ixD (.lst xs) k) (a0 :: a1 :: a2 :: a3 :: .im (.lst xs) :: l) := Eq.trans rfl rfl
theorem it4 {a0 a1 a2 a3 : Sl} {k : D} {xs : List D} {l : List Sl} : ixK 4 k (a0 :: a1 :: a2 :: a3 :: .im (.tup xs) :: l) = Rs.opt (ixD (.tup xs) k) (a0 :: a1 :: a2 :: a3 :: .im (.tup xs) :: l) := Eq.trans rfl rfl
theorem iw4 {a0 a1 a2 a3 : Sl} {k : D} {xs : List D} {l : List Sl} : ixK 4 k (a0 :: a1 :: a2 :: a3 :: .ow (.l xs) :: l) = Rs.opt (ixD (.lst xs) k) (a0 :: a1 :: a2 :: a3 :: .ow (.l xs) :: l) := Eq.trans rfl rfl
theorem ol4 {a0 a1 a2 a3 : Sl} {xs : List D} {l : List Sl} : ownLen 4 (a0 :: a1 :: a2 :: a3 :: .ow (.l xs) :: l) = .ok (.int xs.length) (a0 :: a1 :: a2 :: a3 :: .ow (.l xs) :: l) := Eq.trans rfl rfl
theorem om4 {a0 a1 a2 a3 : Sl} {xs : List D} {l : List Sl} : ownLen 4 (a0 :: a1 :: a2 :: a3 :: .im (.lst xs) :: l) = .ok (.int xs.length) (a0 :: a1 :: a2 :: a3 :: .im (.lst xs) :: l) := Eq.trans rfl rfl
theorem on4 {a0 a1 a2 a3 : Sl} {xs : List D} {l : List Sl} : ownLen 4 (a0 :: a1 :: a2 :: a3 :: .im (.tup xs) :: l) = .ok (.int xs.length) (a0 :: a1 :: a2 :: a3 :: .im (.tup xs) :: l) := Eq.trans rfl rfl
theorem au4 {a0 a1 a2 a3 : Sl} {f g : List Sl → Rs D} {c : D → D → Option D} {xs : List D} {l : List Sl} : augItem 4 f g c (a0 :: a1 :: a2 :: a3 :: .ow (.l xs) :: l) = (f (a0 :: a1 :: a2 :: a3 :: .ow (.l xs) :: l)).ro (augK 4 g c) := Eq.trans rfl rfl
theorem av4 {a0 a1 a2 a3 : Sl} {g : List Sl → Rs D} {c : D → D → Option D} {j : Int} {xs : List D} {l : List Sl} (h0 : 0 ≤ j) (h1 : j < (xs.length : Int)) : augK 4 g c (.int j) (a0 :: a1 :: a2 :: a3 :: .ow (.l xs) :: l) = (g (a0 :: a1 :: a2 :: a3 :: .ow (.l xs) :: l)).ro (augM 4 c j (xs.getD j.toNat .non)) := augK_ok rfl h0 h1
theorem aw4 {a0 a1 a2 a3 : Sl} {j : Int} {z : D} {xs : List D} {l : List Sl} (h1 : j < (xs.length : Int)) : augZ 4 j (a0 :: a1 :: a2 :: a3 :: .ow (.l xs) :: l) (some z) = .nx (a0 :: a1 :: a2 :: a3 :: .ow (.l (xs.set j.toNat z)) :: l) := augZ_ok rfl h1
theorem gi4 {a0 a1 a2 a3 : Sl} {f : List Sl → Rs D} {dd : D} {xs : List D} {l : List Sl} : gIt 4 f dd (a0 :: a1 :: a2 :: a3 :: .ow (.l xs) :: l) = kRob (f (a0 :: a1 :: a2 :: a3 :: .ow (.l xs) :: l)) (gItK 4 dd) := gIt_ok rfl
theorem gj4 {a0 a1 a2 a3 : Sl} {j : Int} {dd : D} {xs : List D} {l : List Sl} (h0 : 0 ≤ j) (h1 : j < (xs.length : Int)) : gItK 4 dd (.int j) (a0 :: a1 :: a2 :: a3 :: .ow (.l xs) :: l) = .nx (a0 :: a1 :: a2 :: a3 :: .ow (.l (xs.set j.toNat dd)) :: l) := if_pos ⟨h0, h1⟩
theorem ag4 {a0 a1 a2 a3 : Sl} {f : List Sl → Rs D} {c : D → D → Option D} {x : D} {l : List Sl} : fAug 4 f c (a0 :: a1 :: a2 :: a3 :: .im x :: l) = (f (a0 :: a1 :: a2 :: a3 :: .im x :: l)).ro (agK 4 c x) := fAug_ok rfl
theorem xe4 {a0 a1 a2 a3 : Sl} {f : List Sl → Rs D} {xs : List D} {l : List Sl} : fExt 4 f (a0 :: a1 :: a2 :: a3 :: .ow (.l xs) :: l) = (f (a0 :: a1 :: a2 :: a3 :: .ow (.l xs) :: l)).bind (extK 4) := Eq.trans rfl rfl
theorem xh4 {a0 a1 a2 a3 : Sl} {xs ys : List D} {l : List Sl} (h : xs.length + ys.length ≤ 4000) : extK 4 (.lst ys) (a0 :: a1 :: a2 :: a3 :: .ow (.l xs) :: l) = .ok .non (a0 :: a1 :: a2 :: a3 :: .ow (.l (xs ++ ys)) :: l) := if_pos (len_le h)
theorem fz4 {a0 a1 a2 a3 : Sl} {xs : List D} {l : List Sl} : frzE 4 (a0 :: a1 :: a2 :: a3 :: .ow (.l xs) :: l) = a0 :: a1 :: a2 :: a3 :: .im (.lst xs) :: l := Eq.trans rfl rfl
theorem fy4 {a0 a1 a2 a3 : Sl} {dd : D} {l : List Sl} : frzE 4 (a0 :: a1 :: a2 :: a3 :: .im dd :: l) = a0 :: a1 :: a2 :: a3 :: .im dd :: l := Eq.trans rfl rfl
theorem ri5 {a0 a1 a2 a3 a4 : Sl} {dd : D} {l : List Sl} : rdN 5 (a0 :: a1 :: a2 :: a3 :: a4 :: .im dd :: l) = .ok dd (a0 :: a1 :: a2 :: a3 :: a4 :: .im dd :: l) := Eq.trans rfl rfl
theorem ro5 {a0 a1 a2 a3 a4 : Sl} {xs : List D} {l : List Sl} : rdN 5 (a0 :: a1 :: a2 :: a3 :: a4 :: .ow (.l xs) :: l) = .ok (.lst xs) (a0 :: a1 :: a2 :: a3 :: a4 :: .im (.lst xs) :: l) := Eq.trans rfl rfl
theorem rs5 {a0 a1 a2 a3 a4 : Sl} {z x : Sl} {l : List Sl} : (a0 :: a1 :: a2 :: a3 :: a4 :: z :: l).set 5 x = a0 :: a1 :: a2 :: a3 :: a4 :: x :: l := Eq.trans rfl rfl
theorem ap5 {a0 a1 a2 a3 a4 : Sl} {f : List Sl → Rs D} {xs : List D} {l : List Sl} : fApp 5 f (a0 :: a1 :: a2 :: a3 :: a4 :: .ow (.l xs) :: l) = (f (a0 :: a1 :: a2 :: a3 :: a4 :: .ow (.l xs) :: l)).bind (appK 5) := Eq.trans rfl rfl
theorem aq5 {a0 a1 a2 a3 a4 : Sl} {dd : D} {xs : List D} {l : List Sl} (h : xs.length < 4000) : appK 5 dd (a0 :: a1 :: a2 :: a3 :: a4 :: .ow (.l xs) :: l) = .ok .non (a0 :: a1 :: a2 :: a3 :: a4 :: .ow (.l (xs ++ [dd])) :: l) := if_pos (len_lt h)
theorem ix5 {a0 a1 a2 a3 a4 : Sl} {g : List Sl → Rs D} {dd : D} {l : List Sl} : fIxN 5 g (a0 :: a1 :: a2 :: a3 :: a4 :: .im dd :: l) = (g (a0 :: a1 :: a2 :: a3 :: a4 :: .im dd :: l)).bind (ixK 5) := Eq.trans rfl rfl
theorem iy5 {a0 a1 a2 a3 a4 : Sl} {g : List Sl → Rs D} {w : Ow} {l : List Sl} : fIxN 5 g (a0 :: a1 :: a2 :: a3 :: a4 :: .ow w :: l) = (g (a0 :: a1 :: a2 :: a3 :: a4 :: .ow w :: l)).bind (ixK 5) := Eq.trans rfl rfl
theorem iz5 {a0 a1 a2 a3 a4 : Sl} {k : D} {xs : List D} {l : List Sl} : ixK 5 k (a0 :: a1 :: a2 :: a3 :: a4 :: .im (.lst xs) :: l) = Rs.opt (ixD (.lst xs) k) (a0 :: a1 :: a2 :: a3 :: a4 :: .im (.lst xs) :: l) := Eq.trans rfl rfl
theorem it5 {a0 a1 a2 a3 a4 : Sl} {k : D} {xs : List D} {l : List Sl} : ixK 5 k (a0 :: a1 :: a2 :: a3 :: a4 :: .im (.tup xs) :: l) = Rs.opt (ixD (.tup xs) k) (a0 :: a1 :: a2 :: a3 :: a4 :: .im (.tup xs) :: l) := Eq.trans rfl rfl
theorem iw5 {a0 a1 a2 a3 a4 : Sl} {k : D} {xs : List D} {l : List Sl} : ixK 5 k (a0 :: a1 :: a2 :: a3 :: a4 :: .ow (.l xs) :: l) = Rs.opt (ixD (.lst xs) k) (a0 :: a1 :: a2 :: a3 :: a4 :: .ow (.l xs) :: l) := Eq.trans rfl rfl
theorem ol5 {a0 a1 a2 a3 a4 : Sl} {xs : List D} {l : List Sl} : ownLen 5 (a0 :: a1 :: a2 :: a3 :: a4 :: .ow (.l xs) :: l) = .ok (.int xs.length) (a0 :: a1 :: a2 :: a3 :: a4 :: .ow (.l xs) :: l) := Eq.trans rfl rfl
theorem om5 {a0 a1 a2 a3 a4 : Sl} {xs : List D} {l : List Sl} : ownLen 5 (a0 :: a1 :: a2 :: a3 :: a4 :: .im (.lst xs) :: l) = .ok (.int xs.length) (a0 :: a1 :: a2 :: a3 :: a4 :: .im (.lst xs) :: l) := Eq.trans rfl rfl
theorem on5 {a0 a1 a2 a3 a4 : Sl} {xs : List D} {l : List Sl} : ownLen 5 (a0 :: a1 :: a2 :: a3 :: a4 :: .im (.tup xs) :: l) = .ok (.int xs.length) (a0 :: a1 :: a2 :: a3 :: a4 :: .im (.tup xs) :: l) := Eq.trans rfl rfl
theorem au5 {a0 a1 a2 a3 a4 : Sl} {f g : List Sl → Rs D} {c : D → D → Option D} {xs : List D} {l : List Sl} : augItem 5 f g c (a0 :: a1 :: a2 :: a3 :: a4 :: .ow (.l xs) :: l) = (f (a0 :: a1 :: a2 :: a3 :: a4 :: .ow (.l xs) :: l)).ro (augK 5 g c) := Eq.trans rfl rfl
theorem av5 {a0 a1 a2 a3 a4 : Sl} {g : List Sl → Rs D} {c : D → D → Option D} {j : Int} {xs : List D} {l : List Sl} (h0 : 0 ≤ j) (h1 : j < (xs.length : Int)) : augK 5 g c (.int j) (a0 :: a1 :: a2 :: a3 :: a4 :: .ow (.l xs) :: l) = (g (a0 :: a1 :: a2 :: a3 :: a4 :: .ow (.l xs) :: l)).ro (augM 5 c j (xs.getD j.toNat .non)) := augK_ok rfl h0 h1
theorem aw5 {a0 a1 a2 a3 a4 : Sl} {j : Int} {z : D} {xs : List D} {l : List Sl} (h1 : j < (xs.length : Int)) : augZ 5 j (a0 :: a1 :: a2 :: a3 :: a4 :: .ow (.l xs) :: l) (some z) = .nx (a0 :: a1 :: a2 :: a3 :: a4 :: .ow (.l (xs.set j.toNat z)) :: l) := augZ_ok rfl h1
theorem gi5 {a0 a1 a2 a3 a4 : Sl} {f : List Sl → Rs D} {dd : D} {xs : List D} {l : List Sl} : gIt 5 f dd (a0 :: a1 :: a2 :: a3 :: a4 :: .ow (.l xs) :: l) = kRob (f (a0 :: a1 :: a2 :: a3 :: a4 :: .ow (.l xs) :: l)) (gItK 5 dd) := gIt_ok rfl
theorem gj5 {a0 a1 a2 a3 a4 : Sl} {j : Int} {dd : D} {xs : List D} {l : List Sl} (h0 : 0 ≤ j) (h1 : j < (xs.length : Int)) : gItK 5 dd (.int j) (a0 :: a1 :: a2 :: a3 :: a4 :: .ow (.l xs) :: l) = .nx (a0 :: a1 :: a2 :: a3 :: a4 :: .ow (.l (xs.set j.toNat dd)) :: l) := if_pos ⟨h0, h1⟩
theorem ag5 {a0 a1 a2 a3 a4 : Sl} {f : List Sl → Rs D} {c : D → D → Option D} {x : D} {l : List Sl} : fAug 5 f c (a0 :: a1 :: a2 :: a3 :: a4 :: .im x :: l) = (f (a0 :: a1 :: a2 :: a3 :: a4 :: .im x :: l)).ro (agK 5 c x) := fAug_ok rfl
theorem xe5 {a0 a1 a2 a3 a4 : Sl} {f : List Sl → Rs D} {xs : List D} {l : List Sl} : fExt 5 f (a0 :: a1 :: a2 :: a3 :: a4 :: .ow (.l xs) :: l) = (f (a0 :: a1 :: a2 :: a3 :: a4 :: .ow (.l xs) :: l)).bind (extK 5) := Eq.trans rfl rfl
theorem xh5 {a0 a1 a2 a3 a4 : Sl} {xs ys : List D} {l : List Sl} (h : xs.length + ys.length ≤ 4000) : extK 5 (.lst ys) (a0 :: a1 :: a2 :: a3 :: a4 :: .ow (.l xs) :: l) = .ok .non (a0 :: a1 :: a2 :: a3 :: a4 :: .ow (.l (xs ++ ys)) :: l) := if_pos (len_le h)
theorem fz5 {a0 a1 a2 a3 a4 : Sl} {xs : List D} {l : List Sl} : frzE 5 (a0 :: a1 :: a2 :: a3 :: a4 :: .ow (.l xs) :: l) = a0 :: a1 :: a2 :: a3 :: a4 :: .im (.lst xs) :: l := Eq.trans rfl rfl
theorem fy5 {a0 a1 a2 a3 a4 : Sl} {dd : D} {l : List Sl} : frzE 5 (a0 :: a1 :: a2 :: a3 :: a4 :: .im dd :: l) = a0 :: a1 :: a2 :: a3 :: a4 :: .im dd :: l := Eq.trans rfl rfl
theorem ri6 {a0 a1 a2 a3 a4 a5 : Sl} {dd : D} {l : List Sl} : rdN 6 (a0 :: a1 :: a2 :: a3 :: a4 :: a5 :: .im dd :: l) = .ok dd (a0 :: a1 :: a2 :: a3 :: a4 :: a5 :: .im dd :: l) := Eq.trans rfl rfl
theorem ro6 {a0 a1 a2 a3 a4 a5 : Sl} {xs : List D} {l : List Sl} : rdN 6 (a0 :: a1 :: a2 :: a3 :: a4 :: a5 :: .ow (.l xs) :: l) = .ok (.lst xs) (a0 :: a1 :: a2 :: a3 :: a4 :: a5 :: .im (.lst xs) :: l) := Eq.trans rfl rfl
theorem rs6 {a0 a1 a2 a3 a4 a5 : Sl} {z x : Sl} {l : List Sl} : (a0 :: a1 :: a2 :: a3 :: a4 :: a5 :: z :: l).set 6 x = a0 :: a1 :: a2 :: a3 :: a4 :: a5 :: x :: l := Eq.trans rfl rfl
theorem ap6 {a0 a1 a2 a3 a4 a5 : Sl} {f : List Sl → Rs D} {xs : List D} {l : List Sl} : fApp 6 f (a0 :: a1 :: a2 :: a3 :: a4 :: a5 :: .ow (.l xs) :: l) = (f (a0 :: a1 :: a2 :: a3 :: a4 :: a5 :: .ow (.l xs) :: l)).bind (appK 6) := Eq.trans rfl rfl
theorem aq6 {a0 a1 a2 a3 a4 a5 : Sl} {dd : D} {xs : List D} {l : List Sl} (h : xs.length < 4000) : appK 6 dd (a0 :: a1 :: a2 :: a3 :: a4 :: a5 :: .ow (.l xs) :: l) = .ok .non (a0 :: a1 :: a2 :: a3 :: a4 :: a5 :: .ow (.l (xs ++ [dd])) :: l) := if_pos (len_lt h)
theorem ix6 {a0 a1 a2 a3 a4 a5 : Sl} {g : List Sl → Rs D} {dd : D} {l : List Sl} : fIxN 6 g (a0 :: a1 :: a2 :: a3 :: a4 :: a5 :: .im dd :: l) = (g (a0 :: a1 :: a2 :: a3 :: a4 :: a5 :: .im dd :: l)).bind (ixK 6) := Eq.trans rfl rfl
theorem iy6 {a0 a1 a2 a3 a4 a5 : Sl} {g : List Sl → Rs D} {w : Ow} {l : List Sl} : fIxN 6 g (a0 :: a1 :: a2 :: a3 :: a4 :: a5 :: .ow w :: l) = (g (a0 :: a1 :: a2 :: a3 :: a4 :: a5 :: .ow w :: l)).bind (ixK 6) := Eq.trans rfl rfl
theorem iz6 {a0 a1 a2 a3 a4 a5 : Sl} {k : D} {xs : List D} {l : List Sl} : ixK 6 k (a0 :: a1 :: a2 :: a3 :: a4 :: a5 :: .im (.lst xs) :: l) = Rs.opt (ixD (.lst xs) k) (a0 :: a1 :: a2 :: a3 :: a4 :: a5 :: .im (.lst xs) :: l) := Eq.trans rfl rfl
theorem it6 {a0 a1 a2 a3 a4 a5 : Sl} {k : D} {xs : List D} {l : List Sl} : ixK 6 k (a0 :: a1 :: a2 :: a3 :: a4 :: a5 :: .im (.tup xs) :: l) = Rs.opt (ixD (.tup xs) k) (a0 :: a1 :: a2 :: a3 :: a4 :: a5 :: .im (.tup xs) :: l) := Eq.trans rfl rfl
theorem iw6 {a0 a1 a2 a3 a4 a5 : Sl} {k : D} {xs : List D} {l : List Sl} : ixK 6 k (a0 :: a1 :: a2 :: a3 :: a4 :: a5 :: .ow (.l xs) :: l) = Rs.opt (ixD (.lst xs) k) (a0 :: a1 :: a2 :: a3 :: a4 :: a5 :: .ow (.l xs) :: l) := Eq.trans rfl rfl
theorem ol6 {a0 a1 a2 a3 a4 a5 : Sl} {xs : List D} {l : List Sl} : ownLen 6 (a0 :: a1 :: a2 :: a3 :: a4 :: a5 :: .ow (.l xs) :: l) = .ok (.int xs.length) (a0 :: a1 :: a2 :: a3 :: a4 :: a5 :: .ow (.l xs) :: l) := Eq.trans rfl rfl
theorem om6 {a0 a1 a2 a3 a4 a5 : Sl} {xs : List D} {l : List Sl} : ownLen 6 (a0 :: a1 :: a2 :: a3 :: a4 :: a5 :: .im (.lst xs) :: l) = .ok (.int xs.length) (a0 :: a1 :: a2 :: a3 :: a4 :: a5 :: .im (.lst xs) :: l) := Eq.trans rfl rfl
theorem on6 {a0 a1 a2 a3 a4 a5 : Sl} {xs : List D} {l : List Sl} : ownLen 6 (a0 :: a1 :: a2 :: a3 :: a4 :: a5 :: .im (.tup xs) :: l) = .ok (.int xs.length) (a0 :: a1 :: a2 :: a3 :: a4 :: a5 :: .im (.tup xs) :: l) := Eq.trans rfl rfl
theorem au6 {a0 a1 a2 a3 a4 a5 : Sl} {f g : List Sl → Rs D} {c : D → D → Option D} {xs : List D} {l : List Sl} : augItem 6 f g c (a0 :: a1 :: a2 :: a3 :: a4 :: a5 :: .ow (.l xs) :: l) = (f (a0 :: a1 :: a2 :: a3 :: a4 :: a5 :: .ow (.l xs) :: l)).ro (augK 6 g c) := Eq.trans rfl rfl
theorem av6 {a0 a1 a2 a3 a4 a5 : Sl} {g : List Sl → Rs D} {c : D → D → Option D} {j : Int} {xs : List D} {l : List Sl} (h0 : 0 ≤ j) (h1 : j < (xs.length : Int)) : augK 6 g c (.int j) (a0 :: a1 :: a2 :: a3 :: a4 :: a5 :: .ow (.l xs) :: l) = (g (a0 :: a1 :: a2 :: a3 :: a4 :: a5 :: .ow (.l xs) :: l)).ro (augM 6 c j (xs.getD j.toNat .non)) := augK_ok rfl h0 h1
theorem aw6 {a0 a1 a2 a3 a4 a5 : Sl} {j : Int} {z : D} {xs : List D} {l : List Sl} (h1 : j < (xs.length : Int)) : augZ 6 j (a0 :: a1 :: a2 :: a3 :: a4 :: a5 :: .ow (.l xs) :: l) (some z) = .nx (a0 :: a1 :: a2 :: a3 :: a4 :: a5 :: .ow (.l (xs.set j.toNat z)) :: l) := augZ_ok rfl h1
theorem gi6 {a0 a1 a2 a3 a4 a5 : Sl} {f : List Sl → Rs D} {dd : D} {xs : List D} {l : List Sl} : gIt 6 f dd (a0 :: a1 :: a2 :: a3 :: a4 :: a5 :: .ow (.l xs) :: l) = kRob (f (a0 :: a1 :: a2 :: a3 :: a4 :: a5 :: .ow (.l xs) :: l)) (gItK 6 dd) := gIt_ok rfl
theorem gj6 {a0 a1 a2 a3 a4 a5 : Sl} {j : Int} {dd : D} {xs : List D} {l : List Sl} (h0 : 0 ≤ j) (h1 : j < (xs.length : Int)) : gItK 6 dd (.int j) (a0 :: a1 :: a2 :: a3 :: a4 :: a5 :: .ow (.l xs) :: l) = .nx (a0 :: a1 :: a2 :: a3 :: a4 :: a5 :: .ow (.l (xs.set j.toNat dd)) :: l) := if_pos ⟨h0, h1⟩
theorem ag6 {a0 a1 a2 a3 a4 a5 : Sl} {f : List Sl → Rs D} {c : D → D → Option D} {x : D} {l : List Sl} : fAug 6 f c (a0 :: a1 :: a2 :: a3 :: a4 :: a5 :: .im x :: l) = (f (a0 :: a1 :: a2 :: a3 :: a4 :: a5 :: .im x :: l)).ro (agK 6 c x) := fAug_ok rfl
theorem xe6 {a0 a1 a2 a3 a4 a5 : Sl} {f : List Sl → Rs D} {xs : List D} {l : List Sl} : fExt 6 f (a0 :: a1 :: a2 :: a3 :: a4 :: a5 :: .ow (.l xs) :: l) = (f (a0 :: a1 :: a2 :: a3 :: a4 :: a5 :: .ow (.l xs) :: l)).bind (extK 6) := Eq.trans rfl rfl
theorem xh6 {a0 a1 a2 a3 a4 a5 : Sl} {xs ys : List D} {l : List Sl} (h : xs.length + ys.length ≤ 4000) : extK 6 (.lst ys) (a0 :: a1 :: a2 :: a3 :: a4 :: a5 :: .ow (.l xs) :: l) = .ok .non (a0 :: a1 :: a2 :: a3 :: a4 :: a5 :: .ow (.l (xs ++ ys)) :: l) := if_pos (len_le h)
theorem fz6 {a0 a1 a2 a3 a4 a5 : Sl} {xs : List D} {l : List Sl} : frzE 6 (a0 :: a1 :: a2 :: a3 :: a4 :: a5 :: .ow (.l xs) :: l) = a0 :: a1 :: a2 :: a3 :: a4 :: a5 :: .im (.lst xs) :: l := Eq.trans rfl rfl
theorem fy6 {a0 a1 a2 a3 a4 a5 : Sl} {dd : D} {l : List Sl} : frzE 6 (a0 :: a1 :: a2 :: a3 :: a4 :: a5 :: .im dd :: l) = a0 :: a1 :: a2 :: a3 :: a4 :: a5 :: .im dd :: l := Eq.trans rfl rfl
theorem ri7 {a0 a1 a2 a3 a4 a5 a6 : Sl} {dd : D} {l : List Sl} : rdN 7 (a0 :: a1 :: a2 :: a3 :: a4 :: a5 :: a6 :: .im dd :: l) = .ok dd (a0 :: a1 :: a2 :: a3 :: a4 :: a5 :: a6 :: .im dd :: l) := Eq.trans rfl rfl
theorem ro7 {a0 a1 a2 a3 a4 a5 a6 : Sl} {xs : List D} {l : List Sl} : rdN 7 (a0 :: a1 :: a2 :: a3 :: a4 :: a5 :: a6 :: .ow (.l xs) :: l) = .ok (.lst xs) (a0 :: a1 :: a2 :: a3 :: a4 :: a5 :: a6 :: .im (.lst xs) :: l) := Eq.trans rfl rfl
theorem rs7 {a0 a1 a2 a3 a4 a5 a6 : Sl} {z x : Sl} {l : List Sl} : (a0 :: a1 :: a2 :: a3 :: a4 :: a5 :: a6 :: z :: l).set 7 x = a0 :: a1 :: a2 :: a3 :: a4 :: a5 :: a6 :: x :: l := Eq.trans rfl rfl
theorem ap7 {a0 a1 a2 a3 a4 a5 a6 : Sl} {f : List Sl → Rs D} {xs : List D} {l : List Sl} : fApp 7 f (a0 :: a1 :: a2 :: a3 :: a4 :: a5 :: a6 :: .ow (.l xs) :: l) = (f (a0 :: a1 :: a2 :: a3 :: a4 :: a5 :: a6 :: .ow (.l xs) :: l)).bind (appK 7) := Eq.trans rfl rfl
theorem aq7 {a0 a1 a2 a3 a4 a5 a6 : Sl} {dd : D} {xs : List D} {l : List Sl} (h : xs.length < 4000) : appK 7 dd (a0 :: a1 :: a2 :: a3 :: a4 :: a5 :: a6 :: .ow (.l xs) :: l) = .ok .non (a0 :: a1 :: a2 :: a3 :: a4 :: a5 :: a6 :: .ow (.l (xs ++ [dd])) :: l) := if_pos (len_lt h)
theorem ix7 {a0 a1 a2 a3 a4 a5 a6 : Sl} {g : List Sl → Rs D} {dd : D} {l : List Sl} : fIxN 7 g (a0 :: a1 :: a2 :: a3 :: a4 :: a5 :: a6 :: .im dd :: l) = (g (a0 :: a1 :: a2 :: a3 :: a4 :: a5 :: a6 :: .im dd :: l)).bind (ixK 7) := Eq.trans rfl rfl
theorem iy7 {a0 a1 a2 a3 a4 a5 a6 : Sl} {g : List Sl → Rs D} {w : Ow} {l : List Sl} : fIxN 7 g (a0 :: a1 :: a2 :: a3 :: a4 :: a5 :: a6 :: .ow w :: l) = (g (a0 :: a1 :: a2 :: a3 :: a4 :: a5 :: a6 :: .ow w :: l)).bind (ixK 7) := Eq.trans rfl rfl
theorem iz7 {a0 a1 a2 a3 a4 a5 a6 : Sl} {k : D} {xs : List D} {l : List Sl} : ixK 7 k (a0 :: a1 :: a2 :: a3 :: a4 :: a5 :: a6 :: .im (.lst xs) :: l) = Rs.opt (ixD (.lst xs) k) (a0 :: a1 :: a2 :: a3 :: a4 :: a5 :: a6 :: .im (.lst xs) :: l) := Eq.trans rfl rfl
theorem it7 {a0 a1 a2 a3 a4 a5 a6 : Sl} {k : D} {xs : List D} {l : List Sl} : ixK 7 k (a0 :: a1 :: a2 :: a3 :: a4 :: a5 :: a6 :: .im (.tup xs) :: l) = Rs.opt (ixD (.tup xs) k) (a0 :: a1 :: a2 :: a3 :: a4 :: a5 :: a6 :: .im (.tup xs) :: l) := Eq.trans rfl rfl
theorem iw7 {a0 a1 a2 a3 a4 a5 a6 : Sl} {k : D} {xs : List D} {l : List Sl} : ixK 7 k (a0 :: a1 :: a2 :: a3 :: a4 :: a5 :: a6 :: .ow (.l xs) :: l) = Rs.opt (ixD (.lst xs) k) (a0 :: a1 :: a2 :: a3 :: a4 :: a5 :: a6 :: .ow (.l xs) :: l) := Eq.trans rfl rfl
theorem ol7 {a0 a1 a2 a3 a4 a5 a6 : Sl} {xs : List D} {l : List Sl} : ownLen 7 (a0 :: a1 :: a2 :: a3 :: a4 :: a5 :: a6 :: .ow (.l xs) :: l) = .ok (.int xs.length) (a0 :: a1 :: a2 :: a3 :: a4 :: a5 :: a6 :: .ow (.l xs) :: l) := Eq.trans rfl rfl
theorem om7 {a0 a1 a2 a3 a4 a5 a6 : Sl} {xs : List D} {l : List Sl} : ownLen 7 (a0 :: a1 :: a2 :: a3 :: a4 :: a5 :: a6 :: .im (.lst xs) :: l) = .ok (.int xs.length) (a0 :: a1 :: a2 :: a3 :: a4 :: a5 :: a6 :: .im (.lst xs) :: l) := Eq.trans rfl rfl
theorem on7 {a0 a1 a2 a3 a4 a5 a6 : Sl} {xs : List D} {l : List Sl} : ownLen 7 (a0 :: a1 :: a2 :: a3 :: a4 :: a5 :: a6 :: .im (.tup xs) :: l) = .ok (.int xs.length) (a0 :: a1 :: a2 :: a3 :: a4 :: a5 :: a6 :: .im (.tup xs) :: l) := Eq.trans rfl rfl
theorem au7 {a0 a1 a2 a3 a4 a5 a6 : Sl} {f g : List Sl → Rs D} {c : D → D → Option D} {xs : List D} {l : List Sl} : augItem 7 f g c (a0 :: a1 :: a2 :: a3 :: a4 :: a5 :: a6 :: .ow (.l xs) :: l) = (f (a0 :: a1 :: a2 :: a3 :: a4 :: a5 :: a6 :: .ow (.l xs) :: l)).ro (augK 7 g c) := Eq.trans rfl rfl
theorem av7 {a0 a1 a2 a3 a4 a5 a6 : Sl} {g : List Sl → Rs D} {c : D → D → Option D} {j : Int} {xs : List D} {l : List Sl} (h0 : 0 ≤ j) (h1 : j < (xs.length : Int)) : augK 7 g c (.int j) (a0 :: a1 :: a2 :: a3 :: a4 :: a5 :: a6 :: .ow (.l xs) :: l) = (g (a0 :: a1 :: a2 :: a3 :: a4 :: a5 :: a6 :: .ow (.l xs) :: l)).ro (augM 7 c j (xs.getD j.toNat .non)) := augK_ok rfl h0 h1
theorem aw7 {a0 a1 a2 a3 a4 a5 a6 : Sl} {j : Int} {z : D} {xs : List D} {l : List Sl} (h1 : j < (xs.length : Int)) : augZ 7 j (a0 :: a1 :: a2 :: a3 :: a4 :: a5 :: a6 :: .ow (.l xs) :: l) (some z) = .nx (a0 :: a1 :: a2 :: a3 :: a4 :: a5 :: a6 :: .ow (.l (xs.set j.toNat z)) :: l) := augZ_ok rfl h1
theorem gi7 {a0 a1 a2 a3 a4 a5 a6 : Sl} {f : List Sl → Rs D} {dd : D} {xs : List D} {l : List Sl} : gIt 7 f dd (a0 :: a1 :: a2 :: a3 :: a4 :: a5 :: a6 :: .ow (.l xs) :: l) = kRob (f (a0 :: a1 :: a2 :: a3 :: a4 :: a5 :: a6 :: .ow (.l xs) :: l)) (gItK 7 dd) := gIt_ok rfl
theorem gj7 {a0 a1 a2 a3 a4 a5 a6 : Sl} {j : Int} {dd : D} {xs : List D} {l : List Sl} (h0 : 0 ≤ j) (h1 : j < (xs.length : Int)) : gItK 7 dd (.int j) (a0 :: a1 :: a2 :: a3 :: a4 :: a5 :: a6 :: .ow (.l xs) :: l) = .nx (a0 :: a1 :: a2 :: a3 :: a4 :: a5 :: a6 :: .ow (.l (xs.set j.toNat dd)) :: l) := if_pos ⟨h0, h1⟩
theorem ag7 {a0 a1 a2 a3 a4 a5 a6 : Sl} {f : List Sl → Rs D} {c : D → D → Option D} {x : D} {l : List Sl} : fAug 7 f c (a0 :: a1 :: a2 :: a3 :: a4 :: a5 :: a6 :: .im x :: l) = (f (a0 :: a1 :: a2 :: a3 :: a4 :: a5 :: a6 :: .im x :: l)).ro (agK 7 c x) := fAug_ok rfl
theorem xe7 {a0 a1 a2 a3 a4 a5 a6 : Sl} {f : List Sl → Rs D} {xs : List D} {l : List Sl} : fExt 7 f (a0 :: a1 :: a2 :: a3 :: a4 :: a5 :: a6 :: .ow (.l xs) :: l) = (f (a0 :: a1 :: a2 :: a3 :: a4 :: a5 :: a6 :: .ow (.l xs) :: l)).bind (extK 7) := Eq.trans rfl rfl
theorem xh7 {a0 a1 a2 a3 a4 a5 a6 : Sl} {xs ys : List D} {l : List Sl} (h : xs.length + ys.length ≤ 4000) : extK 7 (.lst ys) (a0 :: a1 :: a2 :: a3 :: a4 :: a5 :: a6 :: .ow (.l xs) :: l) = .ok .non (a0 :: a1 :: a2 :: a3 :: a4 :: a5 :: a6 :: .ow (.l (xs ++ ys)) :: l) := if_pos (len_le h)
theorem fz7 {a0 a1 a2 a3 a4 a5 a6 : Sl} {xs : List D} {l : List Sl} : frzE 7 (a0 :: a1 :: a2 :: a3 :: a4 :: a5 :: a6 :: .ow (.l xs) :: l) = a0 :: a1 :: a2 :: a3 :: a4 :: a5 :: a6 :: .im (.lst xs) :: l := Eq.trans rfl rfl
theorem fy7 {a0 a1 a2 a3 a4 a5 a6 : Sl} {dd : D} {l : List Sl} : frzE 7 (a0 :: a1 :: a2 :: a3 :: a4 :: a5 :: a6 :: .im dd :: l) = a0 :: a1 :: a2 :: a3 :: a4 :: a5 :: a6 :: .im dd :: l := Eq.trans rfl rfl
theorem ri8 {a0 a1 a2 a3 a4 a5 a6 a7 : Sl} {dd : D} {l : List Sl} : rdN 8 (a0 :: a1 :: a2 :: a3 :: a4 :: a5 :: a6 :: a7 :: .im dd :: l) = .ok dd (a0 :: a1 :: a2 :: a3 :: a4 :: a5 :: a6 :: a7 :: .im dd :: l) := Eq.trans rfl rfl
theorem ro8 {a0 a1 a2 a3 a4 a5 a6 a7 : Sl} {xs : List D} {l : List Sl} : rdN 8 (a0 :: a1 :: a2 :: a3 :: a4 :: a5 :: a6 :: a7 :: .ow (.l xs) :: l) = .ok (.lst xs) (a0 :: a1 :: a2 :: a3 :: a4 :: a5 :: a6 :: a7 :: .im (.lst xs) :: l) := Eq.trans rfl rfl
theorem rs8 {a0 a1 a2 a3 a4 a5 a6 a7 : Sl} {z x : Sl} {l : List Sl} : (a0 :: a1 :: a2 :: a3 :: a4 :: a5 :: a6 :: a7 :: z :: l).set 8 x = a0 :: a1 :: a2 :: a3 :: a4 :: a5 :: a6 :: a7 :: x :: l := Eq.trans rfl rfl
theorem ap8 {a0 a1 a2 a3 a4 a5 a6 a7 : Sl} {f : List Sl → Rs D} {xs : List D} {l : List Sl} : fApp 8 f (a0 :: a1 :: a2 :: a3 :: a4 :: a5 :: a6 :: a7 :: .ow (.l xs) :: l) = (f (a0 :: a1 :: a2 :: a3 :: a4 :: a5 :: a6 :: a7 :: .ow (.l xs) :: l)).bind (appK 8) := Eq.trans rfl rfl
theorem aq8 {a0 a1 a2 a3 a4 a5 a6 a7 : Sl} {dd : D} {xs : List D} {l : List Sl} (h : xs.length < 4000) : appK 8 dd (a0 :: a1 :: a2 :: a3 :: a4 :: a5 :: a6 :: a7 :: .ow (.l xs) :: l) = .ok .non (a0 :: a1 :: a2 :: a3 :: a4 :: a5 :: a6 :: a7 :: .ow (.l (xs ++ [dd])) :: l) := if_pos (len_lt h)
theorem ix8 {a0 a1 a2 a3 a4 a5 a6 a7 : Sl} {g : List Sl → Rs D} {dd : D} {l : List Sl} : fIxN 8 g (a0 :: a1 :: a2 :: a3 :: a4 :: a5 :: a6 :: a7 :: .im dd :: l) = (g (a0 :: a1 :: a2 :: a3 :: a4 :: a5 :: a6 :: a7 :: .im dd :: l)).bind (ixK 8) := Eq.trans rfl rfl
theorem iy8 {a0 a1 a2 a3 a4 a5 a6 a7 : Sl} {g : List Sl → Rs D} {w : Ow} {l : List Sl} : fIxN 8 g (a0 :: a1 :: a2 :: a3 :: a4 :: a5 :: a6 :: a7 :: .ow w :: l) = (g (a0 :: a1 :: a2 :: a3 :: a4 :: a5 :: a6 :: a7 :: .ow w :: l)).bind (ixK 8) := Eq.trans rfl rfl
theorem iz8 {a0 a1 a2 a3 a4 a5 a6 a7 : Sl} {k : D} {xs : List D} {l : List Sl} : ixK 8 k (a0 :: a1 :: a2 :: a3 :: a4 :: a5 :: a6 :: a7 :: .im (.lst xs) :: l) = Rs.opt (ixD (.lst xs) k) (a0 :: a1 :: a2 :: a3 :: a4 :: a5 :: a6 :: a7 :: .im (.lst xs) :: l) := Eq.trans rfl rfl
theorem it8 {a0 a1 a2 a3 a4 a5 a6 a7 : Sl} {k : D} {xs : List D} {l : List Sl} : ixK 8 k (a0 :: a1 :: a2 :: a3 :: a4 :: a5 :: a6 :: a7 :: .im (.tup xs) :: l) = Rs.opt (ixD (.tup xs) k) (a0 :: a1 :: a2 :: a3 :: a4 :: a5 :: a6 :: a7 :: .im (.tup xs) :: l) := Eq.trans rfl rfl
theorem iw8 {a0 a1 a2 a3 a4 a5 a6 a7 : Sl} {k : D} {xs : List D} {l : List Sl} : ixK 8 k (a0 :: a1 :: a2 :: a3 :: a4 :: a5 :: a6 :: a7 :: .ow (.l xs) :: l) = Rs.opt (ixD (.lst xs) k) (a0 :: a1 :: a2 :: a3 :: a4 :: a5 :: a6 :: a7 :: .ow (.l xs) :: l) := Eq.trans rfl rfl
theorem ol8 {a0 a1 a2 a3 a4 a5 a6 a7 : Sl} {xs : List D} {l : List Sl} : ownLen 8 (a0 :: a1 :: a2 :: a3 :: a4 :: a5 :: a6 :: a7 :: .ow (.l xs) :: l) = .ok (.int xs.length) (a0 :: a1 :: a2 :: a3 :: a4 :: a5 :: a6 :: a7 :: .ow (.l xs) :: l) := Eq.trans rfl rfl
theorem om8 {a0 a1 a2 a3 a4 a5 a6 a7 : Sl} {xs : List D} {l : List Sl} : ownLen 8 (a0 :: a1 :: a2 :: a3 :: a4 :: a5 :: a6 :: a7 :: .im (.lst xs) :: l) = .ok (.int xs.length) (a0 :: a1 :: a2 :: a3 :: a4 :: a5 :: a6 :: a7 :: .im (.lst xs) :: l) := Eq.trans rfl rfl
theorem on8 {a0 a1 a2 a3 a4 a5 a6 a7 : Sl} {xs : List D} {l : List Sl} : ownLen 8 (a0 :: a1 :: a2 :: a3 :: a4 :: a5 :: a6 :: a7 :: .im (.tup xs) :: l) = .ok (.int xs.length) (a0 :: a1 :: a2 :: a3 :: a4 :: a5 :: a6 :: a7 :: .im (.tup xs) :: l) := Eq.trans rfl rfl
theorem au8 {a0 a1 a2 a3 a4 a5 a6 a7 : Sl} {f g : List Sl → Rs D} {c : D → D → Option D} {xs : List D} {l : List Sl} : augItem 8 f g c (a0 :: a1 :: a2 :: a3 :: a4 :: a5 :: a6 :: a7 :: .ow (.l xs) :: l) = (f (a0 :: a1 :: a2 :: a3 :: a4 :: a5 :: a6 :: a7 :: .ow (.l xs) :: l)).ro (augK 8 g c) := Eq.trans rfl rfl
theorem av8 {a0 a1 a2 a3 a4 a5 a6 a7 : Sl} {g : List Sl → Rs D} {c : D → D → Option D} {j : Int} {xs : List D} {l : List Sl} (h0 : 0 ≤ j) (h1 : j < (xs.length : Int)) : augK 8 g c (.int j) (a0 :: a1 :: a2 :: a3 :: a4 :: a5 :: a6 :: a7 :: .ow (.l xs) :: l) = (g (a0 :: a1 :: a2 :: a3 :: a4 :: a5 :: a6 :: a7 :: .ow (.l xs) :: l)).ro (augM 8 c j (xs.getD j.toNat .non)) := augK_ok rfl h0 h1
theorem aw8 {a0 a1 a2 a3 a4 a5 a6 a7 : Sl} {j : Int} {z : D} {xs : List D} {l : List Sl} (h1 : j < (xs.length : Int)) : augZ 8 j (a0 :: a1 :: a2 :: a3 :: a4 :: a5 :: a6 :: a7 :: .ow (.l xs) :: l) (some z) = .nx (a0 :: a1 :: a2 :: a3 :: a4 :: a5 :: a6 :: a7 :: .ow (.l (xs.set j.toNat z)) :: l) := augZ_ok rfl h1
theorem gi8 {a0 a1 a2 a3 a4 a5 a6 a7 : Sl} {f : List Sl → Rs D} {dd : D} {xs : List D} {l : List Sl} : gIt 8 f dd (a0 :: a1 :: a2 :: a3 :: a4 :: a5 :: a6 :: a7 :: .ow (.l xs) :: l) = kRob (f (a0 :: a1 :: a2 :: a3 :: a4 :: a5 :: a6 :: a7 :: .ow (.l xs) :: l)) (gItK 8 dd) := gIt_ok rfl
theorem gj8 {a0 a1 a2 a3 a4 a5 a6 a7 : Sl} {j : Int} {dd : D} {xs : List D} {l : List Sl} (h0 : 0 ≤ j) (h1 : j < (xs.length : Int)) : gItK 8 dd (.int j) (a0 :: a1 :: a2 :: a3 :: a4 :: a5 :: a6 :: a7 :: .ow (.l xs) :: l) = .nx (a0 :: a1 :: a2 :: a3 :: a4 :: a5 :: a6 :: a7 :: .ow (.l (xs.set j.toNat dd)) :: l) := if_pos ⟨h0, h1⟩
theorem ag8 {a0 a1 a2 a3 a4 a5 a6 a7 : Sl} {f : List Sl → Rs D} {c : D → D → Option D} {x : D} {l : List Sl} : fAug 8 f c (a0 :: a1 :: a2 :: a3 :: a4 :: a5 :: a6 :: a7 :: .im x :: l) = (f (a0 :: a1 :: a2 :: a3 :: a4 :: a5 :: a6 :: a7 :: .im x :: l)).ro (agK 8 c x) := fAug_ok rfl
theorem xe8 {a0 a1 a2 a3 a4 a5 a6 a7 : Sl} {f : List Sl → Rs D} {xs : List D} {l : List Sl} : fExt 8 f (a0 :: a1 :: a2 :: a3 :: a4 :: a5 :: a6 :: a7 :: .ow (.l xs) :: l) = (f (a0 :: a1 :: a2 :: a3 :: a4 :: a5 :: a6 :: a7 :: .ow (.l xs) :: l)).bind (extK 8) := Eq.trans rfl rfl
theorem xh8 {a0 a1 a2 a3 a4 a5 a6 a7 : Sl} {xs ys : List D} {l : List Sl} (h : xs.length + ys.length ≤ 4000) : extK 8 (.lst ys) (a0 :: a1 :: a2 :: a3 :: a4 :: a5 :: a6 :: a7 :: .ow (.l xs) :: l) = .ok .non (a0 :: a1 :: a2 :: a3 :: a4 :: a5 :: a6 :: a7 :: .ow (.l (xs ++ ys)) :: l) := if_pos (len_le h)
theorem fz8 {a0 a1 a2 a3 a4 a5 a6 a7 : Sl} {xs : List D} {l : List Sl} : frzE 8 (a0 :: a1 :: a2 :: a3 :: a4 :: a5 :: a6 :: a7 :: .ow (.l xs) :: l) = a0 :: a1 :: a2 :: a3 :: a4 :: a5 :: a6 :: a7 :: .im (.lst xs) :: l := Eq.trans rfl rfl
theorem fy8 {a0 a1 a2 a3 a4 a5 a6 a7 : Sl} {dd : D} {l : List Sl} : frzE 8 (a0 :: a1 :: a2 :: a3 :: a4 :: a5 :: a6 :: a7 :: .im dd :: l) = a0 :: a1 :: a2 :: a3 :: a4 :: a5 :: a6 :: a7 :: .im dd :: l := Eq.trans rfl rfl
theorem ri9 {a0 a1 a2 a3 a4 a5 a6 a7 a8 : Sl} {dd : D} {l : List Sl} : rdN 9 (a0 :: a1 :: a2 :: a3 :: a4 :: a5 :: a6 :: a7 :: a8 :: .im dd :: l) = .ok dd (a0 :: a1 :: a2 :: a3 :: a4 :: a5 :: a6 :: a7 :: a8 :: .im dd :: l) := Eq.trans rfl rfl
theorem ro9 {a0 a1 a2 a3 a4 a5 a6 a7 a8 : Sl} {xs : List D} {l : List Sl} : rdN 9 (a0 :: a1 :: a2 :: a3 :: a4 :: a5 :: a6 :: a7 :: a8 :: .ow (.l xs) :: l) = .ok (.lst xs) (a0 :: a1 :: a2 :: a3 :: a4 :: a5 :: a6 :: a7 :: a8 :: .im (.lst xs) :: l) := Eq.trans rfl rfl
theorem rs9 {a0 a1 a2 a3 a4 a5 a6 a7 a8 : Sl} {z x : Sl} {l : List Sl} : (a0 :: a1 :: a2 :: a3 :: a4 :: a5 :: a6 :: a7 :: a8 :: z :: l).set 9 x = a0 :: a1 :: a2 :: a3 :: a4 :: a5 :: a6 :: a7 :: a8 :: x :: l := Eq.trans rfl rfl
theorem ap9 {a0 a1 a2 a3 a4 a5 a6 a7 a8 : Sl} {f : List Sl → Rs D} {xs : List D} {l : List Sl} : fApp 9 f (a0 :: a1 :: a2 :: a3 :: a4 :: a5 :: a6 :: a7 :: a8 :: .ow (.l xs) :: l) = (f (a0 :: a1 :: a2 :: a3 :: a4 :: a5 :: a6 :: a7 :: a8 :: .ow (.l xs) :: l)).bind (appK 9) := Eq.trans rfl rfl
theorem aq9 {a0 a1 a2 a3 a4 a5 a6 a7 a8 : Sl} {dd : D} {xs : List D} {l : List Sl} (h : xs.length < 4000) : appK 9 dd (a0 :: a1 :: a2 :: a3 :: a4 :: a5 :: a6 :: a7 :: a8 :: .ow (.l xs) :: l) = .ok .non (a0 :: a1 :: a2 :: a3 :: a4 :: a5 :: a6 :: a7 :: a8 :: .ow (.l (xs ++ [dd])) :: l) := if_pos (len_lt h)
theorem ix9 {a0 a1 a2 a3 a4 a5 a6 a7 a8 : Sl} {g : List Sl → Rs D} {dd : D} {l : List Sl} : fIxN 9 g (a0 :: a1 :: a2 :: a3 :: a4 :: a5 :: a6 :: a7 :: a8 :: .im dd :: l) = (g (a0 :: a1 :: a2 :: a3 :: a4 :: a5 :: a6 :: a7 :: a8 :: .im dd :: l)).bind (ixK 9) := Eq.trans rfl rfl
theorem iy9 {a0 a1 a2 a3 a4 a5 a6 a7 a8 : Sl} {g : List Sl → Rs D} {w : Ow} {l : List Sl} : fIxN 9 g (a0 :: a1 :: a2 :: a3 :: a4 :: a5 :: a6 :: a7 :: a8 :: .ow w :: l) = (g (a0 :: a1 :: a2 :: a3 :: a4 :: a5 :: a6 :: a7 :: a8 :: .ow w :: l)).bind (ixK 9) := Eq.trans rfl rfl
theorem iz9 {a0 a1 a2 a3 a4 a5 a6 a7 a8 : Sl} {k : D} {xs : List D} {l : List Sl} : ixK 9 k (a0 :: a1 :: a2 :: a3 :: a4 :: a5 :: a6 :: a7 :: a8 :: .im (.lst xs) :: l) = Rs.opt (ixD (.lst xs) k) (a0 :: a1 :: a2 :: a3 :: a4 :: a5 :: a6 :: a7 :: a8 :: .im (.lst xs) :: l) := Eq.trans rfl rfl
theorem it9 {a0 a1 a2 a3 a4 a5 a6 a7 a8 : Sl} {k : D} {xs : List D} {l : List Sl} : ixK 9 k (a0 :: a1 :: a2 :: a3 :: a4 :: a5 :: a6 :: a7 :: a8 :: .im (.tup xs) :: l) = Rs.opt (ixD (.tup xs) k) (a0 :: a1 :: a2 :: a3 :: a4 :: a5 :: a6 :: a7 :: a8 :: .im (.tup xs) :: l) := Eq.trans rfl rfl
theorem iw9 {a0 a1 a2 a3 a4 a5 a6 a7 a8 : Sl} {k : D} {xs : List D} {l : List Sl} : ixK 9 k (a0 :: a1 :: a2 :: a3 :: a4 :: a5 :: a6 :: a7 :: a8 :: .ow (.l xs) :: l) = Rs.opt (ixD (.lst xs) k) (a0 :: a1 :: a2 :: a3 :: a4 :: a5 :: a6 :: a7 :: a8 :: .ow (.l xs) :: l) := Eq.trans rfl rfl
theorem ol9 {a0 a1 a2 a3 a4 a5 a6 a7 a8 : Sl} {xs : List D} {l : List Sl} : ownLen 9 (a0 :: a1 :: a2 :: a3 :: a4 :: a5 :: a6 :: a7 :: a8 :: .ow (.l xs) :: l) = .ok (.int xs.length) (a0 :: a1 :: a2 :: a3 :: a4 :: a5 :: a6 :: a7 :: a8 :: .ow (.l xs) :: l) := Eq.trans rfl rfl
theorem om9 {a0 a1 a2 a3 a4 a5 a6 a7 a8 : Sl} {xs : List D} {l : List Sl} : ownLen 9 (a0 :: a1 :: a2 :: a3 :: a4 :: a5 :: a6 :: a7 :: a8 :: .im (.lst xs) :: l) = .ok (.int xs.length) (a0 :: a1 :: a2 :: a3 :: a4 :: a5 :: a6 :: a7 :: a8 :: .im (.lst xs) :: l) := Eq.trans rfl rfl
theorem on9 {a0 a1 a2 a3 a4 a5 a6 a7 a8 : Sl} {xs : List D} {l : List Sl} : ownLen 9 (a0 :: a1 :: a2 :: a3 :: a4 :: a5 :: a6 :: a7 :: a8 :: .im (.tup xs) :: l) = .ok (.int xs.length) (a0 :: a1 :: a2 :: a3 :: a4 :: a5 :: a6 :: a7 :: a8 :: .im (.tup xs) :: l) := Eq.trans rfl rfl
theorem au9 {a0 a1 a2 a3 a4 a5 a6 a7 a8 : Sl} {f g : List Sl → Rs D} {c : D → D → Option D} {xs : List D} {l : List Sl} : augItem 9 f g c (a0 :: a1 :: a2 :: a3 :: a4 :: a5 :: a6 :: a7 :: a8 :: .ow (.l xs) :: l) = (f (a0 :: a1 :: a2 :: a3 :: a4 :: a5 :: a6 :: a7 :: a8 :: .ow (.l xs) :: l)).ro (augK 9 g c) := Eq.trans rfl rfl
theorem av9 {a0 a1 a2 a3 a4 a5 a6 a7 a8 : Sl} {g : List Sl → Rs D} {c : D → D → Option D} {j : Int} {xs : List D} {l : List Sl} (h0 : 0 ≤ j) (h1 : j < (xs.length : Int)) : augK 9 g c (.int j) (a0 :: a1 :: a2 :: a3 :: a4 :: a5 :: a6 :: a7 :: a8 :: .ow (.l xs) :: l) = (g (a0 :: a1 :: a2 :: a3 :: a4 :: a5 :: a6 :: a7 :: a8 :: .ow (.l xs) :: l)).ro (augM 9 c j (xs.getD j.toNat .non)) := augK_ok rfl h0 h1
theorem aw9 {a0 a1 a2 a3 a4 a5 a6 a7 a8 : Sl} {j : Int} {z : D} {xs : List D} {l : List Sl} (h1 : j < (xs.length : Int)) : augZ 9 j (a0 :: a1 :: a2 :: a3 :: a4 :: a5 :: a6 :: a7 :: a8 :: .ow (.l xs) :: l) (some z) = .nx (a0 :: a1 :: a2 :: a3 :: a4 :: a5 :: a6 :: a7 :: a8 :: .ow (.l (xs.set j.toNat z)) :: l) := augZ_ok rfl h1
theorem gi9 {a0 a1 a2 a3 a4 a5 a6 a7 a8 : Sl} {f : List Sl → Rs D} {dd : D} {xs : List D} {l : List Sl} : gIt 9 f dd (a0 :: a1 :: a2 :: a3 :: a4 :: a5 :: a6 :: a7 :: a8 :: .ow (.l xs) :: l) = kRob (f (a0 :: a1 :: a2 :: a3 :: a4 :: a5 :: a6 :: a7 :: a8 :: .ow (.l xs) :: l)) (gItK 9 dd) := gIt_ok rfl
theorem gj9 {a0 a1 a2 a3 a4 a5 a6 a7 a8 : Sl} {j : Int} {dd : D} {xs : List D} {l : List Sl} (h0 : 0 ≤ j) (h1 : j < (xs.length : Int)) : gItK 9 dd (.int j) (a0 :: a1 :: a2 :: a3 :: a4 :: a5 :: a6 :: a7 :: a8 :: .ow (.l xs) :: l) = .nx (a0 :: a1 :: a2 :: a3 :: a4 :: a5 :: a6 :: a7 :: a8 :: .ow (.l (xs.set j.toNat dd)) :: l) := if_pos ⟨h0, h1⟩
theorem ag9 {a0 a1 a2 a3 a4 a5 a6 a7 a8 : Sl} {f : List Sl → Rs D} {c : D → D → Option D} {x : D} {l : List Sl} : fAug 9 f c (a0 :: a1 :: a2 :: a3 :: a4 :: a5 :: a6 :: a7 :: a8 :: .im x :: l) = (f (a0 :: a1 :: a2 :: a3 :: a4 :: a5 :: a6 :: a7 :: a8 :: .im x :: l)).ro (agK 9 c x) := fAug_ok rfl
theorem xe9 {a0 a1 a2 a3 a4 a5 a6 a7 a8 : Sl} {f : List Sl → Rs D} {xs : List D} {l : List Sl} : fExt 9 f (a0 :: a1 :: a2 :: a3 :: a4 :: a5 :: a6 :: a7 :: a8 :: .ow (.l xs) :: l) = (f (a0 :: a1 :: a2 :: a3 :: a4 :: a5 :: a6 :: a7 :: a8 :: .ow (.l xs) :: l)).bind (extK 9) := Eq.trans rfl rfl
theorem xh9 {a0 a1 a2 a3 a4 a5 a6 a7 a8 : Sl} {xs ys : List D} {l : List Sl} (h : xs.length + ys.length ≤ 4000) : extK 9 (.lst ys) (a0 :: a1 :: a2 :: a3 :: a4 :: a5 :: a6 :: a7 :: a8 :: .ow (.l xs) :: l) = .ok .non (a0 :: a1 :: a2 :: a3 :: a4 :: a5 :: a6 :: a7 :: a8 :: .ow (.l (xs ++ ys)) :: l) := if_pos (len_le h)
theorem fz9 {a0 a1 a2 a3 a4 a5 a6 a7 a8 : Sl} {xs : List D} {l : List Sl} : frzE 9 (a0 :: a1 :: a2 :: a3 :: a4 :: a5 :: a6 :: a7 :: a8 :: .ow (.l xs) :: l) = a0 :: a1 :: a2 :: a3 :: a4 :: a5 :: a6 :: a7 :: a8 :: .im (.lst xs) :: l := Eq.trans rfl rfl
theorem fy9 {a0 a1 a2 a3 a4 a5 a6 a7 a8 : Sl} {dd : D} {l : List Sl} : frzE 9 (a0 :: a1 :: a2 :: a3 :: a4 :: a5 :: a6 :: a7 :: a8 :: .im dd :: l) = a0 :: a1 :: a2 :: a3 :: a4 :: a5 :: a6 :: a7 :: a8 :: .im dd :: l := Eq.trans rfl rfl
theorem ri10 {a0 a1 a2 a3 a4 a5 a6 a7 a8 a9 : Sl} {dd : D} {l : List Sl} : rdN 10 (a0 :: a1 :: a2 :: a3 :: a4 :: a5 :: a6 :: a7 :: a8 :: a9 :: .im dd :: l) = .ok dd (a0 :: a1 :: a2 :: a3 :: a4 :: a5 :: a6 :: a7 :: a8 :: a9 :: .im dd :: l) := Eq.trans rfl rfl
theorem ro10 {a0 a1 a2 a3 a4 a5 a6 a7 a8 a9 : Sl} {xs : List D} {l : List Sl} : rdN 10 (a0 :: a1 :: a2 :: a3 :: a4 :: a5 :: a6 :: a7 :: a8 :: a9 :: .ow (.l xs) :: l) = .ok (.lst xs) (a0 :: a1 :: a2 :: a3 :: a4 :: a5 :: a6 :: a7 :: a8 :: a9 :: .im (.lst xs) :: l) := Eq.trans rfl rfl
theorem rs10 {a0 a1 a2 a3 a4 a5 a6 a7 a8 a9 : Sl} {z x : Sl} {l : List Sl} : (a0 :: a1 :: a2 :: a3 :: a4 :: a5 :: a6 :: a7 :: a8 :: a9 :: z :: l).set 10 x = a0 :: a1 :: a2 :: a3 :: a4 :: a5 :: a6 :: a7 :: a8 :: a9 :: x :: l := Eq.trans rfl rfl
theorem ap10 {a0 a1 a2 a3 a4 a5 a6 a7 a8 a9 : Sl} {f : List Sl → Rs D} {xs : List D} {l : List Sl} : fApp 10 f (a0 :: a1 :: a2 :: a3 :: a4 :: a5 :: a6 :: a7 :: a8 :: a9 :: .ow (.l xs) :: l) = (f (a0 :: a1 :: a2 :: a3 :: a4 :: a5 :: a6 :: a7 :: a8 :: a9 :: .ow (.l xs) :: l)).bind (appK 10) := Eq.trans rfl rfl
theorem aq10 {a0 a1 a2 a3 a4 a5 a6 a7 a8 a9 : Sl} {dd : D} {xs : List D} {l : List Sl} (h : xs.length < 4000) : appK 10 dd (a0 :: a1 :: a2 :: a3 :: a4 :: a5 :: a6 :: a7 :: a8 :: a9 :: .ow (.l xs) :: l) = .ok .non (a0 :: a1 :: a2 :: a3 :: a4 :: a5 :: a6 :: a7 :: a8 :: a9 :: .ow (.l (xs ++ [dd])) :: l) := if_pos (len_lt h)
theorem ix10 {a0 a1 a2 a3 a4 a5 a6 a7 a8 a9 : Sl} {g : List Sl → Rs D} {dd : D} {l : List Sl} : fIxN 10 g (a0 :: a1 :: a2 :: a3 :: a4 :: a5 :: a6 :: a7 :: a8 :: a9 :: .im dd :: l) = (g (a0 :: a1 :: a2 :: a3 :: a4 :: a5 :: a6 :: a7 :: a8 :: a9 :: .im dd :: l)).bind (ixK 10) := Eq.trans rfl rfl
theorem iy10 {a0 a1 a2 a3 a4 a5 a6 a7 a8 a9 : Sl} {g : List Sl → Rs D} {w : Ow} {l : List Sl} : fIxN 10 g (a0 :: a1 :: a2 :: a3 :: a4 :: a5 :: a6 :: a7 :: a8 :: a9 :: .ow w :: l) = (g (a0 :: a1 :: a2 :: a3 :: a4 :: a5 :: a6 :: a7 :: a8 :: a9 :: .ow w :: l)).bind (ixK 10) := Eq.trans rfl rfl
theorem iz10 {a0 a1 a2 a3 a4 a5 a6 a7 a8 a9 : Sl} {k : D} {xs : List D} {l : List Sl} : ixK 10 k (a0 :: a1 :: a2 :: a3 :: a4 :: a5 :: a6 :: a7 :: a8 :: a9 :: .im (.lst xs) :: l) = Rs.opt (ixD (.lst xs) k) (a0 :: a1 :: a2 :: a3 :: a4 :: a5 :: a6 :: a7 :: a8 :: a9 :: .im (.lst xs) :: l) := Eq.trans rfl rfl
theorem it10 {a0 a1 a2 a3 a4 a5 a6 a7 a8 a9 : Sl} {k : D} {xs : List D} {l : List Sl} : ixK 10 k (a0 :: a1 :: a2 :: a3 :: a4 :: a5 :: a6 :: a7 :: a8 :: a9 :: .im (.tup xs) :: l) = Rs.opt (ixD (.tup xs) k) (a0 :: a1 :: a2 :: a3 :: a4 :: a5 :: a6 :: a7 :: a8 :: a9 :: .im (.tup xs) :: l) := Eq.trans rfl rfl
theorem iw10 {a0 a1 a2 a3 a4 a5 a6 a7 a8 a9 : Sl} {k : D} {xs : List D} {l : List Sl} : ixK 10 k (a0 :: a1 :: a2 :: a3 :: a4 :: a5 :: a6 :: a7 :: a8 :: a9 :: .ow (.l xs) :: l) = Rs.opt (ixD (.lst xs) k) (a0 :: a1 :: a2 :: a3 :: a4 :: a5 :: a6 :: a7 :: a8 :: a9 :: .ow (.l xs) :: l) := Eq.trans rfl rfl
theorem ol10 {a0 a1 a2 a3 a4 a5 a6 a7 a8 a9 : Sl} {xs : List D} {l : List Sl} : ownLen 10 (a0 :: a1 :: a2 :: a3 :: a4 :: a5 :: a6 :: a7 :: a8 :: a9 :: .ow (.l xs) :: l) = .ok (.int xs.length) (a0 :: a1 :: a2 :: a3 :: a4 :: a5 :: a6 :: a7 :: a8 :: a9 :: .ow (.l xs) :: l) := Eq.trans rfl rfl
theorem om10 {a0 a1 a2 a3 a4 a5 a6 a7 a8 a9 : Sl} {xs : List D} {l : List Sl} : ownLen 10 (a0 :: a1 :: a2 :: a3 :: a4 :: a5 :: a6 :: a7 :: a8 :: a9 :: .im (.lst xs) :: l) = .ok (.int xs.length) (a0 :: a1 :: a2 :: a3 :: a4 :: a5 :: a6 :: a7 :: a8 :: a9 :: .im (.lst xs) :: l) := Eq.trans rfl rfl
theorem on10 {a0 a1 a2 a3 a4 a5 a6 a7 a8 a9 : Sl} {xs : List D} {l : List Sl} : ownLen 10 (a0 :: a1 :: a2 :: a3 :: a4 :: a5 :: a6 :: a7 :: a8 :: a9 :: .im (.tup xs) :: l) = .ok (.int xs.length) (a0 :: a1 :: a2 :: a3 :: a4 :: a5 :: a6 :: a7 :: a8 :: a9 :: .im (.tup xs) :: l) := Eq.trans rfl rfl
theorem au10 {a0 a1 a2 a3 a4 a5 a6 a7 a8 a9 : Sl} {f g : List Sl → Rs D} {c : D → D → Option D} {xs : List D} {l : List Sl} : augItem 10 f g c (a0 :: a1 :: a2 :: a3 :: a4 :: a5 :: a6 :: a7 :: a8 :: a9 :: .ow (.l xs) :: l) = (f (a0 :: a1 :: a2 :: a3 :: a4 :: a5 :: a6 :: a7 :: a8 :: a9 :: .ow (.l xs) :: l)).ro (augK 10 g c) := Eq.trans rfl rfl
theorem av10 {a0 a1 a2 a3 a4 a5 a6 a7 a8 a9 : Sl} {g : List Sl → Rs D} {c : D → D → Option D} {j : Int} {xs : List D} {l : List Sl} (h0 : 0 ≤ j) (h1 : j < (xs.length : Int)) : augK 10 g c (.int j) (a0 :: a1 :: a2 :: a3 :: a4 :: a5 :: a6 :: a7 :: a8 :: a9 :: .ow (.l xs) :: l) = (g (a0 :: a1 :: a2 :: a3 :: a4 :: a5 :: a6 :: a7 :: a8 :: a9 :: .ow (.l xs) :: l)).ro (augM 10 c j (xs.getD j.toNat .non)) := augK_ok rfl h0 h1
theorem aw10 {a0 a1 a2 a3 a4 a5 a6 a7 a8 a9 : Sl} {j : Int} {z : D} {xs : List D} {l : List Sl} (h1 : j < (xs.length : Int)) : augZ 10 j (a0 :: a1 :: a2 :: a3 :: a4 :: a5 :: a6 :: a7 :: a8 :: a9 :: .ow (.l xs) :: l) (some z) = .nx (a0 :: a1 :: a2 :: a3 :: a4 :: a5 :: a6 :: a7 :: a8 :: a9 :: .ow (.l (xs.set j.toNat z)) :: l) := augZ_ok rfl h1
theorem gi10 {a0 a1 a2 a3 a4 a5 a6 a7 a8 a9 : Sl} {f : List Sl → Rs D} {dd : D} {xs : List D} {l : List Sl} : gIt 10 f dd (a0 :: a1 :: a2 :: a3 :: a4 :: a5 :: a6 :: a7 :: a8 :: a9 :: .ow (.l xs) :: l) = kRob (f (a0 :: a1 :: a2 :: a3 :: a4 :: a5 :: a6 :: a7 :: a8 :: a9 :: .ow (.l xs) :: l)) (gItK 10 dd) := gIt_ok rfl
theorem gj10 {a0 a1 a2 a3 a4 a5 a6 a7 a8 a9 : Sl} {j : Int} {dd : D} {xs : List D} {l : List Sl} (h0 : 0 ≤ j) (h1 : j < (xs.length : Int)) : gItK 10 dd (.int j) (a0 :: a1 :: a2 :: a3 :: a4 :: a5 :: a6 :: a7 :: a8 :: a9 :: .ow (.l xs) :: l) = .nx (a0 :: a1 :: a2 :: a3 :: a4 :: a5 :: a6 :: a7 :: a8 :: a9 :: .ow (.l (xs.set j.toNat dd)) :: l) := if_pos ⟨h0, h1⟩
theorem ag10 {a0 a1 a2 a3 a4 a5 a6 a7 a8 a9 : Sl} {f : List Sl → Rs D} {c : D → D → Option D} {x : D} {l : List Sl} : fAug 10 f c (a0 :: a1 :: a2 :: a3 :: a4 :: a5 :: a6 :: a7 :: a8 :: a9 :: .im x :: l) = (f (a0 :: a1 :: a2 :: a3 :: a4 :: a5 :: a6 :: a7 :: a8 :: a9 :: .im x :: l)).ro (agK 10 c x) := fAug_ok rfl
theorem xe10 {a0 a1 a2 a3 a4 a5 a6 a7 a8 a9 : Sl} {f : List Sl → Rs D} {xs : List D} {l : List Sl} : fExt 10 f (a0 :: a1 :: a2 :: a3 :: a4 :: a5 :: a6 :: a7 :: a8 :: a9 :: .ow (.l xs) :: l) = (f (a0 :: a1 :: a2 :: a3 :: a4 :: a5 :: a6 :: a7 :: a8 :: a9 :: .ow (.l xs) :: l)).bind (extK 10) := Eq.trans rfl rfl
theorem xh10 {a0 a1 a2 a3 a4 a5 a6 a7 a8 a9 : Sl} {xs ys : List D} {l : List Sl} (h : xs.length + ys.length ≤ 4000) : extK 10 (.lst ys) (a0 :: a1 :: a2 :: a3 :: a4 :: a5 :: a6 :: a7 :: a8 :: a9 :: .ow (.l xs) :: l) = .ok .non (a0 :: a1 :: a2 :: a3 :: a4 :: a5 :: a6 :: a7 :: a8 :: a9 :: .ow (.l (xs ++ ys)) :: l) := if_pos (len_le h)
theorem fz10 {a0 a1 a2 a3 a4 a5 a6 a7 a8 a9 : Sl} {xs : List D} {l : List Sl} : frzE 10 (a0 :: a1 :: a2 :: a3 :: a4 :: a5 :: a6 :: a7 :: a8 :: a9 :: .ow (.l xs) :: l) = a0 :: a1 :: a2 :: a3 :: a4 :: a5 :: a6 :: a7 :: a8 :: a9 :: .im (.lst xs) :: l := Eq.trans rfl rfl
theorem fy10 {a0 a1 a2 a3 a4 a5 a6 a7 a8 a9 : Sl} {dd : D} {l : List Sl} : frzE 10 (a0 :: a1 :: a2 :: a3 :: a4 :: a5 :: a6 :: a7 :: a8 :: a9 :: .im dd :: l) = a0 :: a1 :: a2 :: a3 :: a4 :: a5 :: a6 :: a7 :: a8 :: a9 :: .im dd :: l := Eq.trans rfl rfl
theorem ri11 {a0 a1 a2 a3 a4 a5 a6 a7 a8 a9 a10 : Sl} {dd : D} {l : List Sl} : rdN 11 (a0 :: a1 :: a2 :: a3 :: a4 :: a5 :: a6 :: a7 :: a8 :: a9 :: a10 :: .im dd :: l) = .ok dd (a0 :: a1 :: a2 :: a3 :: a4 :: a5 :: a6 :: a7 :: a8 :: a9 :: a10 :: .im dd :: l) := Eq.trans rfl rfl
theorem ro11 {a0 a1 a2 a3 a4 a5 a6 a7 a8 a9 a10 : Sl} {xs : List D} {l : List Sl} : rdN 11 (a0 :: a1 :: a2 :: a3 :: a4 :: a5 :: a6 :: a7 :: a8 :: a9 :: a10 :: .ow (.l xs) :: l) = .ok (.lst xs) (a0 :: a1 :: a2 :: a3 :: a4 :: a5 :: a6 :: a7 :: a8 :: a9 :: a10 :: .im (.lst xs) :: l) := Eq.trans rfl rfl
theorem rs11 {a0 a1 a2 a3 a4 a5 a6 a7 a8 a9 a10 : Sl} {z x : Sl} {l : List Sl} : (a0 :: a1 :: a2 :: a3 :: a4 :: a5 :: a6 :: a7 :: a8 :: a9 :: a10 :: z :: l).set 11 x = a0 :: a1 :: a2 :: a3 :: a4 :: a5 :: a6 :: a7 :: a8 :: a9 :: a10 :: x :: l := Eq.trans rfl rfl
theorem ap11 {a0 a1 a2 a3 a4 a5 a6 a7 a8 a9 a10 : Sl} {f : List Sl → Rs D} {xs : List D} {l : List Sl} : fApp 11 f (a0 :: a1 :: a2 :: a3 :: a4 :: a5 :: a6 :: a7 :: a8 :: a9 :: a10 :: .ow (.l xs) :: l) = (f (a0 :: a1 :: a2 :: a3 :: a4 :: a5 :: a6 :: a7 :: a8 :: a9 :: a10 :: .ow (.l xs) :: l)).bind (appK 11) := Eq.trans rfl rfl
theorem aq11 {a0 a1 a2 a3 a4 a5 a6 a7 a8 a9 a10 : Sl} {dd : D} {xs : List D} {l : List Sl} (h : xs.length < 4000) : appK 11 dd (a0 :: a1 :: a2 :: a3 :: a4 :: a5 :: a6 :: a7 :: a8 :: a9 :: a10 :: .ow (.l xs) :: l) = .ok .non (a0 :: a1 :: a2 :: a3 :: a4 :: a5 :: a6 :: a7 :: a8 :: a9 :: a10 :: .ow (.l (xs ++ [dd])) :: l) := if_pos (len_lt h)
theorem ix11 {a0 a1 a2 a3 a4 a5 a6 a7 a8 a9 a10 : Sl} {g : List Sl → Rs D} {dd : D} {l : List Sl} : fIxN 11 g (a0 :: a1 :: a2 :: a3 :: a4 :: a5 :: a6 :: a7 :: a8 :: a9 :: a10 :: .im dd :: l) = (g (a0 :: a1 :: a2 :: a3 :: a4 :: a5 :: a6 :: a7 :: a8 :: a9 :: a10 :: .im dd :: l)).bind (ixK 11) := Eq.trans rfl rfl
theorem iy11 {a0 a1 a2 a3 a4 a5 a6 a7 a8 a9 a10 : Sl} {g : List Sl → Rs D} {w : Ow} {l : List Sl} : fIxN 11 g (a0 :: a1 :: a2 :: a3 :: a4 :: a5 :: a6 :: a7 :: a8 :: a9 :: a10 :: .ow w :: l) = (g (a0 :: a1 :: a2 :: a3 :: a4 :: a5 :: a6 :: a7 :: a8 :: a9 :: a10 :: .ow w :: l)).bind (ixK 11) := Eq.trans rfl rfl
theorem iz11 {a0 a1 a2 a3 a4 a5 a6 a7 a8 a9 a10 : Sl} {k : D} {xs : List D} {l : List Sl} : ixK 11 k (a0 :: a1 :: a2 :: a3 :: a4 :: a5 :: a6 :: a7 :: a8 :: a9 :: a10 :: .im (.lst xs) :: l) = Rs.opt (ixD (.lst xs) k) (a0 :: a1 :: a2 :: a3 :: a4 :: a5 :: a6 :: a7 :: a8 :: a9 :: a10 :: .im (.lst xs) :: l) := Eq.trans rfl rfl
theorem it11 {a0 a1 a2 a3 a4 a5 a6 a7 a8 a9 a10 : Sl} {k : D} {xs : List D} {l : List Sl} : ixK 11 k (a0 :: a1 :: a2 :: a3 :: a4 :: a5 :: a6 :: a7 :: a8 :: a9 :: a10 :: .im (.tup xs) :: l) = Rs.opt (ixD (.tup xs) k) (a0 :: a1 :: a2 :: a3 :: a4 :: a5 :: a6 :: a7 :: a8 :: a9 :: a10 :: .im (.tup xs) :: l) := Eq.trans rfl rfl
theorem iw11 {a0 a1 a2 a3 a4 a5 a6 a7 a8 a9 a10 : Sl} {k : D} {xs : List D} {l : List Sl} : ixK 11 k (a0 :: a1 :: a2 :: a3 :: a4 :: a5 :: a6 :: a7 :: a8 :: a9 :: a10 :: .ow (.l xs) :: l) = Rs.opt (ixD (.lst xs) k) (a0 :: a1 :: a2 :: a3 :: a4 :: a5 :: a6 :: a7 :: a8 :: a9 :: a10 :: .ow (.l xs) :: l) := Eq.trans rfl rfl
theorem ol11 {a0 a1 a2 a3 a4 a5 a6 a7 a8 a9 a10 : Sl} {xs : List D} {l : List Sl} : ownLen 11 (a0 :: a1 :: a2 :: a3 :: a4 :: a5 :: a6 :: a7 :: a8 :: a9 :: a10 :: .ow (.l xs) :: l) = .ok (.int xs.length) (a0 :: a1 :: a2 :: a3 :: a4 :: a5 :: a6 :: a7 :: a8 :: a9 :: a10 :: .ow (.l xs) :: l) := Eq.trans rfl rfl
theorem om11 {a0 a1 a2 a3 a4 a5 a6 a7 a8 a9 a10 : Sl} {xs : List D} {l : List Sl} : ownLen 11 (a0 :: a1 :: a2 :: a3 :: a4 :: a5 :: a6 :: a7 :: a8 :: a9 :: a10 :: .im (.lst xs) :: l) = .ok (.int xs.length) (a0 :: a1 :: a2 :: a3 :: a4 :: a5 :: a6 :: a7 :: a8 :: a9 :: a10 :: .im (.lst xs) :: l) := Eq.trans rfl rfl
theorem on11 {a0 a1 a2 a3 a4 a5 a6 a7 a8 a9 a10 : Sl} {xs : List D} {l : List Sl} : ownLen 11 (a0 :: a1 :: a2 :: a3 :: a4 :: a5 :: a6 :: a7 :: a8 :: a9 :: a10 :: .im (.tup xs) :: l) = .ok (.int xs.length) (a0 :: a1 :: a2 :: a3 :: a4 :: a5 :: a6 :: a7 :: a8 :: a9 :: a10 :: .im (.tup xs) :: l) := Eq.trans rfl rfl
theorem au11 {a0 a1 a2 a3 a4 a5 a6 a7 a8 a9 a10 : Sl} {f g : List Sl → Rs D} {c : D → D → Option D} {xs : List D} {l : List Sl} : augItem 11 f g c (a0 :: a1 :: a2 :: a3 :: a4 :: a5 :: a6 :: a7 :: a8 :: a9 :: a10 :: .ow (.l xs) :: l) = (f (a0 :: a1 :: a2 :: a3 :: a4 :: a5 :: a6 :: a7 :: a8 :: a9 :: a10 :: .ow (.l xs) :: l)).ro (augK 11 g c) := Eq.trans rfl rfl
theorem av11 {a0 a1 a2 a3 a4 a5 a6 a7 a8 a9 a10 : Sl} {g : List Sl → Rs D} {c : D → D → Option D} {j : Int} {xs : List D} {l : List Sl} (h0 : 0 ≤ j) (h1 : j < (xs.length : Int)) : augK 11 g c (.int j) (a0 :: a1 :: a2 :: a3 :: a4 :: a5 :: a6 :: a7 :: a8 :: a9 :: a10 :: .ow (.l xs) :: l) = (g (a0 :: a1 :: a2 :: a3 :: a4 :: a5 :: a6 :: a7 :: a8 :: a9 :: a10 :: .ow (.l xs) :: l)).ro (augM 11 c j (xs.getD j.toNat .non)) := augK_ok rfl h0 h1
theorem aw11 {a0 a1 a2 a3 a4 a5 a6 a7 a8 a9 a10 : Sl} {j : Int} {z : D} {xs : List D} {l : List Sl} (h1 : j < (xs.length : Int)) : augZ 11 j (a0 :: a1 :: a2 :: a3 :: a4 :: a5 :: a6 :: a7 :: a8 :: a9 :: a10 :: .ow (.l xs) :: l) (some z) = .nx (a0 :: a1 :: a2 :: a3 :: a4 :: a5 :: a6 :: a7 :: a8 :: a9 :: a10 :: .ow (.l (xs.set j.toNat z)) :: l) := augZ_ok rfl h1
theorem gi11 {a0 a1 a2 a3 a4 a5 a6 a7 a8 a9 a10 : Sl} {f : List Sl → Rs D} {dd : D} {xs : List D} {l : List Sl} : gIt 11 f dd (a0 :: a1 :: a2 :: a3 :: a4 :: a5 :: a6 :: a7 :: a8 :: a9 :: a10 :: .ow (.l xs) :: l) = kRob (f (a0 :: a1 :: a2 :: a3 :: a4 :: a5 :: a6 :: a7 :: a8 :: a9 :: a10 :: .ow (.l xs) :: l)) (gItK 11 dd) := gIt_ok rfl
theorem gj11 {a0 a1 a2 a3 a4 a5 a6 a7 a8 a9 a10 : Sl} {j : Int} {dd : D} {xs : List D} {l : List Sl} (h0 : 0 ≤ j) (h1 : j < (xs.length : Int)) : gItK 11 dd (.int j) (a0 :: a1 :: a2 :: a3 :: a4 :: a5 :: a6 :: a7 :: a8 :: a9 :: a10 :: .ow (.l xs) :: l) = .nx (a0 :: a1 :: a2 :: a3 :: a4 :: a5 :: a6 :: a7 :: a8 :: a9 :: a10 :: .ow (.l (xs.set j.toNat dd)) :: l) := if_pos ⟨h0, h1⟩
theorem ag11 {a0 a1 a2 a3 a4 a5 a6 a7 a8 a9 a10 : Sl} {f : List Sl → Rs D} {c : D → D → Option D} {x : D} {l : List Sl} : fAug 11 f c (a0 :: a1 :: a2 :: a3 :: a4 :: a5 :: a6 :: a7 :: a8 :: a9 :: a10 :: .im x :: l) = (f (a0 :: a1 :: a2 :: a3 :: a4 :: a5 :: a6 :: a7 :: a8 :: a9 :: a10 :: .im x :: l)).ro (agK 11 c x) := fAug_ok rfl
theorem xe11 {a0 a1 a2 a3 a4 a5 a6 a7 a8 a9 a10 : Sl} {f : List Sl → Rs D} {xs : List D} {l : List Sl} : fExt 11 f (a0 :: a1 :: a2 :: a3 :: a4 :: a5 :: a6 :: a7 :: a8 :: a9 :: a10 :: .ow (.l xs) :: l) = (f (a0 :: a1 :: a2 :: a3 :: a4 :: a5 :: a6 :: a7 :: a8 :: a9 :: a10 :: .ow (.l xs) :: l)).bind (extK 11) := Eq.trans rfl rfl
theorem xh11 {a0 a1 a2 a3 a4 a5 a6 a7 a8 a9 a10 : Sl} {xs ys : List D} {l : List Sl} (h : xs.length + ys.length ≤ 4000) : extK 11 (.lst ys) (a0 :: a1 :: a2 :: a3 :: a4 :: a5 :: a6 :: a7 :: a8 :: a9 :: a10 :: .ow (.l xs) :: l) = .ok .non (a0 :: a1 :: a2 :: a3 :: a4 :: a5 :: a6 :: a7 :: a8 :: a9 :: a10 :: .ow (.l (xs ++ ys)) :: l) := if_pos (len_le h)
theorem fz11 {a0 a1 a2 a3 a4 a5 a6 a7 a8 a9 a10 : Sl} {xs : List D} {l : List Sl} : frzE 11 (a0 :: a1 :: a2 :: a3 :: a4 :: a5 :: a6 :: a7 :: a8 :: a9 :: a10 :: .ow (.l xs) :: l) = a0 :: a1 :: a2 :: a3 :: a4 :: a5 :: a6 :: a7 :: a8 :: a9 :: a10 :: .im (.lst xs) :: l := Eq.trans rfl rfl
theorem fy11 {a0 a1 a2 a3 a4 a5 a6 a7 a8 a9 a10 : Sl} {dd : D} {l : List Sl} : frzE 11 (a0 :: a1 :: a2 :: a3 :: a4 :: a5 :: a6 :: a7 :: a8 :: a9 :: a10 :: .im dd :: l) = a0 :: a1 :: a2 :: a3 :: a4 :: a5 :: a6 :: a7 :: a8 :: a9 :: a10 :: .im dd :: l := Eq.trans rfl rfl
theorem ri12 {a0 a1 a2 a3 a4 a5 a6 a7 a8 a9 a10 a11 : Sl} {dd : D} {l : List Sl} : rdN 12 (a0 :: a1 :: a2 :: a3 :: a4 :: a5 :: a6 :: a7 :: a8 :: a9 :: a10 :: a11 :: .im dd :: l) = .ok dd (a0 :: a1 :: a2 :: a3 :: a4 :: a5 :: a6 :: a7 :: a8 :: a9 :: a10 :: a11 :: .im dd :: l) := Eq.trans rfl rfl
theorem ro12 {a0 a1 a2 a3 a4 a5 a6 a7 a8 a9 a10 a11 : Sl} {xs : List D} {l : List Sl} : rdN 12 (a0 :: a1 :: a2 :: a3 :: a4 :: a5 :: a6 :: a7 :: a8 :: a9 :: a10 :: a11 :: .ow (.l xs) :: l) = .ok (.lst xs) (a0 :: a1 :: a2 :: a3 :: a4 :: a5 :: a6 :: a7 :: a8 :: a9 :: a10 :: a11 :: .im (.lst xs) :: l) := Eq.trans rfl rfl
theorem rs12 {a0 a1 a2 a3 a4 a5 a6 a7 a8 a9 a10 a11 : Sl} {z x : Sl} {l : List Sl} : (a0 :: a1 :: a2 :: a3 :: a4 :: a5 :: a6 :: a7 :: a8 :: a9 :: a10 :: a11 :: z :: l).set 12 x = a0 :: a1 :: a2 :: a3 :: a4 :: a5 :: a6 :: a7 :: a8 :: a9 :: a10 :: a11 :: x :: l := Eq.trans rfl rfl
theorem ap12 {a0 a1 a2 a3 a4 a5 a6 a7 a8 a9 a10 a11 : Sl} {f : List Sl → Rs D} {xs : List D} {l : List Sl} : fApp 12 f (a0 :: a1 :: a2 :: a3 :: a4 :: a5 :: a6 :: a7 :: a8 :: a9 :: a10 :: a11 :: .ow (.l xs) :: l) = (f (a0 :: a1 :: a2 :: a3 :: a4 :: a5 :: a6 :: a7 :: a8 :: a9 :: a10 :: a11 :: .ow (.l xs) :: l)).bind (appK 12) := Eq.trans rfl rfl
theorem aq12 {a0 a1 a2 a3 a4 a5 a6 a7 a8 a9 a10 a11 : Sl} {dd : D} {xs : List D} {l : List Sl} (h : xs.length < 4000) : appK 12 dd (a0 :: a1 :: a2 :: a3 :: a4 :: a5 :: a6 :: a7 :: a8 :: a9 :: a10 :: a11 :: .ow (.l xs) :: l) = .ok .non (a0 :: a1 :: a2 :: a3 :: a4 :: a5 :: a6 :: a7 :: a8 :: a9 :: a10 :: a11 :: .ow (.l (xs ++ [dd])) :: l) := if_pos (len_lt h)
theorem ix12 {a0 a1 a2 a3 a4 a5 a6 a7 a8 a9 a10 a11 : Sl} {g : List Sl → Rs D} {dd : D} {l : List Sl} : fIxN 12 g (a0 :: a1 :: a2 :: a3 :: a4 :: a5 :: a6 :: a7 :: a8 :: a9 :: a10 :: a11 :: .im dd :: l) = (g (a0 :: a1 :: a2 :: a3 :: a4 :: a5 :: a6 :: a7 :: a8 :: a9 :: a10 :: a11 :: .im dd :: l)).bind (ixK 12) := Eq.trans rfl rfl
theorem iy12 {a0 a1 a2 a3 a4 a5 a6 a7 a8 a9 a10 a11 : Sl} {g : List Sl → Rs D} {w : Ow} {l : List Sl} : fIxN 12 g (a0 :: a1 :: a2 :: a3 :: a4 :: a5 :: a6 :: a7 :: a8 :: a9 :: a10 :: a11 :: .ow w :: l) = (g (a0 :: a1 :: a2 :: a3 :: a4 :: a5 :: a6 :: a7 :: a8 :: a9 :: a10 :: a11 :: .ow w :: l)).bind (ixK 12) := Eq.trans rfl rfl
theorem iz12 {a0 a1 a2 a3 a4 a5 a6 a7 a8 a9 a10 a11 : Sl} {k : D} {xs : List D} {l : List Sl} : ixK 12 k (a0 :: a1 :: a2 :: a3 :: a4 :: a5 :: a6 :: a7 :: a8 :: a9 :: a10 :: a11 :: .im (.lst xs) :: l) = Rs.opt (ixD (.lst xs) k) (a0 :: a1 :: a2 :: a3 :: a4 :: a5 :: a6 :: a7 :: a8 :: a9 :: a10 :: a11 :: .im (.lst xs) :: l) := Eq.trans rfl rfl
theorem it12 {a0 a1 a2 a3 a4 a5 a6 a7 a8 a9 a10 a11 : Sl} {k : D} {xs : List D} {l : List Sl} : ixK 12 k (a0 :: a1 :: a2 :: a3 :: a4 :: a5 :: a6 :: a7 :: a8 :: a9 :: a10 :: a11 :: .im (.tup xs) :: l) = Rs.opt (ixD (.tup xs) k) (a0 :: a1 :: a2 :: a3 :: a4 :: a5 :: a6 :: a7 :: a8 :: a9 :: a10 :: a11 :: .im (.tup xs) :: l) := Eq.trans rfl rfl
theorem iw12 {a0 a1 a2 a3 a4 a5 a6 a7 a8 a9 a10 a11 : Sl} {k : D} {xs : List D} {l : List Sl} : ixK 12 k (a0 :: a1 :: a2 :: a3 :: a4 :: a5 :: a6 :: a7 :: a8 :: a9 :: a10 :: a11 :: .ow (.l xs) :: l) = Rs.opt (ixD (.lst xs) k) (a0 :: a1 :: a2 :: a3 :: a4 :: a5 :: a6 :: a7 :: a8 :: a9 :: a10 :: a11 :: .ow (.l xs) :: l) := Eq.trans rfl rfl
theorem ol12 {a0 a1 a2 a3 a4 a5 a6 a7 a8 a9 a10 a11 : Sl} {xs : List D} {l : List Sl} : ownLen 12 (a0 :: a1 :: a2 :: a3 :: a4 :: a5 :: a6 :: a7 :: a8 :: a9 :: a10 :: a11 :: .ow (.l xs) :: l) = .ok (.int xs.length) (a0 :: a1 :: a2 :: a3 :: a4 :: a5 :: a6 :: a7 :: a8 :: a9 :: a10 :: a11 :: .ow (.l xs) :: l) := Eq.trans rfl rfl
theorem om12 {a0 a1 a2 a3 a4 a5 a6 a7 a8 a9 a10 a11 : Sl} {xs : List D} {l : List Sl} : ownLen 12 (a0 :: a1 :: a2 :: a3 :: a4 :: a5 :: a6 :: a7 :: a8 :: a9 :: a10 :: a11 :: .im (.lst xs) :: l) = .ok (.int xs.length) (a0 :: a1 :: a2 :: a3 :: a4 :: a5 :: a6 :: a7 :: a8 :: a9 :: a10 :: a11 :: .im (.lst xs) :: l) := Eq.trans rfl rfl
theorem on12 {a0 a1 a2 a3 a4 a5 a6 a7 a8 a9 a10 a11 : Sl} {xs : List D} {l : List Sl} : ownLen 12 (a0 :: a1 :: a2 :: a3 :: a4 :: a5 :: a6 :: a7 :: a8 :: a9 :: a10 :: a11 :: .im (.tup xs) :: l) = .ok (.int xs.length) (a0 :: a1 :: a2 :: a3 :: a4 :: a5 :: a6 :: a7 :: a8 :: a9 :: a10 :: a11 :: .im (.tup xs) :: l) := Eq.trans rfl rfl
theorem au12 {a0 a1 a2 a3 a4 a5 a6 a7 a8 a9 a10 a11 : Sl} {f g : List Sl → Rs D} {c : D → D → Option D} {xs : List D} {l : List Sl} : augItem 12 f g c (a0 :: a1 :: a2 :: a3 :: a4 :: a5 :: a6 :: a7 :: a8 :: a9 :: a10 :: a11 :: .ow (.l xs) :: l) = (f (a0 :: a1 :: a2 :: a3 :: a4 :: a5 :: a6 :: a7 :: a8 :: a9 :: a10 :: a11 :: .ow (.l xs) :: l)).ro (augK 12 g c) := Eq.trans rfl rfl
theorem av12 {a0 a1 a2 a3 a4 a5 a6 a7 a8 a9 a10 a11 : Sl} {g : List Sl → Rs D} {c : D → D → Option D} {j : Int} {xs : List D} {l : List Sl} (h0 : 0 ≤ j) (h1 : j < (xs.length : Int)) : augK 12 g c (.int j) (a0 :: a1 :: a2 :: a3 :: a4 :: a5 :: a6 :: a7 :: a8 :: a9 :: a10 :: a11 :: .ow (.l xs) :: l) = (g (a0 :: a1 :: a2 :: a3 :: a4 :: a5 :: a6 :: a7 :: a8 :: a9 :: a10 :: a11 :: .ow (.l xs) :: l)).ro (augM 12 c j (xs.getD j.toNat .non)) := augK_ok rfl h0 h1
theorem aw12 {a0 a1 a2 a3 a4 a5 a6 a7 a8 a9 a10 a11 : Sl} {j : Int} {z : D} {xs : List D} {l : List Sl} (h1 : j < (xs.length : Int)) : augZ 12 j (a0 :: a1 :: a2 :: a3 :: a4 :: a5 :: a6 :: a7 :: a8 :: a9 :: a10 :: a11 :: .ow (.l xs) :: l) (some z) = .nx (a0 :: a1 :: a2 :: a3 :: a4 :: a5 :: a6 :: a7 :: a8 :: a9 :: a10 :: a11 :: .ow (.l (xs.set j.toNat z)) :: l) := augZ_ok rfl h1
theorem gi12 {a0 a1 a2 a3 a4 a5 a6 a7 a8 a9 a10 a11 : Sl} {f : List Sl → Rs D} {dd : D} {xs : List D} {l : List Sl} : gIt 12 f dd (a0 :: a1 :: a2 :: a3 :: a4 :: a5 :: a6 :: a7 :: a8 :: a9 :: a10 :: a11 :: .ow (.l xs) :: l) = kRob (f (a0 :: a1 :: a2 :: a3 :: a4 :: a5 :: a6 :: a7 :: a8 :: a9 :: a10 :: a11 :: .ow (.l xs) :: l)) (gItK 12 dd) := gIt_ok rfl
theorem gj12 {a0 a1 a2 a3 a4 a5 a6 a7 a8 a9 a10 a11 : Sl} {j : Int} {dd : D} {xs : List D} {l : List Sl} (h0 : 0 ≤ j) (h1 : j < (xs.length : Int)) : gItK 12 dd (.int j) (a0 :: a1 :: a2 :: a3 :: a4 :: a5 :: a6 :: a7 :: a8 :: a9 :: a10 :: a11 :: .ow (.l xs) :: l) = .nx (a0 :: a1 :: a2 :: a3 :: a4 :: a5 :: a6 :: a7 :: a8 :: a9 :: a10 :: a11 :: .ow (.l (xs.set j.toNat dd)) :: l) := if_pos ⟨h0, h1⟩
theorem ag12 {a0 a1 a2 a3 a4 a5 a6 a7 a8 a9 a10 a11 : Sl} {f : List Sl → Rs D} {c : D → D → Option D} {x : D} {l : List Sl} : fAug 12 f c (a0 :: a1 :: a2 :: a3 :: a4 :: a5 :: a6 :: a7 :: a8 :: a9 :: a10 :: a11 :: .im x :: l) = (f (a0 :: a1 :: a2 :: a3 :: a4 :: a5 :: a6 :: a7 :: a8 :: a9 :: a10 :: a11 :: .im x :: l)).ro (agK 12 c x) := fAug_ok rfl
theorem xe12 {a0 a1 a2 a3 a4 a5 a6 a7 a8 a9 a10 a11 : Sl} {f : List Sl → Rs D} {xs : List D} {l : List Sl} : fExt 12 f (a0 :: a1 :: a2 :: a3 :: a4 :: a5 :: a6 :: a7 :: a8 :: a9 :: a10 :: a11 :: .ow (.l xs) :: l) = (f (a0 :: a1 :: a2 :: a3 :: a4 :: a5 :: a6 :: a7 :: a8 :: a9 :: a10 :: a11 :: .ow (.l xs) :: l)).bind (extK 12) := Eq.trans rfl rfl
theorem xh12 {a0 a1 a2 a3 a4 a5 a6 a7 a8 a9 a10 a11 : Sl} {xs ys : List D} {l : List Sl} (h : xs.length + ys.length ≤ 4000) : extK 12 (.lst ys) (a0 :: a1 :: a2 :: a3 :: a4 :: a5 :: a6 :: a7 :: a8 :: a9 :: a10 :: a11 :: .ow (.l xs) :: l) = .ok .non (a0 :: a1 :: a2 :: a3 :: a4 :: a5 :: a6 :: a7 :: a8 :: a9 :: a10 :: a11 :: .ow (.l (xs ++ ys)) :: l) := if_pos (len_le h)
theorem fz12 {a0 a1 a2 a3 a4 a5 a6 a7 a8 a9 a10 a11 : Sl} {xs : List D} {l : List Sl} : frzE 12 (a0 :: a1 :: a2 :: a3 :: a4 :: a5 :: a6 :: a7 :: a8 :: a9 :: a10 :: a11 :: .ow (.l xs) :: l) = a0 :: a1 :: a2 :: a3 :: a4 :: a5 :: a6 :: a7 :: a8 :: a9 :: a10 :: a11 :: .im (.lst xs) :: l := Eq.trans rfl rfl
theorem fy12 {a0 a1 a2 a3 a4 a5 a6 a7 a8 a9 a10 a11 : Sl} {dd : D} {l : List Sl} : frzE 12 (a0 :: a1 :: a2 :: a3 :: a4 :: a5 :: a6 :: a7 :: a8 :: a9 :: a10 :: a11 :: .im dd :: l) = a0 :: a1 :: a2 :: a3 :: a4 :: a5 :: a6 :: a7 :: a8 :: a9 :: a10 :: a11 :: .im dd :: l := Eq.trans rfl rfl
theorem ri13 {a0 a1 a2 a3 a4 a5 a6 a7 a8 a9 a10 a11 a12 : Sl} {dd : D} {l : List Sl} : rdN 13 (a0 :: a1 :: a2 :: a3 :: a4 :: a5 :: a6 :: a7 :: a8 :: a9 :: a10 :: a11 :: a12 :: .im dd :: l) = .ok dd (a0 :: a1 :: a2 :: a3 :: a4 :: a5 :: a6 :: a7 :: a8 :: a9 :: a10 :: a11 :: a12 :: .im dd :: l) := Eq.trans rfl rfl
theorem ro13 {a0 a1 a2 a3 a4 a5 a6 a7 a8 a9 a10 a11 a12 : Sl} {xs : List D} {l : List Sl} : rdN 13 (a0 :: a1 :: a2 :: a3 :: a4 :: a5 :: a6 :: a7 :: a8 :: a9 :: a10 :: a11 :: a12 :: .ow (.l xs) :: l) = .ok (.lst xs) (a0 :: a1 :: a2 :: a3 :: a4 :: a5 :: a6 :: a7 :: a8 :: a9 :: a10 :: a11 :: a12 :: .im (.lst xs) :: l) := Eq.trans rfl rfl
theorem rs13 {a0 a1 a2 a3 a4 a5 a6 a7 a8 a9 a10 a11 a12 : Sl} {z x : Sl} {l : List Sl} : (a0 :: a1 :: a2 :: a3 :: a4 :: a5 :: a6 :: a7 :: a8 :: a9 :: a10 :: a11 :: a12 :: z :: l).set 13 x = a0 :: a1 :: a2 :: a3 :: a4 :: a5 :: a6 :: a7 :: a8 :: a9 :: a10 :: a11 :: a12 :: x :: l := Eq.trans rfl rfl
theorem ap13 {a0 a1 a2 a3 a4 a5 a6 a7 a8 a9 a10 a11 a12 : Sl} {f : List Sl → Rs D} {xs : List D} {l : List Sl} : fApp 13 f (a0 :: a1 :: a2 :: a3 :: a4 :: a5 :: a6 :: a7 :: a8 :: a9 :: a10 :: a11 :: a12 :: .ow (.l xs) :: l) = (f (a0 :: a1 :: a2 :: a3 :: a4 :: a5 :: a6 :: a7 :: a8 :: a9 :: a10 :: a11 :: a12 :: .ow (.l xs) :: l)).bind (appK 13) := Eq.trans rfl rfl
theorem aq13 {a0 a1 a2 a3 a4 a5 a6 a7 a8 a9 a10 a11 a12 : Sl} {dd : D} {xs : List D} {l : List Sl} (h : xs.length < 4000) : appK 13 dd (a0 :: a1 :: a2 :: a3 :: a4 :: a5 :: a6 :: a7 :: a8 :: a9 :: a10 :: a11 :: a12 :: .ow (.l xs) :: l) = .ok .non (a0 :: a1 :: a2 :: a3 :: a4 :: a5 :: a6 :: a7 :: a8 :: a9 :: a10 :: a11 :: a12 :: .ow (.l (xs ++ [dd])) :: l) := if_pos (len_lt h)
theorem ix13 {a0 a1 a2 a3 a4 a5 a6 a7 a8 a9 a10 a11 a12 : Sl} {g : List Sl → Rs D} {dd : D} {l : List Sl} : fIxN 13 g (a0 :: a1 :: a2 :: a3 :: a4 :: a5 :: a6 :: a7 :: a8 :: a9 :: a10 :: a11 :: a12 :: .im dd :: l) = (g (a0 :: a1 :: a2 :: a3 :: a4 :: a5 :: a6 :: a7 :: a8 :: a9 :: a10 :: a11 :: a12 :: .im dd :: l)).bind (ixK 13) := Eq.trans rfl rfl
theorem iy13 {a0 a1 a2 a3 a4 a5 a6 a7 a8 a9 a10 a11 a12 : Sl} {g : List Sl → Rs D} {w : Ow} {l : List Sl} : fIxN 13 g (a0 :: a1 :: a2 :: a3 :: a4 :: a5 :: a6 :: a7 :: a8 :: a9 :: a10 :: a11 :: a12 :: .ow w :: l) = (g (a0 :: a1 :: a2 :: a3 :: a4 :: a5 :: a6 :: a7 :: a8 :: a9 :: a10 :: a11 :: a12 :: .ow w :: l)).bind (ixK 13) := Eq.trans rfl rfl
theorem iz13 {a0 a1 a2 a3 a4 a5 a6 a7 a8 a9 a10 a11 a12 : Sl} {k : D} {xs : List D} {l : List Sl} : ixK 13 k (a0 :: a1 :: a2 :: a3 :: a4 :: a5 :: a6 :: a7 :: a8 :: a9 :: a10 :: a11 :: a12 :: .im (.lst xs) :: l) = Rs.opt (ixD (.lst xs) k) (a0 :: a1 :: a2 :: a3 :: a4 :: a5 :: a6 :: a7 :: a8 :: a9 :: a10 :: a11 :: a12 :: .im (.lst xs) :: l) := Eq.trans rfl rfl
theorem it13 {a0 a1 a2 a3 a4 a5 a6 a7 a8 a9 a10 a11 a12 : Sl} {k : D} {xs : List D} {l : List Sl} : ixK 13 k (a0 :: a1 :: a2 :: a3 :: a4 :: a5 :: a6 :: a7 :: a8 :: a9 :: a10 :: a11 :: a12 :: .im (.tup xs) :: l) = Rs.opt (ixD (.tup xs) k) (a0 :: a1 :: a2 :: a3 :: a4 :: a5 :: a6 :: a7 :: a8 :: a9 :: a10 :: a11 :: a12 :: .im (.tup xs) :: l) := Eq.trans rfl rfl
theorem iw13 {a0 a1 a2 a3 a4 a5 a6 a7 a8 a9 a10 a11 a12 : Sl} {k : D} {xs : List D} {l : List Sl} : ixK 13 k (a0 :: a1 :: a2 :: a3 :: a4 :: a5 :: a6 :: a7 :: a8 :: a9 :: a10 :: a11 :: a12 :: .ow (.l xs) :: l) = Rs.opt (ixD (.lst xs) k) (a0 :: a1 :: a2 :: a3 :: a4 :: a5 :: a6 :: a7 :: a8 :: a9 :: a10 :: a11 :: a12 :: .ow (.l xs) :: l) := Eq.trans rfl rfl
theorem ol13 {a0 a1 a2 a3 a4 a5 a6 a7 a8 a9 a10 a11 a12 : Sl} {xs : List D} {l : List Sl} : ownLen 13 (a0 :: a1 :: a2 :: a3 :: a4 :: a5 :: a6 :: a7 :: a8 :: a9 :: a10 :: a11 :: a12 :: .ow (.l xs) :: l) = .ok (.int xs.length) (a0 :: a1 :: a2 :: a3 :: a4 :: a5 :: a6 :: a7 :: a8 :: a9 :: a10 :: a11 :: a12 :: .ow (.l xs) :: l) := Eq.trans rfl rfl
theorem om13 {a0 a1 a2 a3 a4 a5 a6 a7 a8 a9 a10 a11 a12 : Sl} {xs : List D} {l : List Sl} : ownLen 13 (a0 :: a1 :: a2 :: a3 :: a4 :: a5 :: a6 :: a7 :: a8 :: a9 :: a10 :: a11 :: a12 :: .im (.lst xs) :: l) = .ok (.int xs.length) (a0 :: a1 :: a2 :: a3 :: a4 :: a5 :: a6 :: a7 :: a8 :: a9 :: a10 :: a11 :: a12 :: .im (.lst xs) :: l) := Eq.trans rfl rfl
theorem on13 {a0 a1 a2 a3 a4 a5 a6 a7 a8 a9 a10 a11 a12 : Sl} {xs : List D} {l : List Sl} : ownLen 13 (a0 :: a1 :: a2 :: a3 :: a4 :: a5 :: a6 :: a7 :: a8 :: a9 :: a10 :: a11 :: a12 :: .im (.tup xs) :: l) = .ok (.int xs.length) (a0 :: a1 :: a2 :: a3 :: a4 :: a5 :: a6 :: a7 :: a8 :: a9 :: a10 :: a11 :: a12 :: .im (.tup xs) :: l) := Eq.trans rfl rfl
theorem au13 {a0 a1 a2 a3 a4 a5 a6 a7 a8 a9 a10 a11 a12 : Sl} {f g : List Sl → Rs D} {c : D → D → Option D} {xs : List D} {l : List Sl} : augItem 13 f g c (a0 :: a1 :: a2 :: a3 :: a4 :: a5 :: a6 :: a7 :: a8 :: a9 :: a10 :: a11 :: a12 :: .ow (.l xs) :: l) = (f (a0 :: a1 :: a2 :: a3 :: a4 :: a5 :: a6 :: a7 :: a8 :: a9 :: a10 :: a11 :: a12 :: .ow (.l xs) :: l)).ro (augK 13 g c) := Eq.trans rfl rfl
theorem av13 {a0 a1 a2 a3 a4 a5 a6 a7 a8 a9 a10 a11 a12 : Sl} {g : List Sl → Rs D} {c : D → D → Option D} {j : Int} {xs : List D} {l : List Sl} (h0 : 0 ≤ j) (h1 : j < (xs.length : Int)) : augK 13 g c (.int j) (a0 :: a1 :: a2 :: a3 :: a4 :: a5 :: a6 :: a7 :: a8 :: a9 :: a10 :: a11 :: a12 :: .ow (.l xs) :: l) = (g (a0 :: a1 :: a2 :: a3 :: a4 :: a5 :: a6 :: a7 :: a8 :: a9 :: a10 :: a11 :: a12 :: .ow (.l xs) :: l)).ro (augM 13 c j (xs.getD j.toNat .non)) := augK_ok rfl h0 h1
theorem aw13 {a0 a1 a2 a3 a4 a5 a6 a7 a8 a9 a10 a11 a12 : Sl} {j : Int} {z : D} {xs : List D} {l : List Sl} (h1 : j < (xs.length : Int)) : augZ 13 j (a0 :: a1 :: a2 :: a3 :: a4 :: a5 :: a6 :: a7 :: a8 :: a9 :: a10 :: a11 :: a12 :: .ow (.l xs) :: l) (some z) = .nx (a0 :: a1 :: a2 :: a3 :: a4 :: a5 :: a6 :: a7 :: a8 :: a9 :: a10 :: a11 :: a12 :: .ow (.l (xs.set j.toNat z)) :: l) := augZ_ok rfl h1
theorem gi13 {a0 a1 a2 a3 a4 a5 a6 a7 a8 a9 a10 a11 a12 : Sl} {f : List Sl → Rs D} {dd : D} {xs : List D} {l : List Sl} : gIt 13 f dd (a0 :: a1 :: a2 :: a3 :: a4 :: a5 :: a6 :: a7 :: a8 :: a9 :: a10 :: a11 :: a12 :: .ow (.l xs) :: l) = kRob (f (a0 :: a1 :: a2 :: a3 :: a4 :: a5 :: a6 :: a7 :: a8 :: a9 :: a10 :: a11 :: a12 :: .ow (.l xs) :: l)) (gItK 13 dd) := gIt_ok rfl
theorem gj13 {a0 a1 a2 a3 a4 a5 a6 a7 a8 a9 a10 a11 a12 : Sl} {j : Int} {dd : D} {xs : List D} {l : List Sl} (h0 : 0 ≤ j) (h1 : j < (xs.length : Int)) : gItK 13 dd (.int j) (a0 :: a1 :: a2 :: a3 :: a4 :: a5 :: a6 :: a7 :: a8 :: a9 :: a10 :: a11 :: a12 :: .ow (.l xs) :: l) = .nx (a0 :: a1 :: a2 :: a3 :: a4 :: a5 :: a6 :: a7 :: a8 :: a9 :: a10 :: a11 :: a12 :: .ow (.l (xs.set j.toNat dd)) :: l) := if_pos ⟨h0, h1⟩
theorem ag13 {a0 a1 a2 a3 a4 a5 a6 a7 a8 a9 a10 a11 a12 : Sl} {f : List Sl → Rs D} {c : D → D → Option D} {x : D} {l : List Sl} : fAug 13 f c (a0 :: a1 :: a2 :: a3 :: a4 :: a5 :: a6 :: a7 :: a8 :: a9 :: a10 :: a11 :: a12 :: .im x :: l) = (f (a0 :: a1 :: a2 :: a3 :: a4 :: a5 :: a6 :: a7 :: a8 :: a9 :: a10 :: a11 :: a12 :: .im x :: l)).ro (agK 13 c x) := fAug_ok rfl
theorem xe13 {a0 a1 a2 a3 a4 a5 a6 a7 a8 a9 a10 a11 a12 : Sl} {f : List Sl → Rs D} {xs : List D} {l : List Sl} : fExt 13 f (a0 :: a1 :: a2 :: a3 :: a4 :: a5 :: a6 :: a7 :: a8 :: a9 :: a10 :: a11 :: a12 :: .ow (.l xs) :: l) = (f (a0 :: a1 :: a2 :: a3 :: a4 :: a5 :: a6 :: a7 :: a8 :: a9 :: a10 :: a11 :: a12 :: .ow (.l xs) :: l)).bind (extK 13) := Eq.trans rfl rfl
theorem xh13 {a0 a1 a2 a3 a4 a5 a6 a7 a8 a9 a10 a11 a12 : Sl} {xs ys : List D} {l : List Sl} (h : xs.length + ys.length ≤ 4000) : extK 13 (.lst ys) (a0 :: a1 :: a2 :: a3 :: a4 :: a5 :: a6 :: a7 :: a8 :: a9 :: a10 :: a11 :: a12 :: .ow (.l xs) :: l) = .ok .non (a0 :: a1 :: a2 :: a3 :: a4 :: a5 :: a6 :: a7 :: a8 :: a9 :: a10 :: a11 :: a12 :: .ow (.l (xs ++ ys)) :: l) := if_pos (len_le h)
theorem fz13 {a0 a1 a2 a3 a4 a5 a6 a7 a8 a9 a10 a11 a12 : Sl} {xs : List D} {l : List Sl} : frzE 13 (a0 :: a1 :: a2 :: a3 :: a4 :: a5 :: a6 :: a7 :: a8 :: a9 :: a10 :: a11 :: a12 :: .ow (.l xs) :: l) = a0 :: a1 :: a2 :: a3 :: a4 :: a5 :: a6 :: a7 :: a8 :: a9 :: a10 :: a11 :: a12 :: .im (.lst xs) :: l := Eq.trans rfl rfl
theorem fy13 {a0 a1 a2 a3 a4 a5 a6 a7 a8 a9 a10 a11 a12 : Sl} {dd : D} {l : List Sl} : frzE 13 (a0 :: a1 :: a2 :: a3 :: a4 :: a5 :: a6 :: a7 :: a8 :: a9 :: a10 :: a11 :: a12 :: .im dd :: l) = a0 :: a1 :: a2 :: a3 :: a4 :: a5 :: a6 :: a7 :: a8 :: a9 :: a10 :: a11 :: a12 :: .im dd :: l := Eq.trans rfl rfl
/-! operators -/
theorem x_add (a b : Int) : dAddU (.int a) (.int b) = some (.int (a + b)) := Eq.trans rfl rfl
theorem x_sub (a b : Int) : dSub (.int a) (.int b) = some (.int (a - b)) := Eq.trans rfl rfl
theorem x_eq (a b : Int) : dEq (.int a) (.int b) = some (.bl (decide (a = b))) := by rw [dEq_int]; congr
theorem x_mod {a b : Int} (h : 0 < b) : dMod (.int a) (.int b) = some (.int (a % b)) := by
  show (if decide (0 < b) = true then some (D.int (a % b)) else none) = _
  rw [if_pos (decide_eq_true h)]
theorem x_fdv {a b : Int} (h : 0 < b) (h2 : b < 2 ^ 64) : dFdv (.int a) (.int b) = some (.int (a / b)) := by
  show (if decide (0 < b ∧ b.natAbs.log2 < 9000) = true then some (D.int (a / b)) else none) = _
  have : b.natAbs < 2 ^ 64 := by omega
  have q : b.natAbs.log2 < 9000 := Nat.lt_trans ((Nat.log2_lt (by omega)).mpr this) (by decide)
  rw [if_pos (decide_eq_true ⟨h, q⟩)]
theorem x_mul_l {a b : Int} (h : -(2 ^ 64) < a) (h2 : a < 2 ^ 64) : dMul (.int a) (.int b) = some (.int (a * b)) := by
  show (if mulOk a b = true then some (D.int (a * b)) else none) = _
  rw [if_pos (by unfold mulOk; exact decide_eq_true (.inl (.inl ⟨h, h2⟩)))]
theorem x_mul_r {a b : Int} (h : -(2 ^ 64) < b) (h2 : b < 2 ^ 64) : dMul (.int a) (.int b) = some (.int (a * b)) := by
  show (if mulOk a b = true then some (D.int (a * b)) else none) = _
  rw [if_pos (by unfold mulOk; exact decide_eq_true (.inl (.inr ⟨h, h2⟩)))]
theorem x_int (a : Int) : cInt [.int a] = some (.int a) := Eq.trans rfl rfl
theorem x_len (xs : List D) : cLen [.lst xs] = some (.int (xs.length : Nat)) := Eq.trans rfl rfl
theorem x_lenT (xs : List D) : cLen [.tup xs] = some (.int (xs.length : Nat)) := Eq.trans rfl rfl
theorem x_tuple (xs : List D) : cTuple [.lst xs] = some (.tup xs) := Eq.trans rfl rfl
theorem x_asB (b : Bool) : (D.bl b).asB = some b := Eq.trans rfl rfl
theorem x_truB (b : Bool) : (D.bl b).tru = some b := Eq.trans rfl rfl
theorem x_itL (xs : List D) : (D.lst xs).items = some xs := Eq.trans rfl rfl
theorem x_itT (xs : List D) : (D.tup xs).items = some xs := Eq.trans rfl rfl
/-- an item of a list of integers -/
theorem x_ixL {xs : List D} {z : Int} (h0 : 0 ≤ z) (h1 : z < (xs.length : Int)) : ixD (.lst xs) (.int z) = xs[z.toNat]? := by
  show atI xs z = _
  unfold atI
  have a : ixN xs.length z = some z.toNat := by
    unfold ixN
    rw [if_pos h0, if_pos h1]
  rw [a]
  rfl
theorem x_ixT {xs : List D} {z : Int} (h0 : 0 ≤ z) (h1 : z < (xs.length : Int)) : ixD (.tup xs) (.int z) = xs[z.toNat]? := by
  show atI xs z = _
  unfold atI
  have a : ixN xs.length z = some z.toNat := by
    unfold ixN
    rw [if_pos h0, if_pos h1]
  rw [a]
  rfl
theorem x_rng1 (n : Nat) (h : n < 2 ^ 62) : rng1 [.int (n : Int)] = some ((List.range n).map fun (i : Nat) => D.int (i : Int)) := by
  rw [rng1_eq (by omega) (by omega), Int.toNat_natCast]
  congr 1
  refine List.map_congr_left fun i hi => ?_
  show D.int (0 + (i : Int)) = _
  rw [Int.zero_add]
theorem y_lt {a b : Int} (h : a < b) : dLt (.int a) (.int b) = some (.bl true) := by show some (D.bl (decide (a < b))) = _; rw [decide_eq_true h]
theorem n_lt {a b : Int} (h : b ≤ a) : dLt (.int a) (.int b) = some (.bl false) := by show some (D.bl (decide (a < b))) = _; rw [decide_eq_false (by omega)]
theorem y_le {a b : Int} (h : a ≤ b) : dLe (.int a) (.int b) = some (.bl true) := by show some (D.bl (decide (a ≤ b))) = _; rw [decide_eq_true h]
theorem n_le {a b : Int} (h : b < a) : dLe (.int a) (.int b) = some (.bl false) := by show some (D.bl (decide (a ≤ b))) = _; rw [decide_eq_false (by omega)]
theorem y_gt {a b : Int} (h : b < a) : dGt (.int a) (.int b) = some (.bl true) := by show some (D.bl (decide (b < a))) = _; rw [decide_eq_true h]
theorem n_gt {a b : Int} (h : a ≤ b) : dGt (.int a) (.int b) = some (.bl false) := by show some (D.bl (decide (b < a))) = _; rw [decide_eq_false (by omega)]
theorem y_ge {a b : Int} (h : b ≤ a) : dGe (.int a) (.int b) = some (.bl true) := by show some (D.bl (decide (b ≤ a))) = _; rw [decide_eq_true h]
theorem n_ge {a b : Int} (h : a < b) : dGe (.int a) (.int b) = some (.bl false) := by show some (D.bl (decide (b ≤ a))) = _; rw [decide_eq_false (by omega)]
theorem y_eq {a b : Int} (h : a = b) : dEq (.int a) (.int b) = some (.bl true) := by subst h; rw [dEq_int, beq_self_eq_true]
theorem n_eq {a b : Int} (h : ¬ a = b) : dEq (.int a) (.int b) = some (.bl false) := by rw [dEq_int, beq_eq_false_iff_ne.mpr h]
theorem y_ne {a b : Int} (h : ¬ a = b) : dNe (.int a) (.int b) = some (.bl true) := by rw [dNe_int, beq_eq_false_iff_ne.mpr h]; rfl
theorem n_ne {a b : Int} (h : a = b) : dNe (.int a) (.int b) = some (.bl false) := by subst h; rw [dNe_int, beq_self_eq_true]; rfl
/-! ### loops as folds -/
theorem turns_mapL {α : Type} {g : D → List Sl → Option (List Sl)} {t : List Sl → Rs Bool} {el : List Sl → Rs D} {e0 : List Sl} (p q : α → D) : ∀ (xs : List α), (∀ x ∈ xs, turnD g t el e0 (p x) = some (some (q x))) → turnsD g t el e0 (xs.map p) = some (xs.map q)
  | [], _ => rfl
  | x :: xs, k => by
    rw [List.map_cons, turnsD, k x List.mem_cons_self]
    dsimp only
    rw [turns_mapL p q xs fun y hy => k y (List.mem_cons_of_mem _ hy)]
    rfl
theorem turns_pickL {α : Type} {g : D → List Sl → Option (List Sl)} {t : List Sl → Rs Bool} {el : List Sl → Rs D} {e0 : List Sl} (p : α → D) (q : α → Option D) : ∀ (xs : List α), (∀ x ∈ xs, turnD g t el e0 (p x) = some (q x)) → turnsD g t el e0 (xs.map p) = some (xs.filterMap q)
  | [], _ => rfl
  | x :: xs, k => by
    rw [List.map_cons, turnsD, k x List.mem_cons_self, List.filterMap_cons]
    have ih := turns_pickL p q xs fun y hy => k y (List.mem_cons_of_mem _ hy)
    cases q x with
    | none => exact ih
    | some y =>
      dsimp only
      rw [ih]
      rfl
end Pf
open Pf
local macro_rules
  | `(tactic| simp_arith [$as,*]) => `(tactic| simp (disch := omega) only [↓xs_nx, ↓xs_rt, ↓xs_ex, ↓xs_bk, ↓xs_ct, ↓xb_ok, ↓xb_ex, ↓xr_ok, ↓xr_ex, ↓uSeq, ↓uRet, ↓uRetN, ↓uBad, ↓uRaise, ↓uExpr, ↓uIf, ↓uSet, ↓uSetO, ↓uFor, ↓uAsgM, ↓uGmT2, ↓uGmC, ↓uGmN, ↓uGOfN, ↓uNm, ↓uTwo, ↓uThree, ↓uAsg, ↓uPar, ↓uK, ↓uYes, ↓uPNo, ↓uNil, ↓uIx, ↓u2, ↓uAsB, ↓uTru, ↓uNot, ↓uAnd, ↓uOr, ↓uOrT, ↓uAndT, ↓ubNot, ↓ubAnd, ↓ubOr, ↓uIfE, ↓uCh, ↓uCons, ↓uCall, ↓uCB, ↓uTup, ↓uLst, ↓uFrz, ↓uN2, ↓uItems, ↓uNeg, ↓uPart, ↓uIsi, ↓uSl, ↓uNl, ↓uRev, ↓uRng1, ↓uRng2, ↓uRng3, ↓uEnum, ↓uZip, ↓uWRev, ↓uLrg, ↓uLc, ↓uLc2, ↓uGx, ↓uTurn, ↓uOwnT, ↓ri0, ↓ro0, ↓ap0, ↓aq0, ↓ix0, ↓iy0, ↓iz0, ↓it0, ↓iw0, ↓ol0, ↓om0, ↓on0, ↓au0, ↓av0, ↓gi0, ↓gj0, ↓ag0, ↓xe0, ↓xh0, ↓fz0, ↓fy0, ↓ri1, ↓ro1, ↓ap1, ↓aq1, ↓ix1, ↓iy1, ↓iz1, ↓it1, ↓iw1, ↓ol1, ↓om1, ↓on1, ↓au1, ↓av1, ↓gi1, ↓gj1, ↓ag1, ↓xe1, ↓xh1, ↓fz1, ↓fy1, ↓ri2, ↓ro2, ↓ap2, ↓aq2, ↓ix2, ↓iy2, ↓iz2, ↓it2, ↓iw2, ↓ol2, ↓om2, ↓on2, ↓au2, ↓av2, ↓gi2, ↓gj2, ↓ag2, ↓xe2, ↓xh2, ↓fz2, ↓fy2, ↓ri3, ↓ro3, ↓ap3, ↓aq3, ↓ix3, ↓iy3, ↓iz3, ↓it3, ↓iw3, ↓ol3, ↓om3, ↓on3, ↓au3, ↓av3, ↓gi3, ↓gj3, ↓ag3, ↓xe3, ↓xh3, ↓fz3, ↓fy3, ↓ri4, ↓ro4, ↓ap4, ↓aq4, ↓ix4, ↓iy4, ↓iz4, ↓it4, ↓iw4, ↓ol4, ↓om4, ↓on4, ↓au4, ↓av4, ↓gi4, ↓gj4, ↓ag4, ↓xe4, ↓xh4, ↓fz4, ↓fy4, ↓ri5, ↓ro5, ↓ap5, ↓aq5, ↓ix5, ↓iy5, ↓iz5, ↓it5, ↓iw5, ↓ol5, ↓om5, ↓on5, ↓au5, ↓av5, ↓gi5, ↓gj5, ↓ag5, ↓xe5, ↓xh5, ↓fz5, ↓fy5, ↓ri6, ↓ro6, ↓ap6, ↓aq6, ↓ix6, ↓iy6, ↓iz6, ↓it6, ↓iw6, ↓ol6, ↓om6, ↓on6, ↓au6, ↓av6, ↓gi6, ↓gj6, ↓ag6, ↓xe6, ↓xh6, ↓fz6, ↓fy6, ↓ri7, ↓ro7, ↓ap7, ↓aq7, ↓ix7, ↓iy7, ↓iz7, ↓it7, ↓iw7, ↓ol7, ↓om7, ↓on7, ↓au7, ↓av7, ↓gi7, ↓gj7, ↓ag7, ↓xe7, ↓xh7, ↓fz7, ↓fy7, ↓ri8, ↓ro8, ↓ap8, ↓aq8, ↓ix8, ↓iy8, ↓iz8, ↓it8, ↓iw8, ↓ol8, ↓om8, ↓on8, ↓au8, ↓av8, ↓gi8, ↓gj8, ↓ag8, ↓xe8, ↓xh8, ↓fz8, ↓fy8, ↓ri9, ↓ro9, ↓ap9, ↓aq9, ↓ix9, ↓iy9, ↓iz9, ↓it9, ↓iw9, ↓ol9, ↓om9, ↓on9, ↓au9, ↓av9, ↓gi9, ↓gj9, ↓ag9, ↓xe9, ↓xh9, ↓fz9, ↓fy9, ↓ri10, ↓ro10, ↓ap10, ↓aq10, ↓ix10, ↓iy10, ↓iz10, ↓it10, ↓iw10, ↓ol10, ↓om10, ↓on10, ↓au10, ↓av10, ↓gi10, ↓gj10, ↓ag10, ↓xe10, ↓xh10, ↓fz10, ↓fy10, ↓ri11, ↓ri12, ↓ri13, ↓ro11, ↓ro12, ↓ro13, ↓ap11, ↓ap12, ↓ap13, ↓aq11, ↓aq12, ↓aq13, ↓ix11, ↓ix12, ↓ix13, ↓iy11, ↓iy12, ↓iy13, ↓iz11, ↓iz12, ↓iz13, ↓it11, ↓it12, ↓it13, ↓iw11, ↓iw12, ↓iw13, ↓ol11, ↓ol12, ↓ol13, ↓om11, ↓om12, ↓om13, ↓on11, ↓on12, ↓on13, ↓au11, ↓au12, ↓au13, ↓av11, ↓av12, ↓av13, ↓gi11, ↓gi12, ↓gi13, ↓gj11, ↓gj12, ↓gj13, ↓ag11, ↓ag12, ↓ag13, ↓xe11, ↓xe12, ↓xe13, ↓xh11, ↓xh12, ↓xh13, ↓fz11, ↓fz12, ↓fz13, ↓fy11, ↓fy12, ↓fy13, xo_some, xb_ok, xb_ex, xr_ok, xr_ex, xs_nx, xs_rt, xs_ex, xs_bk, xs_ct, xn_rt, xn_nx, xn_ex, vRet0, vRet1, vExpr0, vExpr1, vIf0, vIf1, vIf2, vSet0, vSet1, vSetO0, vSetO1, vFor0, vFor1, xrob_ok, xonto_ok, xonly_ok, vAsgM, vAsg, vAsgZ, vPar, v20, v21, v2b0, v2b1, vAsB0, vAsB1, vTru0, vTru1, vNot0, vNot1, vAnd0, vAnd1, vAnd2, vOr0, vOr1, vOr2, vOrT0, vOrT1, vAndT0, vAndT1, vOrZ0, vOrZ1, vAndZ0, vAndZ1, vbNot0, vbNot1, vbAnd0, vbAnd1, vbAnd2, vbOr0, vbOr1, vbOr2, vIfE0, vIfE1, vIfE2, vCh, vCh2, vCh3t, vCh3f, vCh4, vCons0, vCons1, vCons2a, vCons2b, vRs0, vRs1, vCall0, vCall1, vCall2, vCall3, vCall4, vCall5, vCall6, vCall7, vCall8, vCallx, vCB0, vCB1, vTup0, vLst0, vTup1, vLst1, vTup2, vLst2, vTup3, vLst3, vTup4, vLst4, vTup5, vLst5, vTup6, vLst6, vTup7, vLst7, vTup8, vLst8, vTupx, vFrz0, vFrz1, vOw, vN20, vN21, vN2b, vItems0, vItems1, vNeg0, vNeg1, vPart0, vPart1, vIsi0, vIsi1, vSl, vSl2, vSl3, vNl0, vNl1, vRev, vW, vWRev, vWRevT, vLrg, vLc, vLc2, vLcK, vGx, vGxK, vTg, vTsT, vTsF, vEl, vOwnT, vAgK, vAgZ, vAugM, rs0, aw0, rs1, aw1, rs2, aw2, rs3, aw3, rs4, aw4, rs5, aw5, rs6, aw6, rs7, aw7, rs8, aw8, rs9, aw9, rs10, aw10, rs11, rs12, rs13, aw11, aw12, aw13, x_add, x_sub, y_lt, n_lt, y_le, n_le, y_gt, n_gt, y_ge, n_ge, y_eq, n_eq, y_ne, n_ne, x_mod, x_fdv, x_int, x_len, x_lenT, x_tuple, x_asB, x_truB, x_itL, x_itT, hideE, List.foldr_cons, List.foldr_nil, List.map_cons, List.map_nil, Sl.hid, Bool.not_true, Bool.not_false, Int.reduceAdd, Int.reduceSub, Int.reduceMul, Int.reduceNeg, $as,*])
namespace Pf
open PyProof.Rows PySem.Spec PySem L2
/-! ### repr of data of numbers that are not great -/
mutual
def D.dp : D → Nat
  | .lst xs => dpL xs + 1
  | .tup xs => dpL xs + 1
  | _ => 0
def dpL : List D → Nat
  | [] => 0
  | x :: xs => max x.dp (dpL xs)
end
end Pf
namespace Pf
open PyProof.Rows PySem.Spec PySem L2
/-! ### fractions as rational numbers -/
abbrev gcdI (a b : Int) : Int := ((Nat.gcd a.natAbs b.natAbs : Nat) : Int)
abbrev fr (a b : Int) : D := .tup [.int (a / gcdI a b), .int (b / gcdI a b)]
end Pf
namespace Pf
open PyProof.Rows PySem.Spec PySem L2
end Pf
namespace Pf
theorem forR_nx {g : D → List Sl → Option (List Sl)} {b : List Sl → Ro} {d : D} {ds : List D} {env e1 e2 : List Sl} (h : g d env = some e1) (k : b e1 = .nx e2) : forR g b (d :: ds) env = forR g b ds e2 := by
  rw [forR, h]
  dsimp only
  rw [k]
end Pf
namespace Pf
open PySem PySem.Spec PyProof.Rows L2 GxR GenW Gx
/-! ### more slots -/
end Pf
namespace Pf
open PySem PySem.Spec PyProof.Rows L2 GxR GenW Gx
/-! symbolic runs of try; errors within comprehensions -/
end Pf
/-! runs over texts -/
namespace Pf
open PySem PySem.Spec PyProof.Rows L2 GxR GenW Gx Wk ZN
def kChars (r : Rs D) : Rs (List D) := r.bind fun d e => match d with
  | .str x => .ok (sgns x) e
  | _ => .bad
theorem tChars {f : List Sl → Rs D} {env : List Sl} : fChars f env = kChars (f env) := Eq.trans rfl rfl
def kSplit (g : List Sl → Rs D) (r : Rs D) : Rs Ow := r.bind fun d e => match d with
  | .str a => (g e).bind fun d2 e2 => match d2 with
    | .str b => if (b.length == 0) = false ∧ a.length + 2 ≤ sizeLine then .ok (.l ((Txt.split a b).map .str)) e2 else .bad
    | _ => .bad
  | _ => .bad
theorem tSplit {f g : List Sl → Rs D} {env : List Sl} : fSplit f g env = kSplit g (f env) := Eq.trans rfl rfl
theorem wSplit {g : List Sl → Rs D} {a b : Str} {e e2 : List Sl} (hg : g e = .ok (.str b) e2) (h : (b.length == 0) = false ∧ a.length + 2 ≤ sizeLine) : kSplit g (.ok (.str a) e) = .ok (.l ((Txt.split a b).map .str)) e2 := by
  show (g e).bind _ = _
  rw [hg]
  exact if_pos h
def kStrB (p : Str → Bool) (r : Rs D) : Rs D := r.bind fun d e => match d with
  | .str a => .ok (.bl (p a)) e
  | _ => .bad
theorem tStrB {p : Str → Bool} {f : List Sl → Rs D} {env : List Sl} : fStrB p f env = kStrB p (f env) := Eq.trans rfl rfl
theorem wStrB {p : Str → Bool} {x : Str} {e : List Sl} : kStrB p (.ok (.str x) e) = .ok (.bl (p x)) e := Eq.trans rfl rfl
def kInC (kvs : List (Str × D)) (pos : Bool) (r : Rs D) : Rs Bool := r.bind fun d e => match d with
  | .str z => .ok ((atT kvs z).isSome == pos) e
  | _ => .bad
theorem tInC {kvs : List (Str × D)} {pos : Bool} {f : List Sl → Rs D} {env : List Sl} : bInC kvs pos f env = kInC kvs pos (f env) := Eq.trans rfl rfl
theorem wInC {kvs : List (Str × D)} {pos : Bool} {z : Str} {e : List Sl} : kInC kvs pos (.ok (.str z) e) = .ok ((atT kvs z).isSome == pos) e := Eq.trans rfl rfl
def gtC (kvs : List (Str × D)) (z : Str) (e : List Sl) : Rs D := match atT kvs z with
  | none => .ok .non e
  | some (.tup _) => .bad
  | some d => .ok d e
def kGetC (kvs : List (Str × D)) (r : Rs D) : Rs D := r.bind fun d e => match d with
  | .str z => gtC kvs z e
  | _ => .bad
theorem tGetC' {kvs : List (Str × D)} {f : List Sl → Rs D} {env : List Sl} : fGetC kvs f env = kGetC kvs (f env) := by
  unfold fGetC kGetC
  cases f env with
  | ok d e =>
    cases d <;> rfl
  | ex x => rfl
  | bad => rfl
theorem wGetC {kvs : List (Str × D)} {z : Str} {e : List Sl} : kGetC kvs (.ok (.str z) e) = gtC kvs z e := Eq.trans rfl rfl
theorem gtC_no {kvs : List (Str × D)} {z : Str} {e : List Sl} (h : atT kvs z = none) : gtC kvs z e = .ok .non e := by unfold gtC; rw [h]
theorem gtC_int {kvs : List (Str × D)} {z : Str} {i : Int} {e : List Sl} (h : atT kvs z = some (.int i)) : gtC kvs z e = .ok (.int i) e := by unfold gtC; rw [h]
def kUnC (kvs : List (Str × D)) (n : Nat) (h : List D → List Sl → Option (List Sl)) (r : Rs D) : Ro := r.ro fun d e => match d with
  | .str z => (match atT kvs z with
    | some (.tup ds) => if ds.length = n then (match h ds e with | some e' => .nx e' | none => .bad) else .bad
    | _ => .bad)
  | _ => .bad
theorem tUnC {kvs : List (Str × D)} {n : Nat} {h : List D → List Sl → Option (List Sl)} {f : List Sl → Rs D} {env : List Sl} : rUnC kvs n h f env = kUnC kvs n h (f env) := Eq.trans rfl rfl
theorem wUnC {kvs : List (Str × D)} {i j : Nat} {z : Str} {a b : D} {e : List Sl} (h : atT kvs z = some (.tup [a, b])) : kUnC kvs 2 (gsC (gNm i) (gsC (gNm j) gsN)) (.ok (.str z) e) = .nx ((e.set i (.im a)).set j (.im b)) := by
  show (match atT kvs z with
    | some (.tup ds) => if ds.length = 2 then (match (gsC (gNm i) (gsC (gNm j) gsN)) ds e with | some e' => Ro.nx e' | none => .bad) else .bad
    | _ => .bad) = _
  rw [h]
  rfl
def kCallD (n : Nat) (i : Int) (F : List D → Rf) (r : Rs (List D)) : Rs D := r.bind fun ds e => if ds.length = n then (F (ds ++ [.int i])).rs e else .bad
theorem tCallD {n : Nat} {i : Int} {F : List D → Rf} {g : List Sl → Rs (List D)} {env : List Sl} : vCallD n i F g env = kCallD n i F (g env) := Eq.trans rfl rfl
theorem wCallD {i : Int} {F : List D → Rf} {d : D} {e : List Sl} : kCallD 1 i F (.ok [d] e) = kRs e (F [d, .int i]) := Eq.trans rfl rfl
def kCallO (n : Nat) (F : List D → Rf) (r : Rs (List D)) : Rs Ow := r.bind fun ds e => if ds.length = n then (match F ds with
  | .ok (.lst xs) => .ok (.l xs) e
  | .ok _ => .bad
  | .ex x => .ex x
  | .bad => .bad) else .bad
theorem tCallO {n : Nat} {F : List D → Rf} {g : List Sl → Rs (List D)} {env : List Sl} : vCallO n F g env = kCallO n F (g env) := Eq.trans rfl rfl
theorem wCallO {F : List D → Rf} {d d2 : D} {xs : List D} {e : List Sl} (h : F [d, d2] = .ok (.lst xs)) : kCallO 2 F (.ok [d, d2] e) = .ok (.l xs) e := by
  show (match F [d, d2] with
  | .ok (.lst xs) => Rs.ok (Ow.l xs) e
  | .ok _ => .bad
  | .ex x => .ex x
  | .bad => .bad) = _
  rw [h]
def kRetO (r : Rs Ow) : Ro := r.ro fun w _ => match w with | .l xs => .rt (.lst xs) | _ => .bad
theorem tRetO {f : List Sl → Rs Ow} {env : List Sl} : rRetO f env = kRetO (f env) := Eq.trans rfl rfl
theorem wRetO {xs : List D} {e : List Sl} : kRetO (.ok (.l xs) e) = .rt (.lst xs) := Eq.trans rfl rfl
def kJoin (g : List Sl → Rs D) (r : Rs D) : Rs D := r.bind fun d e1 => match d with
  | .str _ => (g e1).bind fun d2 e2 => Rs.opt (dJoin d d2) e2
  | _ => .bad
theorem tJoin {f g : List Sl → Rs D} {env : List Sl} : fJoin f g env = kJoin g (f env) := Eq.trans rfl rfl
def kJoin2 (a : Str) (r : Rs D) : Rs D := r.bind fun d2 e2 => Rs.opt (dJoin (.str a) d2) e2
theorem wJoin {g : List Sl → Rs D} {a : Str} {e : List Sl} : kJoin g (.ok (.str a) e) = kJoin2 a (g e) := Eq.trans rfl rfl
theorem wJoin2 {a : Str} {d : D} {e : List Sl} : kJoin2 a (.ok d e) = Rs.opt (dJoin (.str a) d) e := Eq.trans rfl rfl
def kSlS (l h : List Sl → Rs (Option Int)) (r : Rs D) : Rs D := r.bind fun d e => (l e).bind fun lo e => (h e).bind fun hi e => match d with
    | .str z => if z.length ≤ sizeLine then .ok (.str (cutS z lo hi)) e else .bad
    | _ => .bad
theorem tSlS {f : List Sl → Rs D} {l h : List Sl → Rs (Option Int)} {env : List Sl} : fSlS f l h env = kSlS l h (f env) := Eq.trans rfl rfl
def kSlS2 (h : List Sl → Rs (Option Int)) (z : Str) (r : Rs (Option Int)) : Rs D := r.bind fun lo e => (h e).bind fun hi e => if z.length ≤ sizeLine then .ok (.str (cutS z lo hi)) e else .bad
def kSlS3 (z : Str) (lo : Option Int) (r : Rs (Option Int)) : Rs D := r.bind fun hi e => if z.length ≤ sizeLine then .ok (.str (cutS z lo hi)) e else .bad
theorem wSlS2 {h : List Sl → Rs (Option Int)} {z : Str} {lo : Option Int} {e : List Sl} : kSlS2 h z (.ok lo e) = kSlS3 z lo (h e) := Eq.trans rfl rfl
theorem wSlS3 {z : Str} {lo hi : Option Int} {e : List Sl} (h : z.length ≤ 4000) : kSlS3 z lo (.ok hi e) = .ok (.str (cutS z lo hi)) e := if_pos (len_le h)
end Pf
namespace K57
open PySem PySem.Spec PyProof.Rows L2 GxR GenW Gx Pf
def topS (i : Nat) : Stmt := PySem.Challenge.pw_schemebound_k57_words_of_a_session.main.body.getD i (.Pass ⟨0, 0, 0, 0⟩)
def fuel : Nat := 1000000
def kv_NUMBERS_ASKED : List (Str × D) := [("points", .tup [.int 0, .int 0]), ("kind", .tup [.int 2, .int 2]), ("greatest", .tup [.int 0, .int 6]), ("bound", .tup [.int 0, .int 6])]
def kv_NAMES_BEHIND : List (Str × D) := [("scheme", .int 1), ("product", .int 3), ("list", .int 2), ("remove", .int 1), ("drop", .int 1), ("answer", .int 1), ("answers", .int 0), ("print", .int 1), ("schemes", .int 0), ("questions", .int 0), ("undo", .int 0), ("redo", .int 0)]
abbrev s_is_name : Stmt := topS 4
theorem sc_is_name : FnScope ["text", "character"] ["text"] (defScope s_is_name) := ⟨rfl, rfl, rfl, by decide +kernel, rfl, by decide +kernel, by decide +kernel⟩
def b_is_name : List Sl → Ro :=
  (rSeq (rIf (bNot (fAsB (fChain (vK (.int 1)) (fCB (fCons (rdN 0) aNil) cLenS) (vK (.int 12)) dLe dLe))) (rRet (vK (.bl false))) Ro.nx)
  (rRet (fAnd (f2 (fIx (rdN 0) (vK (.int 0))) (vK (.str "abcdefghijklmnopqrstuvwxyz")) (dInT false)) (fGx (fChars (rdN 0)) (gNm 1) tYes' (fOrT (f2 (rdN 1) (vK (.str "abcdefghijklmnopqrstuvwxyz")) (dInT false)) (f2 (rdN 1) (vK (.str "0123456789")) (dInT false))) [1] resAll))))
def F_is_name (ds : List D) : Rf := (b_is_name (env0 2 ds)).fn
abbrev s_is_written_number : Stmt := topS 7
theorem sc_is_written_number : FnScope ["word", "most"] ["word", "most"] (defScope s_is_written_number) := ⟨rfl, rfl, rfl, by decide +kernel, rfl, by decide +kernel, by decide +kernel⟩
def b_is_written_number : List Sl → Ro :=
  (rSeq (rIf (fAsB (f2 (rdN 0) (vK (.str "0")) dEq)) (rRet (vK (.bl true))) Ro.nx)
  (rRet (fAnd (f2 (fCB (fCons (rdN 0) aNil) cLenS) (rdN 1) dLe) (fAnd (fStrB Txt.isascii (rdN 0)) (fAnd (fStrB Txt.isdigit (rdN 0)) (f2 (fIx (rdN 0) (vK (.int 0))) (vK (.str "0")) dNe))))))
def F_is_written_number (ds : List D) : Rf := (b_is_written_number (env0 2 ds)).fn
abbrev s_is_question : Stmt := topS 10
theorem sc_is_question : FnScope ["asked", "many", "fewest", "most"] ["asked", "many"] (defScope s_is_question) := ⟨rfl, rfl, rfl, by decide +kernel, rfl, by decide +kernel, by decide +kernel⟩
def b_is_question : List Sl → Ro :=
  (rSeq (rIf (bInC kv_NUMBERS_ASKED false (rdN 0)) (rRet (vK (.bl false))) Ro.nx)
  (rSeq (rUnC kv_NUMBERS_ASKED 2 (gsC (gNm 2) (gsC (gNm 3) gsN)) (rdN 0))
  (rRet (fChain (rdN 2) (rdN 1) (rdN 3) dLe dLe))))
def F_is_question (ds : List D) : Rf := (b_is_question (env0 4 ds)).fn
abbrev s_split_words : Stmt := topS 14
theorem sc_split_words : FnScope ["line", "word"] ["line"] (defScope s_split_words) := ⟨rfl, rfl, rfl, by decide +kernel, rfl, by decide +kernel, by decide +kernel⟩
def b_split_words : List Sl → Ro :=
  (rRet (fFrz (fLc (fItems (fFrz (fSplit (rdN 0) (vK (.str " "))))) (gNm 1) (fTru (rdN 1)) (rdN 1) [1])))
def F_split_words (ds : List D) : Rf := (b_split_words (env0 2 ds)).fn
abbrev s_is_asking : Stmt := topS 15
theorem sc_is_asking : FnScope ["words", "many", "numbers", "number"] ["words"] (defScope s_is_asking) := ⟨rfl, rfl, rfl, by decide +kernel, rfl, by decide +kernel, by decide +kernel⟩
def b_is_asking : List Sl → Ro :=
  (rSeq (rSet 1 (f2 (fCB (fCons (rdN 0) aNil) cLen) (vK (.int 4)) dSub))
  (rSeq (rIf (bOr (fAsB (f2 (rdN 1) (vK (.int 0)) dLt)) (bNot (fTru (vCall 2 F_is_question (fCons (fIx (rdN 0) (vK (.int 2))) (fCons (rdN 1) aNil)))))) (rRet (vK (.bl false))) Ro.nx)
  (rSeq (rSet 2 (fSl (rdN 0) (fPart (vK (.int 4))) pNo))
  (rRet (fAnd (vCall 1 F_is_name (fCons (fIx (rdN 0) (vK (.int 1))) aNil)) (fAnd (vCall 1 F_is_name (fCons (fIx (rdN 0) (vK (.int 3))) aNil)) (fGx (fItems (rdN 2)) (gNm 3) tYes' (vCallD 1 61 F_is_written_number (fCons (rdN 3) aNil)) [3] resAll)))))))
def F_is_asking (ds : List D) : Rf := (b_is_asking (env0 4 ds)).fn
abbrev s_is_command : Stmt := topS 16
theorem sc_is_command : FnScope ["words", "word"] ["words"] (defScope s_is_command) := ⟨rfl, rfl, rfl, by decide +kernel, rfl, by decide +kernel, by decide +kernel⟩
def b_is_command : List Sl → Ro :=
  (rSeq (rIf (fAsB (f2 (fIx (rdN 0) (vK (.int 0))) (vK (.str "ask")) dEq)) (rRet (vCall 1 F_is_asking (fCons (rdN 0) aNil))) Ro.nx)
  (rRet (fAnd (f2 (fGetC kv_NAMES_BEHIND (fIx (rdN 0) (vK (.int 0)))) (f2 (fCB (fCons (rdN 0) aNil) cLen) (vK (.int 1)) dSub) dEq) (fGx (fItems (fSl (rdN 0) (fPart (vK (.int 1))) pNo)) (gNm 1) tYes' (vCall 1 F_is_name (fCons (rdN 1) aNil)) [1] resAll))))
def F_is_command (ds : List D) : Rf := (b_is_command (env0 2 ds)).fn
abbrev s__law_row : Stmt := topS 18
theorem sc__law_row : FnScope ["cell", "many", "row", "rest", "mixed", "k"] ["cell", "many"] (defScope s__law_row) := ⟨rfl, rfl, rfl, by decide +kernel, rfl, by decide +kernel, by decide +kernel⟩
def b__law_row : List Sl → Ro :=
  (rSeq (rSetO 2 (fLst aNil))
  (rSeq (rSet 3 (fCB (fCons (rdN 0) aNil) cAbs))
  (rSeq (rSet 4 (f2 (fCB (fCons (f2 (f2 (rdN 3) (vK (.int 48271)) dMul) (vK (.int 69621)) dAddU) aNil) cInt) (vK (.int 2147483647)) dMod))
  (rSeq (rFor (wRng1 (fCons (rdN 1) aNil)) (gNm 5) (rSeq (rSet 4 (f2 (fCB (fCons (f2 (f2 (rdN 4) (vK (.int 16807)) dMul) (f2 (vK (.int 271)) (f2 (rdN 5) (vK (.int 3)) dAddU) dMul) dAddU) aNil) cInt) (vK (.int 2147483629)) dMod))
  (rIf (fAsB (f2 (fCB (fCons (rdN 0) aNil) cAbs) (f2 (vK (.int 10)) (vK (.int 18)) dPow) dGe)) (rSeq (rExpr (fApp 2 (f2 (fCB (fCons (rdN 3) aNil) cInt) (vK (.int 1009)) dMod)))
  (rSet 3 (f2 (rdN 3) (vK (.int 1009)) dFdv))) (rExpr (fApp 2 (f2 (fCB (fCons (f2 (rdN 4) (vK (.int 7)) dFdv) aNil) cInt) (vK (.int 1009)) dMod))))))
  (rRet (rdN 2))))))
def F__law_row (ds : List D) : Rf := (b__law_row (env0 6 ds)).fn
abbrev s__law_numbers : Stmt := topS 19
theorem sc__law_numbers : FnScope ["script", "many", "cells", "each", "numbers", "cell", "number"] ["script", "many"] (defScope s__law_numbers) := ⟨rfl, rfl, rfl, by decide +kernel, rfl, by decide +kernel, by decide +kernel⟩
def b__law_numbers : List Sl → Ro :=
  (rSeq (rSet 2 (fSl (rdN 0) pNo (fPart (vK (.int 63)))))
  (rSeq (rSet 3 (f2 (vK (.int 1)) (f2 (rdN 1) (fCB (fCons (vK (.int 1)) (fCons (fCB (fCons (rdN 2) aNil) cLen) aNil)) cMax2) dFdv) dAddU))
  (rSeq (rSetO 4 (fLst aNil))
  (rSeq (rFor (fItems (rdN 2)) (gNm 5) (rFor (fItems (vCall 2 F__law_row (fCons (rdN 5) (fCons (rdN 3) aNil)))) (gNm 6) (rExpr (fApp 4 (rdN 6)))))
  (rSeq (whileR (fAsB (f2 (ownLen 4) (rdN 1) dLt)) (rExpr (fApp 4 (vK (.int 0)))) fuel)
  (rRet (fSl (rdN 4) pNo (fPart (rdN 1)))))))))
def F__law_numbers (ds : List D) : Rf := (b__law_numbers (env0 7 ds)).fn
abbrev s__law_word : Stmt := topS 20
theorem sc__law_word : FnScope ["number", "more", "words", "letters", "size", "word", "long", "figures", "k"] ["number", "more"] (defScope s__law_word) := ⟨rfl, rfl, rfl, by decide +kernel, rfl, by decide +kernel, by decide +kernel⟩
def b__law_word : List Sl → Ro :=
  (rSeq (rSet 2 (fTup (fCons (vK (.str "scheme")) (fCons (vK (.str "product")) (fCons (vK (.str "list")) (fCons (vK (.str "remove")) (fCons (vK (.str "drop")) (fCons (vK (.str "answer")) (fCons (vK (.str "answers")) (fCons (vK (.str "print")) (fCons (vK (.str "schemes")) (fCons (vK (.str "questions")) (fCons (vK (.str "undo")) (fCons (vK (.str "redo")) aNil))))))))))))))
  (rSeq (rSet 2 (f2 (rdN 2) (fTup (fCons (vK (.str "ask")) (fCons (vK (.str "points")) (fCons (vK (.str "kind")) (fCons (vK (.str "greatest")) (fCons (vK (.str "bound")) (fCons (vK (.str "end")) (fCons (vK (.str "0")) (fCons (vK (.str "7")) aNil))))))))) dCatT))
  (rSeq (rSet 3 (vK (.str "abcdefghijklmnopqrstuvwxyz0123456789")))
  (rSeq (rIf (fAsB (f2 (f2 (fCB (fCons (rdN 0) aNil) cInt) (vK (.int 4)) dMod) (vK (.int 0)) dEq)) (rRet (fIx (rdN 2) (f2 (fCB (fCons (f2 (rdN 0) (vK (.int 4)) dFdv) aNil) cInt) (vK (.int 20)) dMod))) Ro.nx)
  (rSeq (rSet 4 (f2 (fCB (fCons (f2 (rdN 0) (vK (.int 4)) dFdv) aNil) cInt) (vK (.int 7)) dMod))
  (rSeq (rIf (fAsB (f2 (f2 (fCB (fCons (rdN 0) aNil) cInt) (vK (.int 4)) dMod) (vK (.int 1)) dEq)) (rSeq (rSet 6 (f2 (f2 (vK (.int 1)) (rdN 4) dAddU) (f2 (vK (.int 56)) (fCB (fCons (f2 (f2 (fCB (fCons (rdN 1) aNil) cInt) (vK (.int 5)) dMod) (vK (.int 0)) dEq) aNil) cInt) dMul) dAddU))
  (rSeq (rSet 7 (fJoin (vK (.str "")) (fFrz (fLc (wRng1 (fCons (rdN 6) aNil)) (gNm 8) tYes' (fIx (rdN 3) (f2 (vK (.int 26)) (f2 (fCB (fCons (f2 (f2 (rdN 1) (f2 (f2 (rdN 8) (rdN 8) dMul) (vK (.int 3)) dMul) dAddU) (f2 (rdN 0) (vK (.int 28)) dFdv) dAddU) aNil) cInt) (vK (.int 10)) dMod) dAddU)) [8]))))
  (rRet (f2 (fIx (fTup (fCons (vK (.str "")) (fCons (vK (.str "")) (fCons (vK (.str "")) (fCons (vK (.str "-")) aNil))))) (f2 (fCB (fCons (rdN 1) aNil) cInt) (vK (.int 4)) dMod)) (rdN 7) dAddU)))) Ro.nx)
  (rSeq (rSet 5 (f2 (fIx (rdN 3) (f2 (fCB (fCons (rdN 1) aNil) cInt) (vK (.int 36)) dMod)) (fJoin (vK (.str "")) (fFrz (fLc (wRng1 (fCons (f2 (rdN 4) (vK (.int 2)) dMul) aNil)) (gNm 8) tYes' (fIx (rdN 3) (f2 (fCB (fCons (f2 (f2 (rdN 1) (f2 (f2 (vK (.int 11)) (rdN 8) dMul) (rdN 0) dMul) dAddU) (rdN 8) dAddU) aNil) cInt) (vK (.int 36)) dMod)) [8]))) dAddU))
  (rSeq (rIf (fAsB (f2 (f2 (fCB (fCons (rdN 1) aNil) cInt) (vK (.int 9)) dMod) (vK (.int 0)) dEq)) (rRet (f2 (f2 (fSlS (rdN 5) pNo (fPart (vK (.int 2)))) (vK (.str "_")) dAddU) (fSlS (rdN 5) (fPart (vK (.int 2))) pNo) dAddU)) Ro.nx)
  (rRet (rdN 5))))))))))
def F__law_word (ds : List D) : Rf := (b__law_word (env0 9 ds)).fn
abbrev s__law_is_name : Stmt := topS 21
theorem sc__law_is_name : FnScope ["word", "char"] ["word"] (defScope s__law_is_name) := ⟨rfl, rfl, rfl, by decide +kernel, rfl, by decide +kernel, by decide +kernel⟩
def b__law_is_name : List Sl → Ro :=
  (rSeq (rIf (bOr (fAsB (f2 (fCB (fCons (rdN 0) aNil) cLenS) (vK (.int 1)) dLt)) (bOr (fAsB (f2 (fCB (fCons (rdN 0) aNil) cLenS) (vK (.int 12)) dGt)) (fAsB (f2 (fIx (rdN 0) (vK (.int 0))) (vK (.str "abcdefghijklmnopqrstuvwxyz")) (dInT true))))) (rRet (vK (.bl false))) Ro.nx)
  (rRet (fCB (fCons (fFrz (fLc (fChars (rdN 0)) (gNm 1) tYes' (f2 (rdN 1) (vK (.str "abcdefghijklmnopqrstuvwxyz0123456789")) (dInT false)) [1])) aNil) cAllL)))
def F__law_is_name (ds : List D) : Rf := (b__law_is_name (env0 2 ds)).fn
abbrev s__law_all_names : Stmt := topS 22
theorem sc__law_all_names : FnScope ["words", "word"] ["words"] (defScope s__law_all_names) := ⟨rfl, rfl, rfl, by decide +kernel, rfl, by decide +kernel, by decide +kernel⟩
def b__law_all_names : List Sl → Ro :=
  (rRet (fCB (fCons (fFrz (fLc (fItems (rdN 0)) (gNm 1) tYes' (vCall 1 F__law_is_name (fCons (rdN 1) aNil)) [1])) aNil) cAllL))
def F__law_all_names (ds : List D) : Rf := (b__law_all_names (env0 2 ds)).fn
abbrev s__law_is_number : Stmt := topS 23
theorem sc__law_is_number : FnScope ["word", "char"] ["word"] (defScope s__law_is_number) := ⟨rfl, rfl, rfl, by decide +kernel, rfl, by decide +kernel, by decide +kernel⟩
def b__law_is_number : List Sl → Ro :=
  (rSeq (rIf (bOr (fAsB (f2 (fCB (fCons (rdN 0) aNil) cLenS) (vK (.int 1)) dLt)) (bOr (fAsB (f2 (fCB (fCons (rdN 0) aNil) cLenS) (vK (.int 61)) dGt)) (bAnd (fAsB (f2 (fCB (fCons (rdN 0) aNil) cLenS) (vK (.int 1)) dGt)) (fAsB (f2 (fIx (rdN 0) (vK (.int 0))) (vK (.str "0")) dEq))))) (rRet (vK (.bl false))) Ro.nx)
  (rRet (fCB (fCons (fFrz (fLc (fChars (rdN 0)) (gNm 1) tYes' (f2 (rdN 1) (vK (.str "0123456789")) (dInT false)) [1])) aNil) cAllL)))
def F__law_is_number (ds : List D) : Rf := (b__law_is_number (env0 2 ds)).fn
abbrev s__law_command : Stmt := topS 24
theorem sc__law_command : FnScope ["words", "first", "rest", "word"] ["words"] (defScope s__law_command) := ⟨rfl, rfl, rfl, by decide +kernel, rfl, by decide +kernel, by decide +kernel⟩
def b__law_command : List Sl → Ro :=
  (rSeq (rSet 1 (fIx (rdN 0) (vK (.int 0))))
  (rSeq (rSet 2 (fSl (rdN 0) (fPart (vK (.int 1))) pNo))
  (rSeq (rIf (fAsB (f2 (rdN 1) (fTup (fCons (vK (.str "answers")) (fCons (vK (.str "schemes")) (fCons (vK (.str "questions")) (fCons (vK (.str "undo")) (fCons (vK (.str "redo")) aNil)))))) (dIn false))) (rRet (f2 (fCB (fCons (rdN 2) aNil) cLen) (vK (.int 0)) dEq)) Ro.nx)
  (rSeq (rIf (fAsB (f2 (rdN 1) (fTup (fCons (vK (.str "scheme")) (fCons (vK (.str "remove")) (fCons (vK (.str "drop")) (fCons (vK (.str "answer")) (fCons (vK (.str "print")) aNil)))))) (dIn false))) (rRet (fAnd (f2 (fCB (fCons (rdN 2) aNil) cLen) (vK (.int 1)) dEq) (vCall 1 F__law_is_name (fCons (fIx (rdN 2) (vK (.int 0))) aNil)))) Ro.nx)
  (rSeq (rIf (fAsB (f2 (rdN 1) (vK (.str "list")) dEq)) (rRet (fAnd (f2 (fCB (fCons (rdN 2) aNil) cLen) (vK (.int 2)) dEq) (vCall 1 F__law_all_names (fCons (rdN 2) aNil)))) Ro.nx)
  (rSeq (rIf (fAsB (f2 (rdN 1) (vK (.str "product")) dEq)) (rRet (fAnd (f2 (fCB (fCons (rdN 2) aNil) cLen) (vK (.int 3)) dEq) (vCall 1 F__law_all_names (fCons (rdN 2) aNil)))) Ro.nx)
  (rSeq (rIf (bOr (fAsB (f2 (rdN 1) (vK (.str "ask")) dNe)) (bOr (fAsB (f2 (fCB (fCons (rdN 2) aNil) cLen) (vK (.int 3)) dLt)) (bOr (bNot (fTru (vCall 1 F__law_is_name (fCons (fIx (rdN 2) (vK (.int 0))) aNil)))) (bNot (fTru (vCall 1 F__law_is_name (fCons (fIx (rdN 2) (vK (.int 2))) aNil))))))) (rRet (vK (.bl false))) Ro.nx)
  (rSeq (rIf (bNot (fTru (fCB (fCons (fFrz (fLc (fItems (fSl (rdN 2) (fPart (vK (.int 3))) pNo)) (gNm 3) tYes' (vCall 1 F__law_is_number (fCons (rdN 3) aNil)) [3])) aNil) cAllL))) (rRet (vK (.bl false))) Ro.nx)
  (rSeq (rIf (fAsB (f2 (fIx (rdN 2) (vK (.int 1))) (fTup (fCons (vK (.str "greatest")) (fCons (vK (.str "bound")) aNil))) (dIn false))) (rRet (f2 (fCB (fCons (rdN 2) aNil) cLen) (vK (.int 9)) dLe)) Ro.nx)
  (rRet (f2 (fTup (fCons (fIx (rdN 2) (vK (.int 1))) (fCons (fCB (fCons (rdN 2) aNil) cLen) aNil))) (fTup (fCons (fTup (fCons (vK (.str "points")) (fCons (vK (.int 3)) aNil))) (fCons (fTup (fCons (vK (.str "kind")) (fCons (vK (.int 5)) aNil))) aNil))) (dInP false))))))))))))
def F__law_command (ds : List D) : Rf := (b__law_command (env0 4 ds)).fn
abbrev s__law_formed : Stmt := topS 25
theorem sc__law_formed : FnScope ["numbers", "words", "names", "figures", "many", "kind", "word", "k"] ["numbers", "words"] (defScope s__law_formed) := ⟨rfl, rfl, rfl, by decide +kernel, rfl, by decide +kernel, by decide +kernel⟩
def b__law_formed : List Sl → Ro :=
  (rSeq (rSet 2 (fFrz (fN2 (fFrz (fLc (fItems (rdN 1)) (gNm 6) (fTru (vCall 1 F__law_is_name (fCons (rdN 6) aNil))) (rdN 6) [6])) (fFrz (fLst (fCons (vK (.str "a")) (fCons (vK (.str "b")) (fCons (vK (.str "c")) aNil))))) dCat)))
  (rSeq (rSet 3 (fFrz (fN2 (fFrz (fLc (fItems (rdN 1)) (gNm 6) (fTru (vCall 1 F__law_is_number (fCons (rdN 6) aNil))) (rdN 6) [6])) (fFrz (fLst (fCons (vK (.str "0")) (fCons (vK (.str "7")) (fCons (vK (.str "12")) aNil))))) dCat)))
  (rSeq (rSet 4 (f2 (fCB (fCons (fIx (rdN 0) (vK (.int 43))) aNil) cInt) (vK (.int 8)) dMod))
  (rSeq (rSet 5 (f2 (fCB (fCons (fIx (rdN 0) (vK (.int 42))) aNil) cInt) (vK (.int 12)) dMod))
  (rSeq (rIf (fAsB (f2 (rdN 5) (vK (.int 3)) dLt)) (rRetO (fLst (fCons (fIx (fTup (fCons (vK (.str "answers")) (fCons (vK (.str "schemes")) (fCons (vK (.str "questions")) (fCons (vK (.str "undo")) (fCons (vK (.str "redo")) aNil)))))) (f2 (rdN 4) (vK (.int 5)) dMod)) aNil))) Ro.nx)
  (rSeq (rIf (fAsB (f2 (rdN 5) (vK (.int 5)) dLt)) (rRetO (fLst (fCons (fIx (fTup (fCons (vK (.str "scheme")) (fCons (vK (.str "remove")) (fCons (vK (.str "drop")) (fCons (vK (.str "answer")) (fCons (vK (.str "print")) aNil)))))) (f2 (rdN 4) (vK (.int 5)) dMod)) (fCons (fIx (rdN 2) (vK (.int 0))) aNil)))) Ro.nx)
  (rSeq (rIf (fAsB (f2 (rdN 5) (vK (.int 5)) dEq)) (rRetO (fLst (fCons (vK (.str "product")) (fCons (fIx (rdN 2) (vK (.int 0))) (fCons (fIx (rdN 2) (vK (.int 1))) (fCons (fIx (rdN 2) (vK (.int 2))) aNil)))))) Ro.nx)
  (rSeq (rIf (fAsB (f2 (rdN 5) (vK (.int 6)) dEq)) (rRetO (fLst (fCons (vK (.str "list")) (fCons (fIx (rdN 2) (vK (.int 0))) (fCons (fIx (rdN 2) (vK (.int 1))) aNil))))) Ro.nx)
  (rSeq (rIf (fAsB (f2 (rdN 5) (vK (.int 7)) dEq)) (rRetO (fLst (fCons (vK (.str "ask")) (fCons (fIx (rdN 2) (vK (.int 0))) (fCons (vK (.str "points")) (fCons (fIx (rdN 2) (vK (.int 1))) aNil)))))) Ro.nx)
  (rSeq (rIf (fAsB (f2 (rdN 5) (vK (.int 8)) dEq)) (rRetO (fLst (fCons (vK (.str "ask")) (fCons (fIx (rdN 2) (vK (.int 0))) (fCons (vK (.str "kind")) (fCons (fIx (rdN 2) (vK (.int 1))) (fCons (fIx (rdN 3) (vK (.int 0))) (fCons (fIx (rdN 3) (vK (.int 1))) aNil)))))))) Ro.nx)
  (rRetO (fN2 (fFrz (fLst (fCons (vK (.str "ask")) (fCons (fIx (rdN 2) (vK (.int 0))) (fCons (fIx (fTup (fCons (vK (.str "greatest")) (fCons (vK (.str "bound")) aNil))) (f2 (fCB (fCons (fIx (rdN 0) (vK (.int 44))) aNil) cInt) (vK (.int 2)) dMod)) (fCons (fIx (rdN 2) (vK (.int 1))) aNil)))))) (fFrz (fLc (wRng1 (fCons (rdN 4) aNil)) (gNm 7) tYes' (fIx (rdN 3) (f2 (rdN 7) (fCB (fCons (rdN 3) aNil) cLen) dMod)) [7])) dCat))))))))))))
def F__law_formed (ds : List D) : Rf := (b__law_formed (env0 8 ds)).fn
abbrev s_law : Stmt := topS 26
theorem sc_law : FnScope ["script", "numbers", "words", "text", "k", "told", "passed", "actual", "line", "place"] ["script"] (defScope s_law) := ⟨rfl, rfl, rfl, by decide +kernel, rfl, by decide +kernel, by decide +kernel⟩
def b_law : List Sl → Ro :=
  (rSeq (rSet 1 (vCall 2 F__law_numbers (fCons (rdN 0) (fCons (vK (.int 60)) aNil))))
  (rSeq (rSet 2 (fFrz (fLc (wRng1 (fCons (f2 (vK (.int 1)) (f2 (fCB (fCons (fIx (rdN 1) (vK (.int 40))) aNil) cInt) (vK (.int 10)) dMod) dAddU) aNil)) (gNm 4) tYes' (vCall 2 F__law_word (fCons (fIx (rdN 1) (f2 (vK (.int 2)) (rdN 4) dMul)) (fCons (fIx (rdN 1) (f2 (f2 (vK (.int 2)) (rdN 4) dMul) (vK (.int 1)) dAddU)) aNil))) [4])))
  (rSeq (rIf (fAsB (f2 (f2 (fCB (fCons (fIx (rdN 1) (vK (.int 41))) aNil) cInt) (vK (.int 3)) dMod) (vK (.int 0)) dGt)) (rSeq (rSetO 8 (vCallO 2 F__law_formed (fCons (rdN 1) (fCons (rdN 2) aNil))))
  (rSeq (rSet 9 (f2 (fCB (fCons (fIx (rdN 1) (vK (.int 45))) aNil) cInt) (ownLen 8) dMod))
  (rSeq (rIf (fAsB (f2 (f2 (fCB (fCons (fIx (rdN 1) (vK (.int 46))) aNil) cInt) (vK (.int 6)) dMod) (vK (.int 0)) dEq)) (rAsgM (gIt 8 (rdN 9)) (fIx (rdN 2) (vK (.int 0)))) Ro.nx)
  (rSeq (rIf (bAnd (fAsB (f2 (f2 (fCB (fCons (fIx (rdN 1) (vK (.int 46))) aNil) cInt) (vK (.int 6)) dMod) (vK (.int 1)) dEq)) (fAsB (f2 (ownLen 8) (vK (.int 1)) dGt))) (rSetO 8 (fN2 (fSl (rdN 8) pNo (fPart (rdN 9))) (fSl (rdN 8) (fPart (f2 (rdN 9) (vK (.int 1)) dAddU)) pNo) dCat)) Ro.nx)
  (rSeq (rIf (fAsB (f2 (f2 (fCB (fCons (fIx (rdN 1) (vK (.int 46))) aNil) cInt) (vK (.int 6)) dMod) (vK (.int 2)) dEq)) (rExpr (fApp 8 (fIx (rdN 2) (vK (.int 0))))) Ro.nx)
  (rSet 2 (rdN 8))))))) Ro.nx)
  (rSeq (rSet 3 (f2 (vK (.str " ")) (f2 (fCB (fCons (fIx (rdN 1) (vK (.int 47))) aNil) cInt) (vK (.int 3)) dMod) dMulS))
  (rSeq (rFor (wRng1 (fCons (fCB (fCons (rdN 2) aNil) cLen) aNil)) (gNm 4) (rSeq (rSet 3 (f2 (rdN 3) (fIx (rdN 2) (rdN 4)) dAddU))
  (rIf (fAsB (f2 (f2 (rdN 4) (vK (.int 1)) dAddU) (fCB (fCons (rdN 2) aNil) cLen) dLt)) (rSet 3 (f2 (rdN 3) (f2 (vK (.str " ")) (f2 (vK (.int 1)) (f2 (fCB (fCons (f2 (fIx (rdN 1) (vK (.int 48))) (f2 (rdN 4) (fIx (rdN 1) (vK (.int 49))) dMul) dAddU) aNil) cInt) (vK (.int 3)) dMod) dAddU) dMulS) dAddU)) Ro.nx)))
  (rSeq (rSet 3 (f2 (rdN 3) (f2 (vK (.str " ")) (f2 (fCB (fCons (fIx (rdN 1) (vK (.int 50))) aNil) cInt) (vK (.int 3)) dMod) dMulS) dAddU))
  (rSeq (rSet 5 (vCall 1 F_split_words (fCons (rdN 3) aNil)))
  (rSeq (rIf (bOr (bNot (fTru (fIsi (rdN 5) ["list"]))) (bOr (fAsB (f2 (rdN 5) (rdN 2) dNe)) (fAsB (f2 (vCall 1 F_split_words (fCons (f2 (vK (.str " ")) (f2 (fCB (fCons (fIx (rdN 1) (vK (.int 51))) aNil) cInt) (vK (.int 4)) dMod) dMulS) aNil)) (fFrz (fLst aNil)) dNe)))) (rRet (vK (.bl false))) Ro.nx)
  (rSeq (rIf (fAsB (f2 (vCall 1 F_split_words (fCons (vK (.str "a	b 	")) aNil)) (fFrz (fLst (fCons (vK (.str "a	b")) (fCons (vK (.str "	")) aNil)))) dNe)) (rRet (vK (.bl false))) Ro.nx)
  (rSeq (rSet 6 (fFrz (fNewL (fCons (rdN 2) aNil))))
  (rSeq (rSet 7 (vCall 1 F_is_command (fCons (rdN 6) aNil)))
  (rRet (fAnd (fIsi (rdN 7) ["bool"]) (fAnd (f2 (rdN 7) (vCall 1 F__law_command (fCons (rdN 2) aNil)) dEq) (f2 (rdN 6) (rdN 2) dEq)))))))))))))))
def F_law (ds : List D) : Rf := (b_law (env0 10 ds)).fn
/-- where the things of the top stand -/
structure Ad where
  f_is_name : Addr
  c_is_name : Addr
  fd_is_name : FuncData
  f_is_written_number : Addr
  c_is_written_number : Addr
  fd_is_written_number : FuncData
  f_is_question : Addr
  c_is_question : Addr
  fd_is_question : FuncData
  f_split_words : Addr
  c_split_words : Addr
  fd_split_words : FuncData
  f_is_asking : Addr
  c_is_asking : Addr
  fd_is_asking : FuncData
  f_is_command : Addr
  c_is_command : Addr
  fd_is_command : FuncData
  f__law_row : Addr
  c__law_row : Addr
  fd__law_row : FuncData
  f__law_numbers : Addr
  c__law_numbers : Addr
  fd__law_numbers : FuncData
  f__law_word : Addr
  c__law_word : Addr
  fd__law_word : FuncData
  f__law_is_name : Addr
  c__law_is_name : Addr
  fd__law_is_name : FuncData
  f__law_all_names : Addr
  c__law_all_names : Addr
  fd__law_all_names : FuncData
  f__law_is_number : Addr
  c__law_is_number : Addr
  fd__law_is_number : FuncData
  f__law_command : Addr
  c__law_command : Addr
  fd__law_command : FuncData
  f__law_formed : Addr
  c__law_formed : Addr
  fd__law_formed : FuncData
  f_law : Addr
  c_law : Addr
  fd_law : FuncData
  p_is_name : Addr
  p_is_asking : Addr
  p_is_command : Addr
  D_NUMBERS_ASKED : Addr
  D_NAMES_BEHIND : Addr
def tabs (A : Ad) : List Addr := [A.p_is_name, A.p_is_asking, A.p_is_command]
def xcs (A : Ad) (x : Str) : Option Value :=
  none
structure Tx (K : PySem.W.Frag) (mg : Str → Option Value) (base : Heap) (A : Ad) (w : World) : Prop where
  n_abs : mg "abs" = none
  n_all : mg "all" = none
  n_bool : mg "bool" = none
  n_int : mg "int" = none
  n_isinstance : mg "isinstance" = none
  n_len : mg "len" = none
  n_list : mg "list" = none
  n_max : mg "max" = none
  n_range : mg "range" = none
  g_is_name : mg "is_name" = some (.ref A.f_is_name)
  F_is_name : FunC K "is_name" "is_name" s_is_name A.f_is_name A.fd_is_name A.c_is_name
  b_is_name : L2.Binds K A.fd_is_name ["text"] []
  g_is_written_number : mg "is_written_number" = some (.ref A.f_is_written_number)
  F_is_written_number : FunP K "is_written_number" "is_written_number" s_is_written_number A.f_is_written_number A.fd_is_written_number A.c_is_written_number
  bd_is_written_number : BdK K A.fd_is_written_number ["word", "most"] 61
  g_is_question : mg "is_question" = some (.ref A.f_is_question)
  F_is_question : FunC K "is_question" "is_question" s_is_question A.f_is_question A.fd_is_question A.c_is_question
  b_is_question : L2.Binds K A.fd_is_question ["asked", "many"] []
  g_split_words : mg "split_words" = some (.ref A.f_split_words)
  F_split_words : FunC K "split_words" "split_words" s_split_words A.f_split_words A.fd_split_words A.c_split_words
  b_split_words : L2.Binds K A.fd_split_words ["line"] []
  g_is_asking : mg "is_asking" = some (.ref A.f_is_asking)
  F_is_asking : FunC K "is_asking" "is_asking" s_is_asking A.f_is_asking A.fd_is_asking A.c_is_asking
  b_is_asking : L2.Binds K A.fd_is_asking ["words"] []
  g_is_command : mg "is_command" = some (.ref A.f_is_command)
  F_is_command : FunC K "is_command" "is_command" s_is_command A.f_is_command A.fd_is_command A.c_is_command
  b_is_command : L2.Binds K A.fd_is_command ["words"] []
  g__law_row : mg "_law_row" = some (.ref A.f__law_row)
  F__law_row : FunC K "_law_row" "_law_row" s__law_row A.f__law_row A.fd__law_row A.c__law_row
  b__law_row : L2.Binds K A.fd__law_row ["cell", "many"] []
  g__law_numbers : mg "_law_numbers" = some (.ref A.f__law_numbers)
  F__law_numbers : FunC K "_law_numbers" "_law_numbers" s__law_numbers A.f__law_numbers A.fd__law_numbers A.c__law_numbers
  b__law_numbers : L2.Binds K A.fd__law_numbers ["script", "many"] []
  g__law_word : mg "_law_word" = some (.ref A.f__law_word)
  F__law_word : FunC K "_law_word" "_law_word" s__law_word A.f__law_word A.fd__law_word A.c__law_word
  b__law_word : L2.Binds K A.fd__law_word ["number", "more"] []
  g__law_is_name : mg "_law_is_name" = some (.ref A.f__law_is_name)
  F__law_is_name : FunC K "_law_is_name" "_law_is_name" s__law_is_name A.f__law_is_name A.fd__law_is_name A.c__law_is_name
  b__law_is_name : L2.Binds K A.fd__law_is_name ["word"] []
  g__law_all_names : mg "_law_all_names" = some (.ref A.f__law_all_names)
  F__law_all_names : FunC K "_law_all_names" "_law_all_names" s__law_all_names A.f__law_all_names A.fd__law_all_names A.c__law_all_names
  b__law_all_names : L2.Binds K A.fd__law_all_names ["words"] []
  g__law_is_number : mg "_law_is_number" = some (.ref A.f__law_is_number)
  F__law_is_number : FunC K "_law_is_number" "_law_is_number" s__law_is_number A.f__law_is_number A.fd__law_is_number A.c__law_is_number
  b__law_is_number : L2.Binds K A.fd__law_is_number ["word"] []
  g__law_command : mg "_law_command" = some (.ref A.f__law_command)
  F__law_command : FunC K "_law_command" "_law_command" s__law_command A.f__law_command A.fd__law_command A.c__law_command
  b__law_command : L2.Binds K A.fd__law_command ["words"] []
  g__law_formed : mg "_law_formed" = some (.ref A.f__law_formed)
  F__law_formed : FunC K "_law_formed" "_law_formed" s__law_formed A.f__law_formed A.fd__law_formed A.c__law_formed
  b__law_formed : L2.Binds K A.fd__law_formed ["numbers", "words"] []
  g_law : mg "law" = some (.ref A.f_law)
  F_law : FunC K "law" "law" s_law A.f_law A.fd_law A.c_law
  b_law : L2.Binds K A.fd_law ["script"] []
  t_is_name : GxR.TabB base mg A.c_is_name A.p_is_name
  t_is_asking : GxR.TabB base mg A.c_is_asking A.p_is_asking
  t_is_command : GxR.TabB base mg A.c_is_command A.p_is_command
  k_MOST_CHARACTERS : ∃ t, mg "MOST_CHARACTERS" = some (.int 12 t)
  k_LETTERS : ∃ t, mg "LETTERS" = some (.str "abcdefghijklmnopqrstuvwxyz" t)
  k_FIGURES : ∃ t, mg "FIGURES" = some (.str "0123456789" t)
  k_MOST_DIGITS : ∃ t, mg "MOST_DIGITS" = some (.int 61 t)
  g_NUMBERS_ASKED : mg "NUMBERS_ASKED" = some (.ref A.D_NUMBERS_ASKED)
  d_NUMBERS_ASKED : TopD K w A.D_NUMBERS_ASKED kv_NUMBERS_ASKED
  g_NAMES_BEHIND : mg "NAMES_BEHIND" = some (.ref A.D_NAMES_BEHIND)
  d_NAMES_BEHIND : TopD K w A.D_NAMES_BEHIND kv_NAMES_BEHIND
  k_WORDS_AHEAD_OF_NUMBERS : ∃ t, mg "WORDS_AHEAD_OF_NUMBERS" = some (.int 4 t)
section
variable {P : Program} {w : World} {K : PySem.W.Frag} {mg : Str → Option Value} {base : Heap} {A : Ad}
theorem tm_is_name : A.p_is_name ∈ tabs A := by unfold tabs; simp
theorem tm_is_asking : A.p_is_asking ∈ tabs A := by unfold tabs; simp
theorem tm_is_command : A.p_is_command ∈ tabs A := by unfold tabs; simp
theorem ok_is_name (T : Tx K mg base A w) : FnOk P w K mg base (CX P w) 2 A.f_is_name A.fd_is_name ["text"] (spP K (tabs A) (xcs A) 1 F_is_name) :=
  fn_pureC (k := 1) T.F_is_name sc_is_name (fun _ _ => rfl) fun Ar outer s H B E hr =>
    (qs_cons (q_if (pb_not (pb_chain od_le od_le q_int (pv_callB cd_lenS (by rfl) T.n_len (by decide +kernel) (pas_cons (pv_name (i := 0) rfl (by first | exact Or.inl rfl | exact Or.inr (Or.inl rfl) | exact Or.inr (Or.inr rfl))) qa_nil)) (q_gi (by rfl) T.k_MOST_CHARACTERS))) (pxs_one (q_ret q_bl)) pxs_nil)
  (pxs_one (q_ret (pv_and (pv_cmp od_inT (by rfl) (pv_ix (pv_name (i := 0) rfl (by first | exact Or.inl rfl | exact Or.inr (Or.inl rfl) | exact Or.inr (Or.inr rfl))) q_int) (q_gs (by rfl) T.k_LETTERS)) (pv_one (pv_all (k := 0) (own := [("character", 1)]) (hr.mono (by omega)) sc_is_name.nd (by rfl) T.n_all T.t_is_name rfl tm_is_name (show Nm ["text", "character"] (defScope s_is_name) _ _ from by (constructor <;> first | rfl | decide +kernel)) (pit_chars (pv_name (i := 0) rfl (by first | exact Or.inl rfl | exact Or.inr (Or.inl rfl) | exact Or.inr (Or.inr rfl)))) ⟨fun _ _ _ _ _ _ _ hr2 => (ptg_name (i := 1) sc_is_name.nd rfl (by first | exact Or.inl rfl | exact Or.inr rfl) (by first | exact Or.inl rfl | exact Or.inr rfl)), fun _ _ _ _ _ _ _ hr2 => qf_nil, fun _ _ _ _ _ _ _ hr2 => (pv_orT (pv_cmp od_inT (by rfl) (pv_name (i := 1) rfl (by first | exact Or.inl rfl | exact Or.inr (Or.inl rfl) | exact Or.inr (Or.inr rfl))) (q_gs (by rfl) T.k_LETTERS)) (pv_one (pv_cmp od_inT (by rfl) (pv_name (i := 1) rfl (by first | exact Or.inl rfl | exact Or.inr (Or.inl rfl) | exact Or.inr (Or.inr rfl))) (q_gs (by rfl) T.k_FIGURES))))⟩ (by decide)))))))
theorem ok_is_written_number (T : Tx K mg base A w) : FnOk P w K mg base (CX P w) 1 A.f_is_written_number A.fd_is_written_number ["word", "most"] (spP K (tabs A) (xcs A) 2 F_is_written_number) :=
  fn_pureP (k := 0) T.F_is_written_number sc_is_written_number (fun _ _ => rfl) fun Ar outer s H B E hr =>
    (qs_cons (q_if (pb_cmp (od_eq (hu64 hr)) (by rfl) (pv_name (i := 0) rfl (by first | exact Or.inl rfl | exact Or.inr (Or.inl rfl) | exact Or.inr (Or.inr rfl))) q_str) (pxs_one (q_ret q_bl)) pxs_nil)
  (pxs_one (q_ret (pv_and (pv_cmp od_le (by rfl) (pv_callB cd_lenS (by rfl) T.n_len (by decide +kernel) (pas_cons (pv_name (i := 0) rfl (by first | exact Or.inl rfl | exact Or.inr (Or.inl rfl) | exact Or.inr (Or.inr rfl))) qa_nil)) (pv_name (i := 1) rfl (by first | exact Or.inl rfl | exact Or.inr (Or.inl rfl) | exact Or.inr (Or.inr rfl)))) (pv_and (pv_isascii (pv_name (i := 0) rfl (by first | exact Or.inl rfl | exact Or.inr (Or.inl rfl) | exact Or.inr (Or.inr rfl)))) (pv_and (pv_isdigit (pv_name (i := 0) rfl (by first | exact Or.inl rfl | exact Or.inr (Or.inl rfl) | exact Or.inr (Or.inr rfl)))) (pv_one (pv_cmp (od_ne (hu64 hr)) (by rfl) (pv_ix (pv_name (i := 0) rfl (by first | exact Or.inl rfl | exact Or.inr (Or.inl rfl) | exact Or.inr (Or.inr rfl))) q_int) q_str))))))))
theorem ok_is_question (T : Tx K mg base A w) : FnOk P w K mg base (CX P w) 1 A.f_is_question A.fd_is_question ["asked", "many"] (spP K (tabs A) (xcs A) 2 F_is_question) :=
  fn_pureC (k := 0) T.F_is_question sc_is_question (fun _ _ => rfl) fun Ar outer s H B E hr =>
    (qs_cons (q_if (pb_ninC T.d_NUMBERS_ASKED (by rfl) T.g_NUMBERS_ASKED (pv_name (i := 0) rfl (by first | exact Or.inl rfl | exact Or.inr (Or.inl rfl) | exact Or.inr (Or.inr rfl)))) (pxs_one (q_ret q_bl)) pxs_nil)
  (qs_cons (px_unC rfl T.d_NUMBERS_ASKED (by rfl) T.g_NUMBERS_ASKED (pv_name (i := 0) rfl (by first | exact Or.inl rfl | exact Or.inr (Or.inl rfl) | exact Or.inr (Or.inr rfl))) (ptgs_cons (ptg_name (i := 2) sc_is_question.nd rfl (by first | exact Or.inl rfl | exact Or.inr rfl) (by first | exact Or.inl rfl | exact Or.inr rfl)) (ptgs_cons (ptg_name (i := 3) sc_is_question.nd rfl (by first | exact Or.inl rfl | exact Or.inr rfl) (by first | exact Or.inl rfl | exact Or.inr rfl)) ptgs_nil)) (by exact fun _ _ => rfl))
  (pxs_one (q_ret (pv_chain od_le od_le (pv_name (i := 2) rfl (by first | exact Or.inl rfl | exact Or.inr (Or.inl rfl) | exact Or.inr (Or.inr rfl))) (pv_name (i := 1) rfl (by first | exact Or.inl rfl | exact Or.inr (Or.inl rfl) | exact Or.inr (Or.inr rfl))) (pv_name (i := 3) rfl (by first | exact Or.inl rfl | exact Or.inr (Or.inl rfl) | exact Or.inr (Or.inr rfl))))))))
theorem ok_split_words (T : Tx K mg base A w) : FnOk P w K mg base (CX P w) 1 A.f_split_words A.fd_split_words ["line"] (spP K (tabs A) (xcs A) 1 F_split_words) :=
  fn_pureC (k := 0) T.F_split_words sc_split_words (fun _ _ => rfl) fun Ar outer s H B E hr =>
    (pxs_one (q_ret (pv_of (pn_lc (own := [("word", 1)]) rfl sc_split_words.nd (pit_seq (pv_of (pn_split (pv_name (i := 0) rfl (by first | exact Or.inl rfl | exact Or.inr (Or.inl rfl) | exact Or.inr (Or.inr rfl))) q_str))) (blkOk_by (by rfl)) (fun _ _ _ _ _ => (ptg_name (i := 1) sc_split_words.nd rfl (by first | exact Or.inl rfl | exact Or.inr rfl) (by first | exact Or.inl rfl | exact Or.inr rfl))) (fun _ _ _ _ _ => (pif_one (pb_tru (pv_name (i := 1) rfl (by first | exact Or.inl rfl | exact Or.inr (Or.inl rfl) | exact Or.inr (Or.inr rfl)))))) (fun _ _ _ _ _ => (pv_name (i := 1) rfl (by first | exact Or.inl rfl | exact Or.inr (Or.inl rfl) | exact Or.inr (Or.inr rfl)))) (by decide)))))
theorem ok_is_asking (T : Tx K mg base A w) : FnOk P w K mg base (CX P w) 3 A.f_is_asking A.fd_is_asking ["words"] (spP K (tabs A) (xcs A) 1 F_is_asking) :=
  fn_pureC (k := 2) T.F_is_asking sc_is_asking (fun _ _ => rfl) fun Ar outer s H B E hr =>
    (qs_cons (q_set (i := 1) sc_is_asking.nd rfl (pv_op od_sub (pv_callB cd_len (by rfl) T.n_len (by decide +kernel) (pas_cons (pv_name (i := 0) rfl (by first | exact Or.inl rfl | exact Or.inr (Or.inl rfl) | exact Or.inr (Or.inr rfl))) qa_nil)) (q_gi (by rfl) T.k_WORDS_AHEAD_OF_NUMBERS)))
  (qs_cons (q_if (pb_bo (pw_o (pb_cmp od_lt (by rfl) (pv_name (i := 1) rfl (by first | exact Or.inl rfl | exact Or.inr (Or.inl rfl) | exact Or.inr (Or.inr rfl))) q_int) (pw_o1 (pb_not (pb_tru (q_call (ok_is_question T) (hr.mono (by omega)) (by rfl) T.g_is_question T.F_is_question.kp T.b_is_question (passes_call (takes_of rfl rfl rfl rfl) fun _ _ _ _ h => h) (pas_cons (pv_ix (pv_name (i := 0) rfl (by first | exact Or.inl rfl | exact Or.inr (Or.inl rfl) | exact Or.inr (Or.inr rfl))) q_int) (pas_cons (pv_name (i := 1) rfl (by first | exact Or.inl rfl | exact Or.inr (Or.inl rfl) | exact Or.inr (Or.inr rfl))) qa_nil)))))))) (pxs_one (q_ret q_bl)) pxs_nil)
  (qs_cons (q_set (i := 2) sc_is_asking.nd rfl (pv_sl (pv_name (i := 0) rfl (by first | exact Or.inl rfl | exact Or.inr (Or.inl rfl) | exact Or.inr (Or.inr rfl))) (pq_yes (q_gi (by rfl) T.k_WORDS_AHEAD_OF_NUMBERS)) qq_no))
  (pxs_one (q_ret (pv_and (q_call (ok_is_name T) (hr.mono (by omega)) (by rfl) T.g_is_name T.F_is_name.kp T.b_is_name (passes_call (takes_of rfl rfl rfl rfl) fun _ _ _ _ h => h) (pas_cons (pv_ix (pv_name (i := 0) rfl (by first | exact Or.inl rfl | exact Or.inr (Or.inl rfl) | exact Or.inr (Or.inr rfl))) q_int) qa_nil)) (pv_and (q_call (ok_is_name T) (hr.mono (by omega)) (by rfl) T.g_is_name T.F_is_name.kp T.b_is_name (passes_call (takes_of rfl rfl rfl rfl) fun _ _ _ _ h => h) (pas_cons (pv_ix (pv_name (i := 0) rfl (by first | exact Or.inl rfl | exact Or.inr (Or.inl rfl) | exact Or.inr (Or.inr rfl))) q_int) qa_nil)) (pv_one (pv_all (k := 1) (own := [("number", 3)]) (hr.mono (by omega)) sc_is_asking.nd (by rfl) T.n_all T.t_is_asking rfl tm_is_asking (show Nm ["words", "many", "numbers", "number"] (defScope s_is_asking) _ _ from by (constructor <;> first | rfl | decide +kernel)) (pit_seq (pv_name (i := 2) rfl (by first | exact Or.inl rfl | exact Or.inr (Or.inl rfl) | exact Or.inr (Or.inr rfl)))) ⟨fun _ _ _ _ _ _ _ hr2 => (ptg_name (i := 3) sc_is_asking.nd rfl (by first | exact Or.inl rfl | exact Or.inr rfl) (by first | exact Or.inl rfl | exact Or.inr rfl)), fun _ _ _ _ _ _ _ hr2 => qf_nil, fun _ _ _ _ _ _ _ hr2 => (q_callD (ok_is_written_number T) (hr2.mono (by omega)) (by rfl) T.g_is_written_number T.F_is_written_number.kp T.bd_is_written_number passL (pas_cons (pv_name (i := 3) rfl (by first | exact Or.inl rfl | exact Or.inr (Or.inl rfl) | exact Or.inr (Or.inr rfl))) qa_nil))⟩ (by decide))))))))))
theorem ok_is_command (T : Tx K mg base A w) : FnOk P w K mg base (CX P w) 4 A.f_is_command A.fd_is_command ["words"] (spP K (tabs A) (xcs A) 1 F_is_command) :=
  fn_pureC (k := 3) T.F_is_command sc_is_command (fun _ _ => rfl) fun Ar outer s H B E hr =>
    (qs_cons (q_if (pb_cmp (od_eq (hu64 hr)) (by rfl) (pv_ix (pv_name (i := 0) rfl (by first | exact Or.inl rfl | exact Or.inr (Or.inl rfl) | exact Or.inr (Or.inr rfl))) q_int) q_str) (pxs_one (q_ret (q_call (ok_is_asking T) (hr.mono (by omega)) (by rfl) T.g_is_asking T.F_is_asking.kp T.b_is_asking (passes_call (takes_of rfl rfl rfl rfl) fun _ _ _ _ h => h) (pas_cons (pv_name (i := 0) rfl (by first | exact Or.inl rfl | exact Or.inr (Or.inl rfl) | exact Or.inr (Or.inr rfl))) qa_nil)))) pxs_nil)
  (pxs_one (q_ret (pv_and (pv_cmp (od_eq (hu64 hr)) (by rfl) (pv_getC T.d_NAMES_BEHIND (by rfl) T.g_NAMES_BEHIND (pv_ix (pv_name (i := 0) rfl (by first | exact Or.inl rfl | exact Or.inr (Or.inl rfl) | exact Or.inr (Or.inr rfl))) q_int)) (pv_op od_sub (pv_callB cd_len (by rfl) T.n_len (by decide +kernel) (pas_cons (pv_name (i := 0) rfl (by first | exact Or.inl rfl | exact Or.inr (Or.inl rfl) | exact Or.inr (Or.inr rfl))) qa_nil)) q_int)) (pv_one (pv_all (k := 2) (own := [("word", 1)]) (hr.mono (by omega)) sc_is_command.nd (by rfl) T.n_all T.t_is_command rfl tm_is_command (show Nm ["words", "word"] (defScope s_is_command) _ _ from by (constructor <;> first | rfl | decide +kernel)) (pit_seq (pv_sl (pv_name (i := 0) rfl (by first | exact Or.inl rfl | exact Or.inr (Or.inl rfl) | exact Or.inr (Or.inr rfl))) (pq_yes q_int) qq_no)) ⟨fun _ _ _ _ _ _ _ hr2 => (ptg_name (i := 1) sc_is_command.nd rfl (by first | exact Or.inl rfl | exact Or.inr rfl) (by first | exact Or.inl rfl | exact Or.inr rfl)), fun _ _ _ _ _ _ _ hr2 => qf_nil, fun _ _ _ _ _ _ _ hr2 => (q_call (ok_is_name T) (hr2.mono (by omega)) (by rfl) T.g_is_name T.F_is_name.kp T.b_is_name passL (pas_cons (pv_name (i := 1) rfl (by first | exact Or.inl rfl | exact Or.inr (Or.inl rfl) | exact Or.inr (Or.inr rfl))) qa_nil))⟩ (by decide)))))))
theorem ok__law_row (T : Tx K mg base A w) : FnOk P w K mg base (CX P w) 1 A.f__law_row A.fd__law_row ["cell", "many"] (spP K (tabs A) (xcs A) 2 F__law_row) :=
  fn_pureC (k := 0) T.F__law_row sc__law_row (fun _ _ => rfl) fun Ar outer s H B E hr =>
    (qs_cons (q_setO (i := 2) sc__law_row.nd rfl (pn_lst qa_nil))
  (qs_cons (q_set (i := 3) sc__law_row.nd rfl (pv_callB cd_abs (by rfl) T.n_abs (by decide +kernel) (pas_cons (pv_name (i := 0) rfl (by first | exact Or.inl rfl | exact Or.inr (Or.inl rfl) | exact Or.inr (Or.inr rfl))) qa_nil)))
  (qs_cons (q_set (i := 4) sc__law_row.nd rfl (pv_op od_mod (pv_callTy cd_int (by rfl) T.n_int (by decide +kernel) (pas_cons (pv_op od_addU (pv_op od_mul (pv_name (i := 3) rfl (by first | exact Or.inl rfl | exact Or.inr (Or.inl rfl) | exact Or.inr (Or.inr rfl))) q_int) q_int) qa_nil)) q_int))
  (qs_cons (q_for (passes_of rfl) rfl (qi_range1 (by rfl) T.n_range (pas_cons (pv_name (i := 1) rfl (by first | exact Or.inl rfl | exact Or.inr (Or.inl rfl) | exact Or.inr (Or.inr rfl))) qa_nil)) (ptg_name (i := 5) sc__law_row.nd rfl (by first | exact Or.inl rfl | exact Or.inr rfl) (by first | exact Or.inl rfl | exact Or.inr rfl)) (qs_cons (q_set (i := 4) sc__law_row.nd rfl (pv_op od_mod (pv_callTy cd_int (by rfl) T.n_int (by decide +kernel) (pas_cons (pv_op od_addU (pv_op od_mul (pv_name (i := 4) rfl (by first | exact Or.inl rfl | exact Or.inr (Or.inl rfl) | exact Or.inr (Or.inr rfl))) q_int) (pv_op od_mul q_int (pv_op od_addU (pv_name (i := 5) rfl (by first | exact Or.inl rfl | exact Or.inr (Or.inl rfl) | exact Or.inr (Or.inr rfl))) q_int))) qa_nil)) q_int))
  (pxs_one (q_if (pb_cmp od_ge (by rfl) (pv_callB cd_abs (by rfl) T.n_abs (by decide +kernel) (pas_cons (pv_name (i := 0) rfl (by first | exact Or.inl rfl | exact Or.inr (Or.inl rfl) | exact Or.inr (Or.inr rfl))) qa_nil)) (pv_op od_pow q_int q_int)) (qs_cons (q_expr (pv_app (i := 2) rfl (by first | exact Or.inl rfl | exact Or.inr (Or.inl rfl) | exact Or.inr (Or.inr rfl)) (pv_op od_mod (pv_callTy cd_int (by rfl) T.n_int (by decide +kernel) (pas_cons (pv_name (i := 3) rfl (by first | exact Or.inl rfl | exact Or.inr (Or.inl rfl) | exact Or.inr (Or.inr rfl))) qa_nil)) q_int)))
  (pxs_one (q_set (i := 3) sc__law_row.nd rfl (pv_op od_fdv (pv_name (i := 3) rfl (by first | exact Or.inl rfl | exact Or.inr (Or.inl rfl) | exact Or.inr (Or.inr rfl))) q_int)))) (pxs_one (q_expr (pv_app (i := 2) rfl (by first | exact Or.inl rfl | exact Or.inr (Or.inl rfl) | exact Or.inr (Or.inr rfl)) (pv_op od_mod (pv_callTy cd_int (by rfl) T.n_int (by decide +kernel) (pas_cons (pv_op od_fdv (pv_name (i := 4) rfl (by first | exact Or.inl rfl | exact Or.inr (Or.inl rfl) | exact Or.inr (Or.inr rfl))) q_int) qa_nil)) q_int))))))))
  (pxs_one (q_ret (pv_name (i := 2) rfl (by first | exact Or.inl rfl | exact Or.inr (Or.inl rfl) | exact Or.inr (Or.inr rfl)))))))))
theorem ok__law_numbers (T : Tx K mg base A w) : FnOk P w K mg base (CX P w) 2 A.f__law_numbers A.fd__law_numbers ["script", "many"] (spP K (tabs A) (xcs A) 2 F__law_numbers) :=
  fn_pureC (k := 1) T.F__law_numbers sc__law_numbers (fun _ _ => rfl) fun Ar outer s H B E hr =>
    (qs_cons (q_set (i := 2) sc__law_numbers.nd rfl (pv_sl (pv_name (i := 0) rfl (by first | exact Or.inl rfl | exact Or.inr (Or.inl rfl) | exact Or.inr (Or.inr rfl))) qq_no (pq_yes q_int)))
  (qs_cons (q_set (i := 3) sc__law_numbers.nd rfl (pv_op od_addU q_int (pv_op od_fdv (pv_name (i := 1) rfl (by first | exact Or.inl rfl | exact Or.inr (Or.inl rfl) | exact Or.inr (Or.inr rfl))) (pv_callB (cd_max2 rfl) (by rfl) T.n_max (by decide +kernel) (pas_cons q_int (pas_cons (pv_callB cd_len (by rfl) T.n_len (by decide +kernel) (pas_cons (pv_name (i := 2) rfl (by first | exact Or.inl rfl | exact Or.inr (Or.inl rfl) | exact Or.inr (Or.inr rfl))) qa_nil)) qa_nil))))))
  (qs_cons (q_setO (i := 4) sc__law_numbers.nd rfl (pn_lst qa_nil))
  (qs_cons (q_for (passes_of rfl) rfl (pit_seq (pv_name (i := 2) rfl (by first | exact Or.inl rfl | exact Or.inr (Or.inl rfl) | exact Or.inr (Or.inr rfl)))) (ptg_name (i := 5) sc__law_numbers.nd rfl (by first | exact Or.inl rfl | exact Or.inr rfl) (by first | exact Or.inl rfl | exact Or.inr rfl)) (pxs_one (q_for (passes_of rfl) rfl (pit_seq (q_call (ok__law_row T) (hr.mono (by omega)) (by rfl) T.g__law_row T.F__law_row.kp T.b__law_row (passes_call (takes_of rfl rfl rfl rfl) fun _ _ _ _ h => h) (pas_cons (pv_name (i := 5) rfl (by first | exact Or.inl rfl | exact Or.inr (Or.inl rfl) | exact Or.inr (Or.inr rfl))) (pas_cons (pv_name (i := 3) rfl (by first | exact Or.inl rfl | exact Or.inr (Or.inl rfl) | exact Or.inr (Or.inr rfl))) qa_nil)))) (ptg_name (i := 6) sc__law_numbers.nd rfl (by first | exact Or.inl rfl | exact Or.inr rfl) (by first | exact Or.inl rfl | exact Or.inr rfl)) (pxs_one (q_expr (pv_app (i := 4) rfl (by first | exact Or.inl rfl | exact Or.inr (Or.inl rfl) | exact Or.inr (Or.inr rfl)) (pv_name (i := 6) rfl (by first | exact Or.inl rfl | exact Or.inr (Or.inl rfl) | exact Or.inr (Or.inr rfl)))))))))
  (qs_cons (px_while fuel (passes_of rfl) (pb_cmp od_lt (by rfl) (pv_lenN (i := 4) rfl (by first | exact Or.inl rfl | exact Or.inr (Or.inl rfl) | exact Or.inr (Or.inr rfl)) (by rfl) T.n_len) (pv_name (i := 1) rfl (by first | exact Or.inl rfl | exact Or.inr (Or.inl rfl) | exact Or.inr (Or.inr rfl)))) (pxs_one (q_expr (pv_app (i := 4) rfl (by first | exact Or.inl rfl | exact Or.inr (Or.inl rfl) | exact Or.inr (Or.inr rfl)) q_int))))
  (pxs_one (q_ret (pv_sl (pv_name (i := 4) rfl (by first | exact Or.inl rfl | exact Or.inr (Or.inl rfl) | exact Or.inr (Or.inr rfl))) qq_no (pq_yes (pv_name (i := 1) rfl (by first | exact Or.inl rfl | exact Or.inr (Or.inl rfl) | exact Or.inr (Or.inr rfl))))))))))))
theorem ok__law_word (T : Tx K mg base A w) : FnOk P w K mg base (CX P w) 1 A.f__law_word A.fd__law_word ["number", "more"] (spP K (tabs A) (xcs A) 2 F__law_word) :=
  fn_pureC (k := 0) T.F__law_word sc__law_word (fun _ _ => rfl) fun Ar outer s H B E hr =>
    (qs_cons (q_set (i := 2) sc__law_word.nd rfl (pv_tup (pas_cons q_str (pas_cons q_str (pas_cons q_str (pas_cons q_str (pas_cons q_str (pas_cons q_str (pas_cons q_str (pas_cons q_str (pas_cons q_str (pas_cons q_str (pas_cons q_str (pas_cons q_str qa_nil))))))))))))))
  (qs_cons (q_set (i := 2) sc__law_word.nd rfl (pv_op od_catT (pv_name (i := 2) rfl (by first | exact Or.inl rfl | exact Or.inr (Or.inl rfl) | exact Or.inr (Or.inr rfl))) (pv_tup (pas_cons q_str (pas_cons q_str (pas_cons q_str (pas_cons q_str (pas_cons q_str (pas_cons q_str (pas_cons q_str (pas_cons q_str qa_nil)))))))))))
  (qs_cons (q_set (i := 3) sc__law_word.nd rfl q_str)
  (qs_cons (q_if (pb_cmp (od_eq (hu64 hr)) (by rfl) (pv_op od_mod (pv_callTy cd_int (by rfl) T.n_int (by decide +kernel) (pas_cons (pv_name (i := 0) rfl (by first | exact Or.inl rfl | exact Or.inr (Or.inl rfl) | exact Or.inr (Or.inr rfl))) qa_nil)) q_int) q_int) (pxs_one (q_ret (pv_ix (pv_name (i := 2) rfl (by first | exact Or.inl rfl | exact Or.inr (Or.inl rfl) | exact Or.inr (Or.inr rfl))) (pv_op od_mod (pv_callTy cd_int (by rfl) T.n_int (by decide +kernel) (pas_cons (pv_op od_fdv (pv_name (i := 0) rfl (by first | exact Or.inl rfl | exact Or.inr (Or.inl rfl) | exact Or.inr (Or.inr rfl))) q_int) qa_nil)) q_int)))) pxs_nil)
  (qs_cons (q_set (i := 4) sc__law_word.nd rfl (pv_op od_mod (pv_callTy cd_int (by rfl) T.n_int (by decide +kernel) (pas_cons (pv_op od_fdv (pv_name (i := 0) rfl (by first | exact Or.inl rfl | exact Or.inr (Or.inl rfl) | exact Or.inr (Or.inr rfl))) q_int) qa_nil)) q_int))
  (qs_cons (q_if (pb_cmp (od_eq (hu64 hr)) (by rfl) (pv_op od_mod (pv_callTy cd_int (by rfl) T.n_int (by decide +kernel) (pas_cons (pv_name (i := 0) rfl (by first | exact Or.inl rfl | exact Or.inr (Or.inl rfl) | exact Or.inr (Or.inr rfl))) qa_nil)) q_int) q_int) (qs_cons (q_set (i := 6) sc__law_word.nd rfl (pv_op od_addU (pv_op od_addU q_int (pv_name (i := 4) rfl (by first | exact Or.inl rfl | exact Or.inr (Or.inl rfl) | exact Or.inr (Or.inr rfl)))) (pv_op od_mul q_int (pv_callTy cd_int (by rfl) T.n_int (by decide +kernel) (pas_cons (pv_cmp (od_eq (hu64 hr)) (by rfl) (pv_op od_mod (pv_callTy cd_int (by rfl) T.n_int (by decide +kernel) (pas_cons (pv_name (i := 1) rfl (by first | exact Or.inl rfl | exact Or.inr (Or.inl rfl) | exact Or.inr (Or.inr rfl))) qa_nil)) q_int) q_int) qa_nil)))))
  (qs_cons (q_set (i := 7) sc__law_word.nd rfl (q_join q_str (pv_of (pn_lc (own := [("k", 8)]) rfl sc__law_word.nd (qi_range1 (by rfl) T.n_range (pas_cons (pv_name (i := 6) rfl (by first | exact Or.inl rfl | exact Or.inr (Or.inl rfl) | exact Or.inr (Or.inr rfl))) qa_nil)) (blkOk_by (by rfl)) (fun _ _ _ _ _ => (ptg_name (i := 8) sc__law_word.nd rfl (by first | exact Or.inl rfl | exact Or.inr rfl) (by first | exact Or.inl rfl | exact Or.inr rfl))) (fun _ _ _ _ _ => qf_nil) (fun _ _ _ _ _ => (pv_ix (pv_name (i := 3) rfl (by first | exact Or.inl rfl | exact Or.inr (Or.inl rfl) | exact Or.inr (Or.inr rfl))) (pv_op od_addU q_int (pv_op od_mod (pv_callTy cd_int (by rfl) T.n_int (by decide +kernel) (pas_cons (pv_op od_addU (pv_op od_addU (pv_name (i := 1) rfl (by first | exact Or.inl rfl | exact Or.inr (Or.inl rfl) | exact Or.inr (Or.inr rfl))) (pv_op od_mul (pv_op od_mul (pv_name (i := 8) rfl (by first | exact Or.inl rfl | exact Or.inr (Or.inl rfl) | exact Or.inr (Or.inr rfl))) (pv_name (i := 8) rfl (by first | exact Or.inl rfl | exact Or.inr (Or.inl rfl) | exact Or.inr (Or.inr rfl)))) q_int)) (pv_op od_fdv (pv_name (i := 0) rfl (by first | exact Or.inl rfl | exact Or.inr (Or.inl rfl) | exact Or.inr (Or.inr rfl))) q_int)) qa_nil)) q_int)))) (by decide)))))
  (pxs_one (q_ret (pv_op od_addU (pv_ix (pv_tup (pas_cons q_str (pas_cons q_str (pas_cons q_str (pas_cons q_str qa_nil))))) (pv_op od_mod (pv_callTy cd_int (by rfl) T.n_int (by decide +kernel) (pas_cons (pv_name (i := 1) rfl (by first | exact Or.inl rfl | exact Or.inr (Or.inl rfl) | exact Or.inr (Or.inr rfl))) qa_nil)) q_int)) (pv_name (i := 7) rfl (by first | exact Or.inl rfl | exact Or.inr (Or.inl rfl) | exact Or.inr (Or.inr rfl)))))))) pxs_nil)
  (qs_cons (q_set (i := 5) sc__law_word.nd rfl (pv_op od_addU (pv_ix (pv_name (i := 3) rfl (by first | exact Or.inl rfl | exact Or.inr (Or.inl rfl) | exact Or.inr (Or.inr rfl))) (pv_op od_mod (pv_callTy cd_int (by rfl) T.n_int (by decide +kernel) (pas_cons (pv_name (i := 1) rfl (by first | exact Or.inl rfl | exact Or.inr (Or.inl rfl) | exact Or.inr (Or.inr rfl))) qa_nil)) q_int)) (q_join q_str (pv_of (pn_lc (own := [("k", 8)]) rfl sc__law_word.nd (qi_range1 (by rfl) T.n_range (pas_cons (pv_op od_mul (pv_name (i := 4) rfl (by first | exact Or.inl rfl | exact Or.inr (Or.inl rfl) | exact Or.inr (Or.inr rfl))) q_int) qa_nil)) (blkOk_by (by rfl)) (fun _ _ _ _ _ => (ptg_name (i := 8) sc__law_word.nd rfl (by first | exact Or.inl rfl | exact Or.inr rfl) (by first | exact Or.inl rfl | exact Or.inr rfl))) (fun _ _ _ _ _ => qf_nil) (fun _ _ _ _ _ => (pv_ix (pv_name (i := 3) rfl (by first | exact Or.inl rfl | exact Or.inr (Or.inl rfl) | exact Or.inr (Or.inr rfl))) (pv_op od_mod (pv_callTy cd_int (by rfl) T.n_int (by decide +kernel) (pas_cons (pv_op od_addU (pv_op od_addU (pv_name (i := 1) rfl (by first | exact Or.inl rfl | exact Or.inr (Or.inl rfl) | exact Or.inr (Or.inr rfl))) (pv_op od_mul (pv_op od_mul q_int (pv_name (i := 8) rfl (by first | exact Or.inl rfl | exact Or.inr (Or.inl rfl) | exact Or.inr (Or.inr rfl)))) (pv_name (i := 0) rfl (by first | exact Or.inl rfl | exact Or.inr (Or.inl rfl) | exact Or.inr (Or.inr rfl))))) (pv_name (i := 8) rfl (by first | exact Or.inl rfl | exact Or.inr (Or.inl rfl) | exact Or.inr (Or.inr rfl)))) qa_nil)) q_int))) (by decide))))))
  (qs_cons (q_if (pb_cmp (od_eq (hu64 hr)) (by rfl) (pv_op od_mod (pv_callTy cd_int (by rfl) T.n_int (by decide +kernel) (pas_cons (pv_name (i := 1) rfl (by first | exact Or.inl rfl | exact Or.inr (Or.inl rfl) | exact Or.inr (Or.inr rfl))) qa_nil)) q_int) q_int) (pxs_one (q_ret (pv_op od_addU (pv_op od_addU (pv_slS (pv_name (i := 5) rfl (by first | exact Or.inl rfl | exact Or.inr (Or.inl rfl) | exact Or.inr (Or.inr rfl))) qq_no (pq_yes q_int)) q_str) (pv_slS (pv_name (i := 5) rfl (by first | exact Or.inl rfl | exact Or.inr (Or.inl rfl) | exact Or.inr (Or.inr rfl))) (pq_yes q_int) qq_no)))) pxs_nil)
  (pxs_one (q_ret (pv_name (i := 5) rfl (by first | exact Or.inl rfl | exact Or.inr (Or.inl rfl) | exact Or.inr (Or.inr rfl)))))))))))))
theorem ok__law_is_name (T : Tx K mg base A w) : FnOk P w K mg base (CX P w) 1 A.f__law_is_name A.fd__law_is_name ["word"] (spP K (tabs A) (xcs A) 1 F__law_is_name) :=
  fn_pureC (k := 0) T.F__law_is_name sc__law_is_name (fun _ _ => rfl) fun Ar outer s H B E hr =>
    (qs_cons (q_if (pb_bo (pw_o (pb_cmp od_lt (by rfl) (pv_callB cd_lenS (by rfl) T.n_len (by decide +kernel) (pas_cons (pv_name (i := 0) rfl (by first | exact Or.inl rfl | exact Or.inr (Or.inl rfl) | exact Or.inr (Or.inr rfl))) qa_nil)) q_int) (pw_o (pb_cmp od_gt (by rfl) (pv_callB cd_lenS (by rfl) T.n_len (by decide +kernel) (pas_cons (pv_name (i := 0) rfl (by first | exact Or.inl rfl | exact Or.inr (Or.inl rfl) | exact Or.inr (Or.inr rfl))) qa_nil)) q_int) (pw_o1 (pb_cmp od_notInT (by rfl) (pv_ix (pv_name (i := 0) rfl (by first | exact Or.inl rfl | exact Or.inr (Or.inl rfl) | exact Or.inr (Or.inr rfl))) q_int) q_str))))) (pxs_one (q_ret q_bl)) pxs_nil)
  (pxs_one (q_ret (pv_callB (cd_allL rfl) (by rfl) T.n_all (by decide +kernel) (pas_cons (pv_of (pn_lc (own := [("char", 1)]) rfl sc__law_is_name.nd (pit_chars (pv_name (i := 0) rfl (by first | exact Or.inl rfl | exact Or.inr (Or.inl rfl) | exact Or.inr (Or.inr rfl)))) (blkOk_by (by rfl)) (fun _ _ _ _ _ => (ptg_name (i := 1) sc__law_is_name.nd rfl (by first | exact Or.inl rfl | exact Or.inr rfl) (by first | exact Or.inl rfl | exact Or.inr rfl))) (fun _ _ _ _ _ => qf_nil) (fun _ _ _ _ _ => (pv_cmp od_inT (by rfl) (pv_name (i := 1) rfl (by first | exact Or.inl rfl | exact Or.inr (Or.inl rfl) | exact Or.inr (Or.inr rfl))) q_str)) (by decide))) qa_nil)))))
theorem ok__law_all_names (T : Tx K mg base A w) : FnOk P w K mg base (CX P w) 2 A.f__law_all_names A.fd__law_all_names ["words"] (spP K (tabs A) (xcs A) 1 F__law_all_names) :=
  fn_pureC (k := 1) T.F__law_all_names sc__law_all_names (fun _ _ => rfl) fun Ar outer s H B E hr =>
    (pxs_one (q_ret (pv_callB (cd_allL rfl) (by rfl) T.n_all (by decide +kernel) (pas_cons (pv_of (pn_lc (own := [("word", 1)]) rfl sc__law_all_names.nd (pit_seq (pv_name (i := 0) rfl (by first | exact Or.inl rfl | exact Or.inr (Or.inl rfl) | exact Or.inr (Or.inr rfl)))) (blkOk_by (by rfl)) (fun _ _ _ _ _ => (ptg_name (i := 1) sc__law_all_names.nd rfl (by first | exact Or.inl rfl | exact Or.inr rfl) (by first | exact Or.inl rfl | exact Or.inr rfl))) (fun _ _ _ _ _ => qf_nil) (fun _ _ _ _ _ => (q_call (ok__law_is_name T) (hr.mono (by omega)) (by rfl) T.g__law_is_name T.F__law_is_name.kp T.b__law_is_name passL (pas_cons (pv_name (i := 1) rfl (by first | exact Or.inl rfl | exact Or.inr (Or.inl rfl) | exact Or.inr (Or.inr rfl))) qa_nil))) (by decide))) qa_nil))))
theorem ok__law_is_number (T : Tx K mg base A w) : FnOk P w K mg base (CX P w) 1 A.f__law_is_number A.fd__law_is_number ["word"] (spP K (tabs A) (xcs A) 1 F__law_is_number) :=
  fn_pureC (k := 0) T.F__law_is_number sc__law_is_number (fun _ _ => rfl) fun Ar outer s H B E hr =>
    (qs_cons (q_if (pb_bo (pw_o (pb_cmp od_lt (by rfl) (pv_callB cd_lenS (by rfl) T.n_len (by decide +kernel) (pas_cons (pv_name (i := 0) rfl (by first | exact Or.inl rfl | exact Or.inr (Or.inl rfl) | exact Or.inr (Or.inr rfl))) qa_nil)) q_int) (pw_o (pb_cmp od_gt (by rfl) (pv_callB cd_lenS (by rfl) T.n_len (by decide +kernel) (pas_cons (pv_name (i := 0) rfl (by first | exact Or.inl rfl | exact Or.inr (Or.inl rfl) | exact Or.inr (Or.inr rfl))) qa_nil)) q_int) (pw_o1 (pb_bo (pw_a (pb_cmp od_gt (by rfl) (pv_callB cd_lenS (by rfl) T.n_len (by decide +kernel) (pas_cons (pv_name (i := 0) rfl (by first | exact Or.inl rfl | exact Or.inr (Or.inl rfl) | exact Or.inr (Or.inr rfl))) qa_nil)) q_int) (pw_a1 (pb_cmp (od_eq (hu64 hr)) (by rfl) (pv_ix (pv_name (i := 0) rfl (by first | exact Or.inl rfl | exact Or.inr (Or.inl rfl) | exact Or.inr (Or.inr rfl))) q_int) q_str)))))))) (pxs_one (q_ret q_bl)) pxs_nil)
  (pxs_one (q_ret (pv_callB (cd_allL rfl) (by rfl) T.n_all (by decide +kernel) (pas_cons (pv_of (pn_lc (own := [("char", 1)]) rfl sc__law_is_number.nd (pit_chars (pv_name (i := 0) rfl (by first | exact Or.inl rfl | exact Or.inr (Or.inl rfl) | exact Or.inr (Or.inr rfl)))) (blkOk_by (by rfl)) (fun _ _ _ _ _ => (ptg_name (i := 1) sc__law_is_number.nd rfl (by first | exact Or.inl rfl | exact Or.inr rfl) (by first | exact Or.inl rfl | exact Or.inr rfl))) (fun _ _ _ _ _ => qf_nil) (fun _ _ _ _ _ => (pv_cmp od_inT (by rfl) (pv_name (i := 1) rfl (by first | exact Or.inl rfl | exact Or.inr (Or.inl rfl) | exact Or.inr (Or.inr rfl))) q_str)) (by decide))) qa_nil)))))
theorem ok__law_command (T : Tx K mg base A w) : FnOk P w K mg base (CX P w) 3 A.f__law_command A.fd__law_command ["words"] (spP K (tabs A) (xcs A) 1 F__law_command) :=
  fn_pureC (k := 2) T.F__law_command sc__law_command (fun _ _ => rfl) fun Ar outer s H B E hr =>
    (qs_cons (q_set (i := 1) sc__law_command.nd rfl (pv_ix (pv_name (i := 0) rfl (by first | exact Or.inl rfl | exact Or.inr (Or.inl rfl) | exact Or.inr (Or.inr rfl))) q_int))
  (qs_cons (q_set (i := 2) sc__law_command.nd rfl (pv_sl (pv_name (i := 0) rfl (by first | exact Or.inl rfl | exact Or.inr (Or.inl rfl) | exact Or.inr (Or.inr rfl))) (pq_yes q_int) qq_no))
  (qs_cons (q_if (pb_cmp od_in (by rfl) (pv_name (i := 1) rfl (by first | exact Or.inl rfl | exact Or.inr (Or.inl rfl) | exact Or.inr (Or.inr rfl))) (pv_tup (pas_cons q_str (pas_cons q_str (pas_cons q_str (pas_cons q_str (pas_cons q_str qa_nil))))))) (pxs_one (q_ret (pv_cmp (od_eq (hu64 hr)) (by rfl) (pv_callB cd_len (by rfl) T.n_len (by decide +kernel) (pas_cons (pv_name (i := 2) rfl (by first | exact Or.inl rfl | exact Or.inr (Or.inl rfl) | exact Or.inr (Or.inr rfl))) qa_nil)) q_int))) pxs_nil)
  (qs_cons (q_if (pb_cmp od_in (by rfl) (pv_name (i := 1) rfl (by first | exact Or.inl rfl | exact Or.inr (Or.inl rfl) | exact Or.inr (Or.inr rfl))) (pv_tup (pas_cons q_str (pas_cons q_str (pas_cons q_str (pas_cons q_str (pas_cons q_str qa_nil))))))) (pxs_one (q_ret (pv_and (pv_cmp (od_eq (hu64 hr)) (by rfl) (pv_callB cd_len (by rfl) T.n_len (by decide +kernel) (pas_cons (pv_name (i := 2) rfl (by first | exact Or.inl rfl | exact Or.inr (Or.inl rfl) | exact Or.inr (Or.inr rfl))) qa_nil)) q_int) (pv_one (q_call (ok__law_is_name T) (hr.mono (by omega)) (by rfl) T.g__law_is_name T.F__law_is_name.kp T.b__law_is_name (passes_call (takes_of rfl rfl rfl rfl) fun _ _ _ _ h => h) (pas_cons (pv_ix (pv_name (i := 2) rfl (by first | exact Or.inl rfl | exact Or.inr (Or.inl rfl) | exact Or.inr (Or.inr rfl))) q_int) qa_nil)))))) pxs_nil)
  (qs_cons (q_if (pb_cmp (od_eq (hu64 hr)) (by rfl) (pv_name (i := 1) rfl (by first | exact Or.inl rfl | exact Or.inr (Or.inl rfl) | exact Or.inr (Or.inr rfl))) q_str) (pxs_one (q_ret (pv_and (pv_cmp (od_eq (hu64 hr)) (by rfl) (pv_callB cd_len (by rfl) T.n_len (by decide +kernel) (pas_cons (pv_name (i := 2) rfl (by first | exact Or.inl rfl | exact Or.inr (Or.inl rfl) | exact Or.inr (Or.inr rfl))) qa_nil)) q_int) (pv_one (q_call (ok__law_all_names T) (hr.mono (by omega)) (by rfl) T.g__law_all_names T.F__law_all_names.kp T.b__law_all_names (passes_call (takes_of rfl rfl rfl rfl) fun _ _ _ _ h => h) (pas_cons (pv_name (i := 2) rfl (by first | exact Or.inl rfl | exact Or.inr (Or.inl rfl) | exact Or.inr (Or.inr rfl))) qa_nil)))))) pxs_nil)
  (qs_cons (q_if (pb_cmp (od_eq (hu64 hr)) (by rfl) (pv_name (i := 1) rfl (by first | exact Or.inl rfl | exact Or.inr (Or.inl rfl) | exact Or.inr (Or.inr rfl))) q_str) (pxs_one (q_ret (pv_and (pv_cmp (od_eq (hu64 hr)) (by rfl) (pv_callB cd_len (by rfl) T.n_len (by decide +kernel) (pas_cons (pv_name (i := 2) rfl (by first | exact Or.inl rfl | exact Or.inr (Or.inl rfl) | exact Or.inr (Or.inr rfl))) qa_nil)) q_int) (pv_one (q_call (ok__law_all_names T) (hr.mono (by omega)) (by rfl) T.g__law_all_names T.F__law_all_names.kp T.b__law_all_names (passes_call (takes_of rfl rfl rfl rfl) fun _ _ _ _ h => h) (pas_cons (pv_name (i := 2) rfl (by first | exact Or.inl rfl | exact Or.inr (Or.inl rfl) | exact Or.inr (Or.inr rfl))) qa_nil)))))) pxs_nil)
  (qs_cons (q_if (pb_bo (pw_o (pb_cmp (od_ne (hu64 hr)) (by rfl) (pv_name (i := 1) rfl (by first | exact Or.inl rfl | exact Or.inr (Or.inl rfl) | exact Or.inr (Or.inr rfl))) q_str) (pw_o (pb_cmp od_lt (by rfl) (pv_callB cd_len (by rfl) T.n_len (by decide +kernel) (pas_cons (pv_name (i := 2) rfl (by first | exact Or.inl rfl | exact Or.inr (Or.inl rfl) | exact Or.inr (Or.inr rfl))) qa_nil)) q_int) (pw_o (pb_not (pb_tru (q_call (ok__law_is_name T) (hr.mono (by omega)) (by rfl) T.g__law_is_name T.F__law_is_name.kp T.b__law_is_name (passes_call (takes_of rfl rfl rfl rfl) fun _ _ _ _ h => h) (pas_cons (pv_ix (pv_name (i := 2) rfl (by first | exact Or.inl rfl | exact Or.inr (Or.inl rfl) | exact Or.inr (Or.inr rfl))) q_int) qa_nil)))) (pw_o1 (pb_not (pb_tru (q_call (ok__law_is_name T) (hr.mono (by omega)) (by rfl) T.g__law_is_name T.F__law_is_name.kp T.b__law_is_name (passes_call (takes_of rfl rfl rfl rfl) fun _ _ _ _ h => h) (pas_cons (pv_ix (pv_name (i := 2) rfl (by first | exact Or.inl rfl | exact Or.inr (Or.inl rfl) | exact Or.inr (Or.inr rfl))) q_int) qa_nil))))))))) (pxs_one (q_ret q_bl)) pxs_nil)
  (qs_cons (q_if (pb_not (pb_tru (pv_callB (cd_allL rfl) (by rfl) T.n_all (by decide +kernel) (pas_cons (pv_of (pn_lc (own := [("word", 3)]) rfl sc__law_command.nd (pit_seq (pv_sl (pv_name (i := 2) rfl (by first | exact Or.inl rfl | exact Or.inr (Or.inl rfl) | exact Or.inr (Or.inr rfl))) (pq_yes q_int) qq_no)) (blkOk_by (by rfl)) (fun _ _ _ _ _ => (ptg_name (i := 3) sc__law_command.nd rfl (by first | exact Or.inl rfl | exact Or.inr rfl) (by first | exact Or.inl rfl | exact Or.inr rfl))) (fun _ _ _ _ _ => qf_nil) (fun _ _ _ _ _ => (q_call (ok__law_is_number T) (hr.mono (by omega)) (by rfl) T.g__law_is_number T.F__law_is_number.kp T.b__law_is_number passL (pas_cons (pv_name (i := 3) rfl (by first | exact Or.inl rfl | exact Or.inr (Or.inl rfl) | exact Or.inr (Or.inr rfl))) qa_nil))) (by decide))) qa_nil)))) (pxs_one (q_ret q_bl)) pxs_nil)
  (qs_cons (q_if (pb_cmp od_in (by rfl) (pv_ix (pv_name (i := 2) rfl (by first | exact Or.inl rfl | exact Or.inr (Or.inl rfl) | exact Or.inr (Or.inr rfl))) q_int) (pv_tup (pas_cons q_str (pas_cons q_str qa_nil)))) (pxs_one (q_ret (pv_cmp od_le (by rfl) (pv_callB cd_len (by rfl) T.n_len (by decide +kernel) (pas_cons (pv_name (i := 2) rfl (by first | exact Or.inl rfl | exact Or.inr (Or.inl rfl) | exact Or.inr (Or.inr rfl))) qa_nil)) q_int))) pxs_nil)
  (pxs_one (q_ret (pv_cmp (od_inP (hu65 hr)) (by rfl) (pv_tup (pas_cons (pv_ix (pv_name (i := 2) rfl (by first | exact Or.inl rfl | exact Or.inr (Or.inl rfl) | exact Or.inr (Or.inr rfl))) q_int) (pas_cons (pv_callB cd_len (by rfl) T.n_len (by decide +kernel) (pas_cons (pv_name (i := 2) rfl (by first | exact Or.inl rfl | exact Or.inr (Or.inl rfl) | exact Or.inr (Or.inr rfl))) qa_nil)) qa_nil))) (pv_tup (pas_cons (pv_tup (pas_cons q_str (pas_cons q_int qa_nil))) (pas_cons (pv_tup (pas_cons q_str (pas_cons q_int qa_nil))) qa_nil)))))))))))))))
theorem ok__law_formed (T : Tx K mg base A w) : FnOk P w K mg base (CX P w) 2 A.f__law_formed A.fd__law_formed ["numbers", "words"] (spN K (tabs A) (xcs A) 2 F__law_formed) :=
  fn_own (k := 1) T.F__law_formed sc__law_formed (fun _ _ => rfl) (rSeq_nn (rSeq_nn (rSeq_nn (rSeq_nn (rSeq_nn (rSeq_nn (rSeq_nn (rSeq_nn (rSeq_nn (rSeq_nn rRetO_nn)))))))))) fun Ar outer s H B E hr =>
    (qo_cons (qo_of (q_set (i := 2) sc__law_formed.nd rfl (pv_of (pn_op on_cat (pv_of (pn_lc (own := [("word", 6)]) rfl sc__law_formed.nd (pit_seq (pv_name (i := 1) rfl (by first | exact Or.inl rfl | exact Or.inr (Or.inl rfl) | exact Or.inr (Or.inr rfl)))) (blkOk_by (by rfl)) (fun _ _ _ _ _ => (ptg_name (i := 6) sc__law_formed.nd rfl (by first | exact Or.inl rfl | exact Or.inr rfl) (by first | exact Or.inl rfl | exact Or.inr rfl))) (fun _ _ _ _ _ => (pif_one (pb_tru (q_call (ok__law_is_name T) (hr.mono (by omega)) (by rfl) T.g__law_is_name T.F__law_is_name.kp T.b__law_is_name passL (pas_cons (pv_name (i := 6) rfl (by first | exact Or.inl rfl | exact Or.inr (Or.inl rfl) | exact Or.inr (Or.inr rfl))) qa_nil))))) (fun _ _ _ _ _ => (pv_name (i := 6) rfl (by first | exact Or.inl rfl | exact Or.inr (Or.inl rfl) | exact Or.inr (Or.inr rfl)))) (by decide))) (pv_of (pn_lst (pas_cons q_str (pas_cons q_str (pas_cons q_str qa_nil)))))))) rSet_nr)
  (qo_cons (qo_of (q_set (i := 3) sc__law_formed.nd rfl (pv_of (pn_op on_cat (pv_of (pn_lc (own := [("word", 6)]) rfl sc__law_formed.nd (pit_seq (pv_name (i := 1) rfl (by first | exact Or.inl rfl | exact Or.inr (Or.inl rfl) | exact Or.inr (Or.inr rfl)))) (blkOk_by (by rfl)) (fun _ _ _ _ _ => (ptg_name (i := 6) sc__law_formed.nd rfl (by first | exact Or.inl rfl | exact Or.inr rfl) (by first | exact Or.inl rfl | exact Or.inr rfl))) (fun _ _ _ _ _ => (pif_one (pb_tru (q_call (ok__law_is_number T) (hr.mono (by omega)) (by rfl) T.g__law_is_number T.F__law_is_number.kp T.b__law_is_number passL (pas_cons (pv_name (i := 6) rfl (by first | exact Or.inl rfl | exact Or.inr (Or.inl rfl) | exact Or.inr (Or.inr rfl))) qa_nil))))) (fun _ _ _ _ _ => (pv_name (i := 6) rfl (by first | exact Or.inl rfl | exact Or.inr (Or.inl rfl) | exact Or.inr (Or.inr rfl)))) (by decide))) (pv_of (pn_lst (pas_cons q_str (pas_cons q_str (pas_cons q_str qa_nil)))))))) rSet_nr)
  (qo_cons (qo_of (q_set (i := 4) sc__law_formed.nd rfl (pv_op od_mod (pv_callTy cd_int (by rfl) T.n_int (by decide +kernel) (pas_cons (pv_ix (pv_name (i := 0) rfl (by first | exact Or.inl rfl | exact Or.inr (Or.inl rfl) | exact Or.inr (Or.inr rfl))) q_int) qa_nil)) q_int)) rSet_nr)
  (qo_cons (qo_of (q_set (i := 5) sc__law_formed.nd rfl (pv_op od_mod (pv_callTy cd_int (by rfl) T.n_int (by decide +kernel) (pas_cons (pv_ix (pv_name (i := 0) rfl (by first | exact Or.inl rfl | exact Or.inr (Or.inl rfl) | exact Or.inr (Or.inr rfl))) q_int) qa_nil)) q_int)) rSet_nr)
  (qo_cons (qo_if (pb_cmp od_lt (by rfl) (pv_name (i := 5) rfl (by first | exact Or.inl rfl | exact Or.inr (Or.inl rfl) | exact Or.inr (Or.inr rfl))) q_int) (qo_one (qo_ret (pn_lst (pas_cons (pv_ix (pv_tup (pas_cons q_str (pas_cons q_str (pas_cons q_str (pas_cons q_str (pas_cons q_str qa_nil)))))) (pv_op od_mod (pv_name (i := 4) rfl (by first | exact Or.inl rfl | exact Or.inr (Or.inl rfl) | exact Or.inr (Or.inr rfl))) q_int)) qa_nil)))) qo_nil)
  (qo_cons (qo_if (pb_cmp od_lt (by rfl) (pv_name (i := 5) rfl (by first | exact Or.inl rfl | exact Or.inr (Or.inl rfl) | exact Or.inr (Or.inr rfl))) q_int) (qo_one (qo_ret (pn_lst (pas_cons (pv_ix (pv_tup (pas_cons q_str (pas_cons q_str (pas_cons q_str (pas_cons q_str (pas_cons q_str qa_nil)))))) (pv_op od_mod (pv_name (i := 4) rfl (by first | exact Or.inl rfl | exact Or.inr (Or.inl rfl) | exact Or.inr (Or.inr rfl))) q_int)) (pas_cons (pv_ix (pv_name (i := 2) rfl (by first | exact Or.inl rfl | exact Or.inr (Or.inl rfl) | exact Or.inr (Or.inr rfl))) q_int) qa_nil))))) qo_nil)
  (qo_cons (qo_if (pb_cmp (od_eq (hu64 hr)) (by rfl) (pv_name (i := 5) rfl (by first | exact Or.inl rfl | exact Or.inr (Or.inl rfl) | exact Or.inr (Or.inr rfl))) q_int) (qo_one (qo_ret (pn_lst (pas_cons q_str (pas_cons (pv_ix (pv_name (i := 2) rfl (by first | exact Or.inl rfl | exact Or.inr (Or.inl rfl) | exact Or.inr (Or.inr rfl))) q_int) (pas_cons (pv_ix (pv_name (i := 2) rfl (by first | exact Or.inl rfl | exact Or.inr (Or.inl rfl) | exact Or.inr (Or.inr rfl))) q_int) (pas_cons (pv_ix (pv_name (i := 2) rfl (by first | exact Or.inl rfl | exact Or.inr (Or.inl rfl) | exact Or.inr (Or.inr rfl))) q_int) qa_nil))))))) qo_nil)
  (qo_cons (qo_if (pb_cmp (od_eq (hu64 hr)) (by rfl) (pv_name (i := 5) rfl (by first | exact Or.inl rfl | exact Or.inr (Or.inl rfl) | exact Or.inr (Or.inr rfl))) q_int) (qo_one (qo_ret (pn_lst (pas_cons q_str (pas_cons (pv_ix (pv_name (i := 2) rfl (by first | exact Or.inl rfl | exact Or.inr (Or.inl rfl) | exact Or.inr (Or.inr rfl))) q_int) (pas_cons (pv_ix (pv_name (i := 2) rfl (by first | exact Or.inl rfl | exact Or.inr (Or.inl rfl) | exact Or.inr (Or.inr rfl))) q_int) qa_nil)))))) qo_nil)
  (qo_cons (qo_if (pb_cmp (od_eq (hu64 hr)) (by rfl) (pv_name (i := 5) rfl (by first | exact Or.inl rfl | exact Or.inr (Or.inl rfl) | exact Or.inr (Or.inr rfl))) q_int) (qo_one (qo_ret (pn_lst (pas_cons q_str (pas_cons (pv_ix (pv_name (i := 2) rfl (by first | exact Or.inl rfl | exact Or.inr (Or.inl rfl) | exact Or.inr (Or.inr rfl))) q_int) (pas_cons q_str (pas_cons (pv_ix (pv_name (i := 2) rfl (by first | exact Or.inl rfl | exact Or.inr (Or.inl rfl) | exact Or.inr (Or.inr rfl))) q_int) qa_nil))))))) qo_nil)
  (qo_cons (qo_if (pb_cmp (od_eq (hu64 hr)) (by rfl) (pv_name (i := 5) rfl (by first | exact Or.inl rfl | exact Or.inr (Or.inl rfl) | exact Or.inr (Or.inr rfl))) q_int) (qo_one (qo_ret (pn_lst (pas_cons q_str (pas_cons (pv_ix (pv_name (i := 2) rfl (by first | exact Or.inl rfl | exact Or.inr (Or.inl rfl) | exact Or.inr (Or.inr rfl))) q_int) (pas_cons q_str (pas_cons (pv_ix (pv_name (i := 2) rfl (by first | exact Or.inl rfl | exact Or.inr (Or.inl rfl) | exact Or.inr (Or.inr rfl))) q_int) (pas_cons (pv_ix (pv_name (i := 3) rfl (by first | exact Or.inl rfl | exact Or.inr (Or.inl rfl) | exact Or.inr (Or.inr rfl))) q_int) (pas_cons (pv_ix (pv_name (i := 3) rfl (by first | exact Or.inl rfl | exact Or.inr (Or.inl rfl) | exact Or.inr (Or.inr rfl))) q_int) qa_nil))))))))) qo_nil)
  (qo_one (qo_ret (pn_op on_cat (pv_of (pn_lst (pas_cons q_str (pas_cons (pv_ix (pv_name (i := 2) rfl (by first | exact Or.inl rfl | exact Or.inr (Or.inl rfl) | exact Or.inr (Or.inr rfl))) q_int) (pas_cons (pv_ix (pv_tup (pas_cons q_str (pas_cons q_str qa_nil))) (pv_op od_mod (pv_callTy cd_int (by rfl) T.n_int (by decide +kernel) (pas_cons (pv_ix (pv_name (i := 0) rfl (by first | exact Or.inl rfl | exact Or.inr (Or.inl rfl) | exact Or.inr (Or.inr rfl))) q_int) qa_nil)) q_int)) (pas_cons (pv_ix (pv_name (i := 2) rfl (by first | exact Or.inl rfl | exact Or.inr (Or.inl rfl) | exact Or.inr (Or.inr rfl))) q_int) qa_nil)))))) (pv_of (pn_lc (own := [("k", 7)]) rfl sc__law_formed.nd (qi_range1 (by rfl) T.n_range (pas_cons (pv_name (i := 4) rfl (by first | exact Or.inl rfl | exact Or.inr (Or.inl rfl) | exact Or.inr (Or.inr rfl))) qa_nil)) (blkOk_by (by rfl)) (fun _ _ _ _ _ => (ptg_name (i := 7) sc__law_formed.nd rfl (by first | exact Or.inl rfl | exact Or.inr rfl) (by first | exact Or.inl rfl | exact Or.inr rfl))) (fun _ _ _ _ _ => qf_nil) (fun _ _ _ _ _ => (pv_ix (pv_name (i := 3) rfl (by first | exact Or.inl rfl | exact Or.inr (Or.inl rfl) | exact Or.inr (Or.inr rfl))) (pv_op od_mod (pv_name (i := 7) rfl (by first | exact Or.inl rfl | exact Or.inr (Or.inl rfl) | exact Or.inr (Or.inr rfl))) (pv_callB cd_len (by rfl) T.n_len (by decide +kernel) (pas_cons (pv_name (i := 3) rfl (by first | exact Or.inl rfl | exact Or.inr (Or.inl rfl) | exact Or.inr (Or.inr rfl))) qa_nil))))) (by decide))))))))))))))))
theorem run_law (T : Tx K mg base A w) {s : Shared} {H : Hp} {args : Args} {us : List Value} {vs : List V} {Q : VK} {E : XK} (room : Room 5 callerA) (e0 : Env0 P w K mg base callerA [] s H) (bt : BindsTo s A.fd_law args ((["script"] : List Str).zip us)) (rv : Vals vs us)
    (sp : spP K (tabs A) (xcs A) 1 F_law vs H Q E) : codeAny (model P w) callerA (.call (.ref A.f_law) args) (CR (CX P w) [] P w H s Q E) s :=
  law_run (k := 4) T.F_law sc_law (fun _ _ => rfl) room e0 bt rv sp fun B hr =>
    (qs_cons (q_set (i := 1) sc_law.nd rfl (q_call (ok__law_numbers T) (hr.mono (by omega)) (by rfl) T.g__law_numbers T.F__law_numbers.kp T.b__law_numbers (passes_call (takes_of rfl rfl rfl rfl) fun _ _ _ _ h => h) (pas_cons (pv_name (i := 0) rfl (by first | exact Or.inl rfl | exact Or.inr (Or.inl rfl) | exact Or.inr (Or.inr rfl))) (pas_cons q_int qa_nil))))
  (qs_cons (q_sw (psw_lc (i := 2) (own := [("k", 4)]) rfl sc_law.nd (qi_range1 (by rfl) T.n_range (pas_cons (pv_op od_addU q_int (pv_op od_mod (pv_callTy cd_int (by rfl) T.n_int (by decide +kernel) (pas_cons (pv_ix (pv_name (i := 1) rfl (by first | exact Or.inl rfl | exact Or.inr (Or.inl rfl) | exact Or.inr (Or.inr rfl))) q_int) qa_nil)) q_int)) qa_nil)) (blkOk_by (by rfl)) (fun _ _ _ _ _ => (ptg_name (i := 4) sc_law.nd rfl (by first | exact Or.inl rfl | exact Or.inr rfl) (by first | exact Or.inl rfl | exact Or.inr rfl))) (fun _ _ _ _ _ => qf_nil) (fun _ _ _ _ _ => (q_call (ok__law_word T) (hr.mono (by omega)) (by rfl) T.g__law_word T.F__law_word.kp T.b__law_word passL (pas_cons (pv_ix (pv_name (i := 1) rfl (by first | exact Or.inl rfl | exact Or.inr (Or.inl rfl) | exact Or.inr (Or.inr rfl))) (pv_op od_mul q_int (pv_name (i := 4) rfl (by first | exact Or.inl rfl | exact Or.inr (Or.inl rfl) | exact Or.inr (Or.inr rfl))))) (pas_cons (pv_ix (pv_name (i := 1) rfl (by first | exact Or.inl rfl | exact Or.inr (Or.inl rfl) | exact Or.inr (Or.inr rfl))) (pv_op od_addU (pv_op od_mul q_int (pv_name (i := 4) rfl (by first | exact Or.inl rfl | exact Or.inr (Or.inl rfl) | exact Or.inr (Or.inr rfl)))) q_int)) qa_nil)))) (by decide) rfl rfl (by rfl)))
  (qs_cons (q_if (pb_cmp od_gt (by rfl) (pv_op od_mod (pv_callTy cd_int (by rfl) T.n_int (by decide +kernel) (pas_cons (pv_ix (pv_name (i := 1) rfl (by first | exact Or.inl rfl | exact Or.inr (Or.inl rfl) | exact Or.inr (Or.inr rfl))) q_int) qa_nil)) q_int) q_int) (qs_cons (q_setO (i := 8) sc_law.nd rfl (q_callO (ok__law_formed T) (hr.mono (by omega)) (by rfl) T.g__law_formed T.F__law_formed.kp T.b__law_formed (passes_call (takes_of rfl rfl rfl rfl) fun _ _ _ _ h => h) (pas_cons (pv_name (i := 1) rfl (by first | exact Or.inl rfl | exact Or.inr (Or.inl rfl) | exact Or.inr (Or.inr rfl))) (pas_cons (pv_name (i := 2) rfl (by first | exact Or.inl rfl | exact Or.inr (Or.inl rfl) | exact Or.inr (Or.inr rfl))) qa_nil))))
  (qs_cons (q_set (i := 9) sc_law.nd rfl (pv_op od_mod (pv_callTy cd_int (by rfl) T.n_int (by decide +kernel) (pas_cons (pv_ix (pv_name (i := 1) rfl (by first | exact Or.inl rfl | exact Or.inr (Or.inl rfl) | exact Or.inr (Or.inr rfl))) q_int) qa_nil)) (pv_lenN (i := 8) rfl (by first | exact Or.inl rfl | exact Or.inr (Or.inl rfl) | exact Or.inr (Or.inr rfl)) (by rfl) T.n_len)))
  (qs_cons (q_if (pb_cmp (od_eq (hu64 hr)) (by rfl) (pv_op od_mod (pv_callTy cd_int (by rfl) T.n_int (by decide +kernel) (pas_cons (pv_ix (pv_name (i := 1) rfl (by first | exact Or.inl rfl | exact Or.inr (Or.inl rfl) | exact Or.inr (Or.inr rfl))) q_int) qa_nil)) q_int) q_int) (pxs_one (px_asgM (pv_ix (pv_name (i := 2) rfl (by first | exact Or.inl rfl | exact Or.inr (Or.inl rfl) | exact Or.inr (Or.inr rfl))) q_int) (ptm_item (i := 8) rfl (by first | exact Or.inl rfl | exact Or.inr (Or.inl rfl) | exact Or.inr (Or.inr rfl)) (pv_name (i := 9) rfl (by first | exact Or.inl rfl | exact Or.inr (Or.inl rfl) | exact Or.inr (Or.inr rfl)))))) pxs_nil)
  (qs_cons (q_if (pb_bo (pw_a (pb_cmp (od_eq (hu64 hr)) (by rfl) (pv_op od_mod (pv_callTy cd_int (by rfl) T.n_int (by decide +kernel) (pas_cons (pv_ix (pv_name (i := 1) rfl (by first | exact Or.inl rfl | exact Or.inr (Or.inl rfl) | exact Or.inr (Or.inr rfl))) q_int) qa_nil)) q_int) q_int) (pw_a1 (pb_cmp od_gt (by rfl) (pv_lenN (i := 8) rfl (by first | exact Or.inl rfl | exact Or.inr (Or.inl rfl) | exact Or.inr (Or.inr rfl)) (by rfl) T.n_len) q_int)))) (pxs_one (q_setO (i := 8) sc_law.nd rfl (pn_op on_cat (pv_sl (pv_name (i := 8) rfl (by first | exact Or.inl rfl | exact Or.inr (Or.inl rfl) | exact Or.inr (Or.inr rfl))) qq_no (pq_yes (pv_name (i := 9) rfl (by first | exact Or.inl rfl | exact Or.inr (Or.inl rfl) | exact Or.inr (Or.inr rfl))))) (pv_sl (pv_name (i := 8) rfl (by first | exact Or.inl rfl | exact Or.inr (Or.inl rfl) | exact Or.inr (Or.inr rfl))) (pq_yes (pv_op od_addU (pv_name (i := 9) rfl (by first | exact Or.inl rfl | exact Or.inr (Or.inl rfl) | exact Or.inr (Or.inr rfl))) q_int)) qq_no)))) pxs_nil)
  (qs_cons (q_if (pb_cmp (od_eq (hu64 hr)) (by rfl) (pv_op od_mod (pv_callTy cd_int (by rfl) T.n_int (by decide +kernel) (pas_cons (pv_ix (pv_name (i := 1) rfl (by first | exact Or.inl rfl | exact Or.inr (Or.inl rfl) | exact Or.inr (Or.inr rfl))) q_int) qa_nil)) q_int) q_int) (pxs_one (q_expr (pv_app (i := 8) rfl (by first | exact Or.inl rfl | exact Or.inr (Or.inl rfl) | exact Or.inr (Or.inr rfl)) (pv_ix (pv_name (i := 2) rfl (by first | exact Or.inl rfl | exact Or.inr (Or.inl rfl) | exact Or.inr (Or.inr rfl))) q_int)))) pxs_nil)
  (pxs_one (q_set (i := 2) sc_law.nd rfl (pv_name (i := 8) rfl (by first | exact Or.inl rfl | exact Or.inr (Or.inl rfl) | exact Or.inr (Or.inr rfl)))))))))) pxs_nil)
  (qs_cons (q_set (i := 3) sc_law.nd rfl (pv_op od_mulS q_str (pv_op od_mod (pv_callTy cd_int (by rfl) T.n_int (by decide +kernel) (pas_cons (pv_ix (pv_name (i := 1) rfl (by first | exact Or.inl rfl | exact Or.inr (Or.inl rfl) | exact Or.inr (Or.inr rfl))) q_int) qa_nil)) q_int)))
  (qs_cons (q_for (passes_of rfl) rfl (qi_range1 (by rfl) T.n_range (pas_cons (pv_callB cd_len (by rfl) T.n_len (by decide +kernel) (pas_cons (pv_name (i := 2) rfl (by first | exact Or.inl rfl | exact Or.inr (Or.inl rfl) | exact Or.inr (Or.inr rfl))) qa_nil)) qa_nil)) (ptg_name (i := 4) sc_law.nd rfl (by first | exact Or.inl rfl | exact Or.inr rfl) (by first | exact Or.inl rfl | exact Or.inr rfl)) (qs_cons (q_set (i := 3) sc_law.nd rfl (pv_op od_addU (pv_name (i := 3) rfl (by first | exact Or.inl rfl | exact Or.inr (Or.inl rfl) | exact Or.inr (Or.inr rfl))) (pv_ix (pv_name (i := 2) rfl (by first | exact Or.inl rfl | exact Or.inr (Or.inl rfl) | exact Or.inr (Or.inr rfl))) (pv_name (i := 4) rfl (by first | exact Or.inl rfl | exact Or.inr (Or.inl rfl) | exact Or.inr (Or.inr rfl))))))
  (pxs_one (q_if (pb_cmp od_lt (by rfl) (pv_op od_addU (pv_name (i := 4) rfl (by first | exact Or.inl rfl | exact Or.inr (Or.inl rfl) | exact Or.inr (Or.inr rfl))) q_int) (pv_callB cd_len (by rfl) T.n_len (by decide +kernel) (pas_cons (pv_name (i := 2) rfl (by first | exact Or.inl rfl | exact Or.inr (Or.inl rfl) | exact Or.inr (Or.inr rfl))) qa_nil))) (pxs_one (q_set (i := 3) sc_law.nd rfl (pv_op od_addU (pv_name (i := 3) rfl (by first | exact Or.inl rfl | exact Or.inr (Or.inl rfl) | exact Or.inr (Or.inr rfl))) (pv_op od_mulS q_str (pv_op od_addU q_int (pv_op od_mod (pv_callTy cd_int (by rfl) T.n_int (by decide +kernel) (pas_cons (pv_op od_addU (pv_ix (pv_name (i := 1) rfl (by first | exact Or.inl rfl | exact Or.inr (Or.inl rfl) | exact Or.inr (Or.inr rfl))) q_int) (pv_op od_mul (pv_name (i := 4) rfl (by first | exact Or.inl rfl | exact Or.inr (Or.inl rfl) | exact Or.inr (Or.inr rfl))) (pv_ix (pv_name (i := 1) rfl (by first | exact Or.inl rfl | exact Or.inr (Or.inl rfl) | exact Or.inr (Or.inr rfl))) q_int))) qa_nil)) q_int)))))) pxs_nil))))
  (qs_cons (q_set (i := 3) sc_law.nd rfl (pv_op od_addU (pv_name (i := 3) rfl (by first | exact Or.inl rfl | exact Or.inr (Or.inl rfl) | exact Or.inr (Or.inr rfl))) (pv_op od_mulS q_str (pv_op od_mod (pv_callTy cd_int (by rfl) T.n_int (by decide +kernel) (pas_cons (pv_ix (pv_name (i := 1) rfl (by first | exact Or.inl rfl | exact Or.inr (Or.inl rfl) | exact Or.inr (Or.inr rfl))) q_int) qa_nil)) q_int))))
  (qs_cons (q_set (i := 5) sc_law.nd rfl (q_call (ok_split_words T) (hr.mono (by omega)) (by rfl) T.g_split_words T.F_split_words.kp T.b_split_words (passes_call (takes_of rfl rfl rfl rfl) fun _ _ _ _ h => h) (pas_cons (pv_name (i := 3) rfl (by first | exact Or.inl rfl | exact Or.inr (Or.inl rfl) | exact Or.inr (Or.inr rfl))) qa_nil)))
  (qs_cons (q_if (pb_bo (pw_o (pb_not (pb_tru (pv_isi (by rfl) T.n_isinstance (pv_name (i := 5) rfl (by first | exact Or.inl rfl | exact Or.inr (Or.inl rfl) | exact Or.inr (Or.inr rfl))) (by rfl) T.n_list (by decide +kernel) (by decide)))) (pw_o (pb_cmp (od_ne (hu64 hr)) (by rfl) (pv_name (i := 5) rfl (by first | exact Or.inl rfl | exact Or.inr (Or.inl rfl) | exact Or.inr (Or.inr rfl))) (pv_name (i := 2) rfl (by first | exact Or.inl rfl | exact Or.inr (Or.inl rfl) | exact Or.inr (Or.inr rfl)))) (pw_o1 (pb_cmp (od_ne (hu64 hr)) (by rfl) (q_call (ok_split_words T) (hr.mono (by omega)) (by rfl) T.g_split_words T.F_split_words.kp T.b_split_words (passes_call (takes_of rfl rfl rfl rfl) fun _ _ _ _ h => h) (pas_cons (pv_op od_mulS q_str (pv_op od_mod (pv_callTy cd_int (by rfl) T.n_int (by decide +kernel) (pas_cons (pv_ix (pv_name (i := 1) rfl (by first | exact Or.inl rfl | exact Or.inr (Or.inl rfl) | exact Or.inr (Or.inr rfl))) q_int) qa_nil)) q_int)) qa_nil)) (pv_of (pn_lst qa_nil))))))) (pxs_one (q_ret q_bl)) pxs_nil)
  (qs_cons (q_if (pb_cmp (od_ne (hu64 hr)) (by rfl) (q_call (ok_split_words T) (hr.mono (by omega)) (by rfl) T.g_split_words T.F_split_words.kp T.b_split_words (passes_call (takes_of rfl rfl rfl rfl) fun _ _ _ _ h => h) (pas_cons q_str qa_nil)) (pv_of (pn_lst (pas_cons q_str (pas_cons q_str qa_nil))))) (pxs_one (q_ret q_bl)) pxs_nil)
  (qs_cons (q_set (i := 6) sc_law.nd rfl (pv_of (pn_list (by rfl) T.n_list (by decide +kernel) (pas_cons (pv_name (i := 2) rfl (by first | exact Or.inl rfl | exact Or.inr (Or.inl rfl) | exact Or.inr (Or.inr rfl))) qa_nil))))
  (qs_cons (q_set (i := 7) sc_law.nd rfl (q_call (ok_is_command T) (hr.mono (by omega)) (by rfl) T.g_is_command T.F_is_command.kp T.b_is_command (passes_call (takes_of rfl rfl rfl rfl) fun _ _ _ _ h => h) (pas_cons (pv_name (i := 6) rfl (by first | exact Or.inl rfl | exact Or.inr (Or.inl rfl) | exact Or.inr (Or.inr rfl))) qa_nil)))
  (pxs_one (q_ret (pv_and (pv_isi (by rfl) T.n_isinstance (pv_name (i := 7) rfl (by first | exact Or.inl rfl | exact Or.inr (Or.inl rfl) | exact Or.inr (Or.inr rfl))) (by rfl) T.n_bool (by decide +kernel) (by decide)) (pv_and (pv_cmp (od_eq (hu64 hr)) (by rfl) (pv_name (i := 7) rfl (by first | exact Or.inl rfl | exact Or.inr (Or.inl rfl) | exact Or.inr (Or.inr rfl))) (q_call (ok__law_command T) (hr.mono (by omega)) (by rfl) T.g__law_command T.F__law_command.kp T.b__law_command (passes_call (takes_of rfl rfl rfl rfl) fun _ _ _ _ h => h) (pas_cons (pv_name (i := 2) rfl (by first | exact Or.inl rfl | exact Or.inr (Or.inl rfl) | exact Or.inr (Or.inr rfl))) qa_nil))) (pv_one (pv_cmp (od_eq (hu64 hr)) (by rfl) (pv_name (i := 6) rfl (by first | exact Or.inl rfl | exact Or.inr (Or.inl rfl) | exact Or.inr (Or.inr rfl))) (pv_name (i := 2) rfl (by first | exact Or.inl rfl | exact Or.inr (Or.inl rfl) | exact Or.inr (Or.inr rfl))))))))))))))))))))
end
def fa0 : List He.Fa := [.free "abs", .free "all", .free "bool", .free "int", .free "isinstance", .free "len", .free "list", .free "max", .free "range", .glo "is_name", .glo "is_written_number", .glo "is_question", .glo "split_words", .glo "is_asking", .glo "is_command", .glo "_law_row", .glo "_law_numbers", .glo "_law_word", .glo "_law_is_name", .glo "_law_all_names", .glo "_law_is_number", .glo "_law_command", .glo "_law_formed", .glo "law", .int "MOST_CHARACTERS" 12, .str "LETTERS" "abcdefghijklmnopqrstuvwxyz", .str "FIGURES" "0123456789", .int "MOST_DIGITS" 61, .glo "NUMBERS_ASKED", .glo "NAMES_BEHIND"]
def fa1 : List He.Fa := [.int "WORDS_AHEAD_OF_NUMBERS" 4]
def fas : List He.Fa := fa0 ++ fa1
def fn0 : List He.DefD := [dOf "is_name" s_is_name, dOfP "is_written_number" s_is_written_number 61, dOf "is_question" s_is_question, dOf "split_words" s_split_words, dOf "is_asking" s_is_asking, dOf "is_command" s_is_command, dOf "_law_row" s__law_row, dOf "_law_numbers" s__law_numbers, dOf "_law_word" s__law_word, dOf "_law_is_name" s__law_is_name, dOf "_law_all_names" s__law_all_names, dOf "_law_is_number" s__law_is_number, dOf "_law_command" s__law_command, dOf "_law_formed" s__law_formed, dOf "law" s_law]
def fns : List He.DefD := fn0
def tfs : List He.Defn := [("is_name", none), ("is_asking", none), ("is_command", none)]
def tds : List He.Tab := [((fun K => He.ga K "NUMBERS_ASKED"), kv_NUMBERS_ASKED.map (·.1)), ((fun K => He.ga K "NAMES_BEHIND"), kv_NAMES_BEHIND.map (·.1))]
def exs (K : PySem.W.Frag) : Bool := topD K (He.ga K "NUMBERS_ASKED") kv_NUMBERS_ASKED && topD K (He.ga K "NAMES_BEHIND") kv_NAMES_BEHIND
def AK (K : PySem.W.Frag) (z : FuncData) : Ad where
  f_is_name := He.ga K "is_name"
  c_is_name := He.codeOf K ("is_name", none)
  fd_is_name := fdG K "is_name" z
  f_is_written_number := He.ga K "is_written_number"
  c_is_written_number := He.codeOf K ("is_written_number", none)
  fd_is_written_number := fdG K "is_written_number" z
  f_is_question := He.ga K "is_question"
  c_is_question := He.codeOf K ("is_question", none)
  fd_is_question := fdG K "is_question" z
  f_split_words := He.ga K "split_words"
  c_split_words := He.codeOf K ("split_words", none)
  fd_split_words := fdG K "split_words" z
  f_is_asking := He.ga K "is_asking"
  c_is_asking := He.codeOf K ("is_asking", none)
  fd_is_asking := fdG K "is_asking" z
  f_is_command := He.ga K "is_command"
  c_is_command := He.codeOf K ("is_command", none)
  fd_is_command := fdG K "is_command" z
  f__law_row := He.ga K "_law_row"
  c__law_row := He.codeOf K ("_law_row", none)
  fd__law_row := fdG K "_law_row" z
  f__law_numbers := He.ga K "_law_numbers"
  c__law_numbers := He.codeOf K ("_law_numbers", none)
  fd__law_numbers := fdG K "_law_numbers" z
  f__law_word := He.ga K "_law_word"
  c__law_word := He.codeOf K ("_law_word", none)
  fd__law_word := fdG K "_law_word" z
  f__law_is_name := He.ga K "_law_is_name"
  c__law_is_name := He.codeOf K ("_law_is_name", none)
  fd__law_is_name := fdG K "_law_is_name" z
  f__law_all_names := He.ga K "_law_all_names"
  c__law_all_names := He.codeOf K ("_law_all_names", none)
  fd__law_all_names := fdG K "_law_all_names" z
  f__law_is_number := He.ga K "_law_is_number"
  c__law_is_number := He.codeOf K ("_law_is_number", none)
  fd__law_is_number := fdG K "_law_is_number" z
  f__law_command := He.ga K "_law_command"
  c__law_command := He.codeOf K ("_law_command", none)
  fd__law_command := fdG K "_law_command" z
  f__law_formed := He.ga K "_law_formed"
  c__law_formed := He.codeOf K ("_law_formed", none)
  fd__law_formed := fdG K "_law_formed" z
  f_law := He.ga K "law"
  c_law := He.codeOf K ("law", none)
  fd_law := fdG K "law" z
  p_is_name := (He.cT K ("is_name", none)).2
  p_is_asking := (He.cT K ("is_asking", none)).2
  p_is_command := (He.cT K ("is_command", none)).2
  D_NUMBERS_ASKED := He.ga K "NUMBERS_ASKED"
  D_NAMES_BEHIND := He.ga K "NAMES_BEHIND"
theorem tx_of {K : PySem.W.Frag} {mg : Str → Option Value} {h base : Heap} {w : World} {z : FuncData} (X : K.In h) (G : h.Ns mainGlobals mg) (c : He.SaysX fas fns tds tfs exs w h K)
    (hT : ∀ p ∈ tfs.map (He.cT K), LamX.TabB base mg p.1 p.2) : Tx K mg base (AK K z) w := by
  have ex := c.more
  unfold exs at ex
  simp only [Bool.and_eq_true] at ex
  obtain ⟨q0, q1⟩ := ex
  exact {
    n_abs := He.free_ok X G (c.t.d.fact 0 (f := .free "abs") rfl)
    n_all := He.free_ok X G (c.t.d.fact 1 (f := .free "all") rfl)
    n_bool := He.free_ok X G (c.t.d.fact 2 (f := .free "bool") rfl)
    n_int := He.free_ok X G (c.t.d.fact 3 (f := .free "int") rfl)
    n_isinstance := He.free_ok X G (c.t.d.fact 4 (f := .free "isinstance") rfl)
    n_len := He.free_ok X G (c.t.d.fact 5 (f := .free "len") rfl)
    n_list := He.free_ok X G (c.t.d.fact 6 (f := .free "list") rfl)
    n_max := He.free_ok X G (c.t.d.fact 7 (f := .free "max") rfl)
    n_range := He.free_ok X G (c.t.d.fact 8 (f := .free "range") rfl)
    g_is_name := He.glo_ok X G (c.t.d.fact 9 (f := .glo "is_name") rfl)
    F_is_name := funC_of (st := s_is_name) (c.t.d.def_ 0 (d := dOf "is_name" s_is_name) rfl)
    b_is_name := (FunC.f (funC_of (st := s_is_name) (z := z) (c.t.d.def_ 0 (d := dOf "is_name" s_is_name) rfl))).binds (ps := ["text"]) fun _ _ _ _ _ _ us hl => match us, hl with | [_], _ => rfl
    g_is_written_number := He.glo_ok X G (c.t.d.fact 10 (f := .glo "is_written_number") rfl)
    F_is_written_number := (funP_of (i := 61) (st := s_is_written_number) (z := z) (c.t.d.def_ 1 (d := dOfP "is_written_number" s_is_written_number 61) rfl)).1
    bd_is_written_number := bdP (funP_of (i := 61) (st := s_is_written_number) (z := z) (c.t.d.def_ 1 (d := dOfP "is_written_number" s_is_written_number 61) rfl)).2 1 rfl fun _ _ _ _ _ _ _ us its l1 l2 => match us, its, l1, l2 with | [_], [_], _, _ => ⟨_, rfl, rfl⟩
    g_is_question := He.glo_ok X G (c.t.d.fact 11 (f := .glo "is_question") rfl)
    F_is_question := funC_of (st := s_is_question) (c.t.d.def_ 2 (d := dOf "is_question" s_is_question) rfl)
    b_is_question := (FunC.f (funC_of (st := s_is_question) (z := z) (c.t.d.def_ 2 (d := dOf "is_question" s_is_question) rfl))).binds (ps := ["asked", "many"]) fun _ _ _ _ _ _ us hl => match us, hl with | [_, _], _ => rfl
    g_split_words := He.glo_ok X G (c.t.d.fact 12 (f := .glo "split_words") rfl)
    F_split_words := funC_of (st := s_split_words) (c.t.d.def_ 3 (d := dOf "split_words" s_split_words) rfl)
    b_split_words := (FunC.f (funC_of (st := s_split_words) (z := z) (c.t.d.def_ 3 (d := dOf "split_words" s_split_words) rfl))).binds (ps := ["line"]) fun _ _ _ _ _ _ us hl => match us, hl with | [_], _ => rfl
    g_is_asking := He.glo_ok X G (c.t.d.fact 13 (f := .glo "is_asking") rfl)
    F_is_asking := funC_of (st := s_is_asking) (c.t.d.def_ 4 (d := dOf "is_asking" s_is_asking) rfl)
    b_is_asking := (FunC.f (funC_of (st := s_is_asking) (z := z) (c.t.d.def_ 4 (d := dOf "is_asking" s_is_asking) rfl))).binds (ps := ["words"]) fun _ _ _ _ _ _ us hl => match us, hl with | [_], _ => rfl
    g_is_command := He.glo_ok X G (c.t.d.fact 14 (f := .glo "is_command") rfl)
    F_is_command := funC_of (st := s_is_command) (c.t.d.def_ 5 (d := dOf "is_command" s_is_command) rfl)
    b_is_command := (FunC.f (funC_of (st := s_is_command) (z := z) (c.t.d.def_ 5 (d := dOf "is_command" s_is_command) rfl))).binds (ps := ["words"]) fun _ _ _ _ _ _ us hl => match us, hl with | [_], _ => rfl
    g__law_row := He.glo_ok X G (c.t.d.fact 15 (f := .glo "_law_row") rfl)
    F__law_row := funC_of (st := s__law_row) (c.t.d.def_ 6 (d := dOf "_law_row" s__law_row) rfl)
    b__law_row := (FunC.f (funC_of (st := s__law_row) (z := z) (c.t.d.def_ 6 (d := dOf "_law_row" s__law_row) rfl))).binds (ps := ["cell", "many"]) fun _ _ _ _ _ _ us hl => match us, hl with | [_, _], _ => rfl
    g__law_numbers := He.glo_ok X G (c.t.d.fact 16 (f := .glo "_law_numbers") rfl)
    F__law_numbers := funC_of (st := s__law_numbers) (c.t.d.def_ 7 (d := dOf "_law_numbers" s__law_numbers) rfl)
    b__law_numbers := (FunC.f (funC_of (st := s__law_numbers) (z := z) (c.t.d.def_ 7 (d := dOf "_law_numbers" s__law_numbers) rfl))).binds (ps := ["script", "many"]) fun _ _ _ _ _ _ us hl => match us, hl with | [_, _], _ => rfl
    g__law_word := He.glo_ok X G (c.t.d.fact 17 (f := .glo "_law_word") rfl)
    F__law_word := funC_of (st := s__law_word) (c.t.d.def_ 8 (d := dOf "_law_word" s__law_word) rfl)
    b__law_word := (FunC.f (funC_of (st := s__law_word) (z := z) (c.t.d.def_ 8 (d := dOf "_law_word" s__law_word) rfl))).binds (ps := ["number", "more"]) fun _ _ _ _ _ _ us hl => match us, hl with | [_, _], _ => rfl
    g__law_is_name := He.glo_ok X G (c.t.d.fact 18 (f := .glo "_law_is_name") rfl)
    F__law_is_name := funC_of (st := s__law_is_name) (c.t.d.def_ 9 (d := dOf "_law_is_name" s__law_is_name) rfl)
    b__law_is_name := (FunC.f (funC_of (st := s__law_is_name) (z := z) (c.t.d.def_ 9 (d := dOf "_law_is_name" s__law_is_name) rfl))).binds (ps := ["word"]) fun _ _ _ _ _ _ us hl => match us, hl with | [_], _ => rfl
    g__law_all_names := He.glo_ok X G (c.t.d.fact 19 (f := .glo "_law_all_names") rfl)
    F__law_all_names := funC_of (st := s__law_all_names) (c.t.d.def_ 10 (d := dOf "_law_all_names" s__law_all_names) rfl)
    b__law_all_names := (FunC.f (funC_of (st := s__law_all_names) (z := z) (c.t.d.def_ 10 (d := dOf "_law_all_names" s__law_all_names) rfl))).binds (ps := ["words"]) fun _ _ _ _ _ _ us hl => match us, hl with | [_], _ => rfl
    g__law_is_number := He.glo_ok X G (c.t.d.fact 20 (f := .glo "_law_is_number") rfl)
    F__law_is_number := funC_of (st := s__law_is_number) (c.t.d.def_ 11 (d := dOf "_law_is_number" s__law_is_number) rfl)
    b__law_is_number := (FunC.f (funC_of (st := s__law_is_number) (z := z) (c.t.d.def_ 11 (d := dOf "_law_is_number" s__law_is_number) rfl))).binds (ps := ["word"]) fun _ _ _ _ _ _ us hl => match us, hl with | [_], _ => rfl
    g__law_command := He.glo_ok X G (c.t.d.fact 21 (f := .glo "_law_command") rfl)
    F__law_command := funC_of (st := s__law_command) (c.t.d.def_ 12 (d := dOf "_law_command" s__law_command) rfl)
    b__law_command := (FunC.f (funC_of (st := s__law_command) (z := z) (c.t.d.def_ 12 (d := dOf "_law_command" s__law_command) rfl))).binds (ps := ["words"]) fun _ _ _ _ _ _ us hl => match us, hl with | [_], _ => rfl
    g__law_formed := He.glo_ok X G (c.t.d.fact 22 (f := .glo "_law_formed") rfl)
    F__law_formed := funC_of (st := s__law_formed) (c.t.d.def_ 13 (d := dOf "_law_formed" s__law_formed) rfl)
    b__law_formed := (FunC.f (funC_of (st := s__law_formed) (z := z) (c.t.d.def_ 13 (d := dOf "_law_formed" s__law_formed) rfl))).binds (ps := ["numbers", "words"]) fun _ _ _ _ _ _ us hl => match us, hl with | [_, _], _ => rfl
    g_law := He.glo_ok X G (c.t.d.fact 23 (f := .glo "law") rfl)
    F_law := funC_of (st := s_law) (c.t.d.def_ 14 (d := dOf "law" s_law) rfl)
    b_law := (FunC.f (funC_of (st := s_law) (z := z) (c.t.d.def_ 14 (d := dOf "law" s_law) rfl))).binds (ps := ["script"]) fun _ _ _ _ _ _ us hl => match us, hl with | [_], _ => rfl
    t_is_name := tabB_of (hT (He.cT K ("is_name", none)) (List.mem_map.mpr ⟨_, by unfold tfs; simp, rfl⟩))
    t_is_asking := tabB_of (hT (He.cT K ("is_asking", none)) (List.mem_map.mpr ⟨_, by unfold tfs; simp, rfl⟩))
    t_is_command := tabB_of (hT (He.cT K ("is_command", none)) (List.mem_map.mpr ⟨_, by unfold tfs; simp, rfl⟩))
    k_MOST_CHARACTERS := He.int_ok X G (c.t.d.fact 24 (f := .int "MOST_CHARACTERS" 12) rfl)
    k_LETTERS := He.str_ok X G (c.t.d.fact 25 (f := .str "LETTERS" "abcdefghijklmnopqrstuvwxyz") rfl)
    k_FIGURES := He.str_ok X G (c.t.d.fact 26 (f := .str "FIGURES" "0123456789") rfl)
    k_MOST_DIGITS := He.int_ok X G (c.t.d.fact 27 (f := .int "MOST_DIGITS" 61) rfl)
    g_NUMBERS_ASKED := He.glo_ok X G (c.t.d.fact 28 (f := .glo "NUMBERS_ASKED") rfl)
    d_NUMBERS_ASKED := topD_of (f := fun K => He.ga K "NUMBERS_ASKED") c.t 0 rfl q0
    g_NAMES_BEHIND := He.glo_ok X G (c.t.d.fact 29 (f := .glo "NAMES_BEHIND") rfl)
    d_NAMES_BEHIND := topD_of (f := fun K => He.ga K "NAMES_BEHIND") c.t 1 rfl q1
    k_WORDS_AHEAD_OF_NUMBERS := He.int_ok X G (c.t.d.fact 30 (f := .int "WORDS_AHEAD_OF_NUMBERS" 4) rfl)
  }
/-- all but the mathematics -/
theorem law_at (main : ∀ ns : List Int, ns.length ≤ 63 → (∀ z ∈ ns, Builtin.Int.intBits z ≤ 1048576) → F_law [.scr ns] = .ok (.bl true)) {w : World} {mg : Str → Option Value} {fa : Addr} {h : Heap} {K : PySem.W.Frag} (X : K.In h) (G : h.Ns mainGlobals mg)
    (hm : mg "law" = some (.ref fa)) (c : He.SaysX fas fns tds tfs exs w h K) : LawG PySem.Challenge.rw_schemebound_k57_words_of_a_session w K 63 mg fa h := by
  obtain ⟨fd0, F0⟩ := c.t.d.def_ 14 (d := dOf "law" s_law) rfl
  have hga := He.glo_ok X G (c.t.d.fact 23 (f := .glo "law") rfl)
  have e := hm.symm.trans hga
  cases e
  have hbind := (funC_of (st := s_law) (z := fd0) (c.t.d.def_ 14 (d := dOf "law" s_law) rfl)).bindsA (ps := ["script"]) fun _ _ _ _ _ _ us hl => match us, hl with | [_], _ => rfl
  refine ⟨tfs.map (He.cT K), fun p hp => ?_, fun p hp => ?_, fun p hp => ?_, fun s₁ base H a ns hl hb KB GB hT E0 hH hS => ?_⟩
  · obtain ⟨q, hq, rfl⟩ := List.mem_map.mp hp
    exact c.empty q hq
  · obtain ⟨q, hq, rfl⟩ := List.mem_map.mp hp
    exact c.out q hq
  · obtain ⟨q, hq, rfl⟩ := List.mem_map.mp hp
    exact PySem.W.codeHd_of_K X (c.hd q hq)
  · refine run_law (A := AK K fd0) (us := [.ref a]) (vs := [.ref a]) (tx_of X G c hT) ⟨rfl, by decide, by decide⟩ E0 (hbind s₁ [.ref a] rfl) (.cons rfl .nil) (sp_law (fun P hP => ?_) hS (main ns hl hb))
    have : ∃ p ∈ tfs.map (He.cT K), p.2 = P := by
      unfold tabs AK at hP
      unfold tfs
      simpa [eq_comm] using hP
    obtain ⟨p, hp, rfl⟩ := this
    exact hH p hp
end K57
namespace K57
open PySem PySem.Spec PyProof.Rows L2 Pf
/-! ## integers -/
/-! ## power, choose -/
/-! ## trees -/
inductive Tr where
  | words (n q : Nat) | sets (n k : Nat) | listed (rows : List (List Int)) | prod (a b : Tr)
def Tr.depth : Tr → Nat
  | .prod a b => max a.depth b.depth + 1
  | _ => 0
theorem fCons_ok {f : List Sl → Rs D} {g : List Sl → Rs (List D)} {env e1 e2 : List Sl} {d : D} {ds : List D} (h : f env = .ok d e1) (h' : g e1 = .ok ds e2) : fCons f g env = .ok (d :: ds) e2 := by
  unfold fCons; rw [h]; show Rs.bind (g e1) _ = _; rw [h']; rfl
theorem mul_ok {i j : Int} (h : mulOk i j = true) : dMul (.int i) (.int j) = some (.int (i * j)) := if_pos h
theorem fdv_ok {i j : Int} (h : 0 < j ∧ j.natAbs.log2 < 9000) : dFdv (.int i) (.int j) = some (.int (i / j)) := if_pos (decide_eq_true h)
theorem while_go {c : List Sl → Rs Bool} {b : List Sl → Ro} {n : Nat} {env e e' : List Sl} (h : c env = .ok true e) (q : b e = .nx e') : whileR c b (n + 1) env = whileR c b n e' := by
  rw [whileR, h]
  show (match b e with | .nx e' => _ | .ct e' => _ | .bk e' => _ | r => r) = _
  rw [q]
theorem while_stop {c : List Sl → Rs Bool} {b : List Sl → Ro} {n : Nat} {env e : List Sl} (h : c env = .ok false e) : whileR c b (n + 1) env = .nx e := by
  unfold whileR; rw [h]; rfl
end K57
namespace K57
open PySem PySem.Spec PyProof.Rows L2 Pf
/-! ## the law's numbers -/
def small (xs : List Int) : Prop := ∀ x ∈ xs, 0 ≤ x ∧ x < 1009
theorem small_snoc {xs : List Int} (h : small xs) (i : Int) : small (xs ++ [i % 1009]) := by
  intro x hx
  obtain hx | hx := List.mem_append.mp hx
  · exact h x hx
  · rcases List.mem_cons.mp hx with rfl | hx
    · omega
    · cases hx
theorem mod_ok {i j : Int} (h : 0 < j) : dMod (.int i) (.int j) = some (.int (i % j)) := if_pos (decide_eq_true h)
def b_row : List Sl → Ro := (rSeq (rSet 4 (f2 (fCB (fCons (f2 (f2 (rdN 4) (vK (.int 16807)) dMul) (f2 (vK (.int 271)) (f2 (rdN 5) (vK (.int 3)) dAddU) dMul) dAddU) aNil) cInt) (vK (.int 2147483629)) dMod))
  (rIf (fAsB (f2 (fCB (fCons (rdN 0) aNil) cAbs) (f2 (vK (.int 10)) (vK (.int 18)) dPow) dGe)) (rSeq (rExpr (fApp 2 (f2 (fCB (fCons (rdN 3) aNil) cInt) (vK (.int 1009)) dMod)))
  (rSet 3 (f2 (rdN 3) (vK (.int 1009)) dFdv))) (rExpr (fApp 2 (f2 (fCB (fCons (f2 (rdN 4) (vK (.int 7)) dFdv) aNil) cInt) (vK (.int 1009)) dMod)))))
abbrev e6 (z m : Int) (xs : List Int) (r x k : Int) : List Sl := [.im (.int z), .im (.int m), .ow (.l (xs.map .int)), .im (.int r), .im (.int x), .im (.int k)]
theorem pow_ok {i j : Int} (h : 0 ≤ j ∧ j ≤ 1000000 ∧ i.natAbs < 2 ^ 64) : dPow (.int i) (.int j) = some (.int (i ^ j.toNat)) := if_pos (decide_eq_true h)
theorem small64 {i : Int} (h : -(2 ^ 64) < i ∧ i < 2 ^ 64) (j : Int) : mulOk i j = true ∧ mulOk j i = true := ⟨decide_eq_true (.inl (.inl h)), decide_eq_true (.inl (.inr h))⟩
theorem row_turn (z m : Int) (xs : List Int) (r x k : Int) (hs : small xs) (hl : xs.length < 2 ^ 20) : ∃ xs' r' x', b_row (e6 z m xs r x k) = .nx (e6 z m xs' r' x' k) ∧ small xs' ∧ xs'.length = xs.length + 1 := by
  let x1 : Int := (x * 16807 + 271 * (k + 3)) % 2147483629
  have s1 : f2 (fCB (fCons (f2 (f2 (rdN 4) (vK (.int 16807)) dMul) (f2 (vK (.int 271)) (f2 (rdN 5) (vK (.int 3)) dAddU) dMul) dAddU) aNil) cInt) (vK (.int 2147483629)) dMod (e6 z m xs r x k) = .ok (.int x1) (e6 z m xs r x k) := by
    have p1 : dMul (.int x) (.int 16807) = some (.int (x * 16807)) := mul_ok (small64 ⟨by decide, by decide⟩ x).2
    have p2 : dMul (.int 271) (.int (k + 3)) = some (.int (271 * (k + 3))) := mul_ok (small64 ⟨by decide, by decide⟩ (k + 3)).1
    exact f2_ok (fCB_ok (ds := [.int (x * 16807 + 271 * (k + 3))]) (fCons_ok (f2_ok (f2_ok (x := .int x) (y := .int 16807) (by rfl) (by rfl) p1) (f2_ok (x := .int 271) (y := .int (k + 3)) (by rfl) (f2_ok (x := .int k) (y := .int 3) (by rfl) (by rfl) rfl) p2) rfl) rfl) rfl) (by rfl) (mod_ok (by decide))
  have len (i : Int) : (xs ++ [i % 1009]).length = xs.length + 1 := by rw [List.length_append]; rfl
  have app (e : List Sl) (f : List Sl → Rs D) (i : Int) (he : e[2]? = some (.ow (.l (xs.map .int)))) (hf : f e = .ok (.int i) e) : fApp 2 f e = .ok .non (e.set 2 (.ow (.l ((xs ++ [i]).map .int)))) := by
    unfold fApp
    rw [he]
    dsimp only
    rw [hf]
    show (match e[2]? with | some (.ow (.l xs)) => _ | _ => _) = _
    rw [he]
    dsimp only
    rw [List.length_map, if_pos (Nat.lt_of_lt_of_le hl (Nat.le_of_ble_eq_true rfl)), List.map_append]
    rfl
  have g : f2 (fCB (fCons (rdN 0) aNil) cAbs) (f2 (vK (.int 10)) (vK (.int 18)) dPow) dGe (e6 z m xs r x1 k) = .ok (.bl (decide ((10 : Int) ^ 18 ≤ (if z < 0 then -z else z)))) (e6 z m xs r x1 k) :=
    f2_ok (fCB_ok (ds := [.int z]) (d := .int (if z < 0 then -z else z)) (by rfl) (by rfl)) (f2_ok (x := .int 10) (y := .int 18) (z := .int (10 ^ 18)) (by rfl) (by rfl) (pow_ok (i := 10) (j := 18) (by decide))) rfl
  by_cases c : (10 : Int) ^ 18 ≤ (if z < 0 then -z else z)
  · rw [decide_eq_true c] at g
    refine ⟨xs ++ [r % 1009], r / 1009, x1, ?_, small_snoc hs r, len r⟩
    have s2 : f2 (fCB (fCons (rdN 3) aNil) cInt) (vK (.int 1009)) dMod (e6 z m xs r x1 k) = .ok (.int (r % 1009)) (e6 z m xs r x1 k) := f2_ok (fCB_ok (ds := [.int r]) (d := .int r) (by rfl) (by rfl)) (by rfl) (mod_ok (by decide))
    have s3 : f2 (rdN 3) (vK (.int 1009)) dFdv (e6 z m (xs ++ [r % 1009]) r x1 k) = .ok (.int (r / 1009)) (e6 z m (xs ++ [r % 1009]) r x1 k) := f2_ok (x := .int r) (y := .int 1009) (by rfl) (by rfl) (fdv_ok ⟨by decide, by decide +kernel⟩)
    unfold b_row
    rw [rSeq_nx (e := e6 z m xs r x1 k) (rSet_ok s1), rIf_t (fAsB_ok g), rSeq_nx (e := e6 z m (xs ++ [r % 1009]) r x1 k) (rExpr_ok (app _ _ _ (by rfl) s2)), rSet_ok s3]
    rfl
  · rw [decide_eq_false c] at g
    refine ⟨xs ++ [x1 / 7 % 1009], r, x1, ?_, small_snoc hs _, len _⟩
    have s2 : f2 (fCB (fCons (f2 (rdN 4) (vK (.int 7)) dFdv) aNil) cInt) (vK (.int 1009)) dMod (e6 z m xs r x1 k) = .ok (.int (x1 / 7 % 1009)) (e6 z m xs r x1 k) :=
      f2_ok (fCB_ok (ds := [.int (x1 / 7)]) (d := .int (x1 / 7)) (fCons_ok (f2_ok (x := .int x1) (y := .int 7) (by rfl) (by rfl) (fdv_ok ⟨by decide, by decide +kernel⟩)) rfl) (by rfl)) (by rfl) (mod_ok (by decide))
    unfold b_row
    rw [rSeq_nx (e := e6 z m xs r x1 k) (rSet_ok s1), rIf_f (fAsB_ok g), rExpr_ok (app _ _ _ (by rfl) s2)]
    rfl
end K57
namespace K57
open PySem PySem.Spec PyProof.Rows L2 Pf
abbrev e6' (z m : Int) (xs : List Int) (r x : Int) (s : Sl) : List Sl := [.im (.int z), .im (.int m), .ow (.l (xs.map .int)), .im (.int r), .im (.int x), s]
theorem row_loop (z m : Int) : ∀ (c j : Nat) (xs : List Int) (r x : Int) (s : Sl), small xs → xs.length + c ≤ 2 ^ 20 →
    ∃ xs' r' x' s', forR (gNm 5) b_row ((List.range' j c).map fun (i : Nat) => D.int (0 + (i : Int))) (e6' z m xs r x s) = .nx (e6' z m xs' r' x' s') ∧ small xs' ∧ xs'.length = xs.length + c
  | 0, j, xs, r, x, s, hs, _ => ⟨xs, r, x, s, by rw [List.range'_zero, List.map_nil, forR], hs, rfl⟩
  | c + 1, j, xs, r, x, s, hs, hl => by
    obtain ⟨xs1, r1, x1, q, hs1, hl1⟩ := row_turn z m xs r x (0 + (j : Int)) hs (by omega)
    obtain ⟨xs2, r2, x2, s2, q2, hs2, hl2⟩ := row_loop z m c (j + 1) xs1 r1 x1 (.im (.int (0 + (j : Int)))) hs1 (by omega)
    refine ⟨xs2, r2, x2, s2, ?_, hs2, by omega⟩
    rw [List.range'_succ, List.map_cons, forR]
    show (match b_row (e6 z m xs r x (0 + (j : Int))) with | .nx e' => _ | .ct e' => _ | .bk e' => _ | r => r) = _
    rw [q]
    exact q2
theorem law_row_eq (z : Int) (m : Nat) (hm : m ≤ 2 ^ 20) : ∃ xs : List Int, F__law_row [.int z, .int m] = .ok (.lst (xs.map .int)) ∧ small xs ∧ xs.length = m := by
  let az : Int := if z < 0 then -z else z
  let x0 : Int := (az * 48271 + 69621) % 2147483647
  obtain ⟨xs, r, x, s, q, hs, hl⟩ := row_loop z m m 0 [] az x0 .no (fun _ h => by cases h) (by show 0 + m ≤ _; omega)
  rw [← List.range_eq_range'] at q
  refine ⟨xs, ?_, hs, by rw [hl]; exact Nat.zero_add m⟩
  have g : wRng1 (fCons (rdN 1) aNil) (e6' z m [] az x0 .no) = .ok ((List.range m).map fun (i : Nat) => D.int (0 + (i : Int))) (e6' z m [] az x0 .no) := wRng1_ok (ds := [.int m]) (fCons_ok (by rfl) rfl) (rng1_eq (by omega) (by omega))
  have p : f2 (fCB (fCons (f2 (f2 (rdN 3) (vK (.int 48271)) dMul) (vK (.int 69621)) dAddU) aNil) cInt) (vK (.int 2147483647)) dMod [.im (.int z), .im (.int m), .ow (.l []), .im (.int az), .no, .no] = .ok (.int x0) [.im (.int z), .im (.int m), .ow (.l []), .im (.int az), .no, .no] := by
    have p1 : dMul (.int az) (.int 48271) = some (.int (az * 48271)) := mul_ok (small64 ⟨by decide, by decide⟩ az).2
    exact f2_ok (fCB_ok (ds := [.int (az * 48271 + 69621)]) (d := .int (az * 48271 + 69621)) (fCons_ok (f2_ok (f2_ok (x := .int az) (y := .int 48271) (by rfl) (by rfl) p1) (by rfl) rfl) rfl) rfl) (by rfl) (mod_ok (by decide))
  show (b__law_row [.im (.int z), .im (.int m), .no, .no, .no, .no]).fn = _
  have w : (rSeq (rFor (wRng1 (fCons (rdN 1) aNil)) (gNm 5) b_row) (rRet (rdN 2))) (e6' z m [] az x0 .no) = .rt (.lst (xs.map .int)) := by
    rw [rSeq_nx ((rFor_ok g).trans q)]
    rfl
  unfold b_row at w
  unfold b__law_row
  rw [rSeq_nx (e := [.im (.int z), .im (.int m), .ow (.l []), .no, .no, .no]) (rSetO_ok (w := .l []) (by rfl)), rSeq_nx (e := [.im (.int z), .im (.int m), .ow (.l []), .im (.int az), .no, .no]) (rSet_ok (d := .int az) (by rfl)), rSeq_nx (e := e6' z m [] az x0 .no) (rSet_ok p), w]
  rfl
end K57
namespace K57
open PySem PySem.Spec PyProof.Rows L2 Pf
theorem cut_front (xs : List D) (k : Nat) : Pf.cutD xs none (some (k : Int)) = xs.take k := by
  unfold Pf.cutD
  rw [HT.sIx_none, HT.sIx_nat, List.drop_zero, Nat.sub_zero]
  rcases Nat.le_total k xs.length with h | h
  · rw [Nat.min_eq_left h]
  · rw [Nat.min_eq_right h, List.take_of_length_le (Nat.le_refl _), List.take_of_length_le h]
abbrev e7 (ns cs : List Int) (w : Int) (xs : List Int) (a b : Sl) : List Sl := [.im (.scr ns), .im (.int 60), .im (.lst (cs.map .int)), .im (.int w), .ow (.l (xs.map .int)), a, b]
theorem app7 (ns cs : List Int) (w : Int) (xs : List Int) (a b : Sl) (f : List Sl → Rs D) (i : Int) (hf : f (e7 ns cs w xs a b) = .ok (.int i) (e7 ns cs w xs a b)) (hl : xs.length < 2 ^ 20) : rExpr (fApp 4 f) (e7 ns cs w xs a b) = .nx (e7 ns cs w (xs ++ [i]) a b) := by
  have q : fApp 4 f (e7 ns cs w xs a b) = .ok .non (e7 ns cs w (xs ++ [i]) a b) := by
    unfold fApp
    show (Rs.bind (f (e7 ns cs w xs a b)) _) = _
    rw [hf]
    show (if (xs.map D.int).length < sizeLine then _ else _) = _
    rw [List.length_map, if_pos (Nat.lt_of_lt_of_le hl (Nat.le_of_ble_eq_true rfl))]
    have m : (xs ++ [i]).map D.int = xs.map D.int ++ [.int i] := List.map_append
    show _ = Rs.ok D.non [.im (.scr ns), .im (.int 60), .im (.lst (cs.map .int)), .im (.int w), .ow (.l ((xs ++ [i]).map .int)), a, b]
    rw [m]
    rfl
  exact rExpr_ok q
theorem inner_loop (ns cs : List Int) (w : Int) : ∀ (ys xs : List Int) (a b : Sl), small xs → small ys → xs.length + ys.length ≤ 2 ^ 20 →
    ∃ xs' b', forR (gNm 6) (rExpr (fApp 4 (rdN 6))) (ys.map .int) (e7 ns cs w xs a b) = .nx (e7 ns cs w xs' a b') ∧ small xs' ∧ xs'.length = xs.length + ys.length
  | [], xs, a, b, hs, _, _ => ⟨xs, b, by rw [List.map_nil, forR], hs, rfl⟩
  | y :: ys, xs, a, b, hs, hy, hl => by
    have hl' : (y :: ys).length = ys.length + 1 := rfl
    have s1 : small (xs ++ [y]) := by
      intro x hx
      obtain hx | hx := List.mem_append.mp hx
      · exact hs x hx
      · rcases List.mem_cons.mp hx with rfl | hx
        · exact hy _ List.mem_cons_self
        · cases hx
    obtain ⟨xs2, b2, q, hs2, hl2⟩ := inner_loop ns cs w ys (xs ++ [y]) a (.im (.int y)) s1 (fun x hx => hy x (List.mem_cons_of_mem _ hx)) (by rw [List.length_append]; show xs.length + 1 + _ ≤ _; omega)
    refine ⟨xs2, b2, ?_, hs2, ?_⟩
    · rw [List.map_cons, forR]
      show (match rExpr (fApp 4 (rdN 6)) (e7 ns cs w xs a (.im (.int y))) with | .nx e' => _ | .ct e' => _ | .bk e' => _ | r => r) = _
      rw [app7 ns cs w xs a (.im (.int y)) (rdN 6) y (by rfl) (by omega)]
      exact q
    · rw [hl2, List.length_append]
      show xs.length + 1 + _ = _
      omega
def b_cells : List Sl → Ro := rFor (fItems (vCall 2 F__law_row (fCons (rdN 5) (fCons (rdN 3) aNil)))) (gNm 6) (rExpr (fApp 4 (rdN 6)))
theorem outer_loop (ns cs : List Int) (w : Nat) (hw : w ≤ 61) : ∀ (ys xs : List Int) (a b : Sl), small xs → xs.length + ys.length * 61 ≤ 2 ^ 20 →
    ∃ xs' a' b', forR (gNm 5) b_cells (ys.map .int) (e7 ns cs w xs a b) = .nx (e7 ns cs w xs' a' b') ∧ small xs' ∧ xs'.length ≤ xs.length + ys.length * 61
  | [], xs, a, b, hs, _ => ⟨xs, a, b, by rw [List.map_nil, forR], hs, by omega⟩
  | y :: ys, xs, a, b, hs, hl => by
    have hl' : (y :: ys).length = ys.length + 1 := rfl
    rw [hl'] at hl
    obtain ⟨rs, r1, r2, r3⟩ := law_row_eq y w (by omega)
    obtain ⟨xs1, b1, q1, hs1, hl1⟩ := inner_loop ns cs w rs xs (.im (.int y)) b hs r2 (by omega)
    obtain ⟨xs2, a2, b2, q2, hs2, hl2⟩ := outer_loop ns cs w hw ys xs1 (.im (.int y)) b1 hs1 (by omega)
    refine ⟨xs2, a2, b2, ?_, hs2, by rw [hl']; omega⟩
    have it : fItems (vCall 2 F__law_row (fCons (rdN 5) (fCons (rdN 3) aNil))) (e7 ns cs w xs (.im (.int y)) b) = .ok (rs.map .int) (e7 ns cs w xs (.im (.int y)) b) := by
      have cl : vCall 2 F__law_row (fCons (rdN 5) (fCons (rdN 3) aNil)) (e7 ns cs w xs (.im (.int y)) b) = .ok (.lst (rs.map .int)) (e7 ns cs w xs (.im (.int y)) b) := vCall_ok (ds := [.int y, .int w]) (fCons_ok (by rfl) (fCons_ok (by rfl) rfl)) rfl r1
      unfold fItems
      rw [cl]
      rfl
    rw [List.map_cons, forR]
    show (match b_cells (e7 ns cs w xs (.im (.int y)) b) with | .nx e' => _ | .ct e' => _ | .bk e' => _ | r => r) = _
    have bc : b_cells (e7 ns cs w xs (.im (.int y)) b) = .nx (e7 ns cs w xs1 (.im (.int y)) b1) := (rFor_ok it).trans q1
    rw [bc]
    exact q2
theorem fill_loop (ns cs : List Int) (w : Int) (a b : Sl) : ∀ (k n : Nat) (xs : List Int), 60 ≤ xs.length + k → k < n → small xs → xs.length < 2 ^ 19 → k ≤ 60 →
    ∃ xs', whileR (fAsB (f2 (ownLen 4) (rdN 1) dLt)) (rExpr (fApp 4 (vK (.int 0)))) n (e7 ns cs w xs a b) = .nx (e7 ns cs w xs' a b) ∧ small xs' ∧ 60 ≤ xs'.length
  | _, 0, _, _, h, _, _, _ => absurd h (Nat.not_lt_zero _)
  | k, n + 1, xs, hk, hn, hs, hl, hk2 => by
    have c : fAsB (f2 (ownLen 4) (rdN 1) dLt) (e7 ns cs w xs a b) = .ok (decide ((xs.length : Int) < 60)) (e7 ns cs w xs a b) := by
      have o : ownLen 4 (e7 ns cs w xs a b) = .ok (.int xs.length) (e7 ns cs w xs a b) := by
        show Rs.ok (D.int ((xs.map D.int).length : Nat)) _ = _
        rw [List.length_map]
      exact fAsB_ok (f2_ok o (by rfl) rfl)
    by_cases h : (xs.length : Int) < 60
    · rw [decide_eq_true h] at c
      cases k with
      | zero => omega
      | succ k =>
        obtain ⟨xs', q, q1, q2⟩ := fill_loop ns cs w a b k n (xs ++ [0]) (by rw [List.length_append]; show 60 ≤ xs.length + 1 + k; omega) (by omega) (by
          intro x hx
          obtain hx | hx := List.mem_append.mp hx
          · exact hs x hx
          · rcases List.mem_cons.mp hx with rfl | hx
            · omega
            · cases hx) (by rw [List.length_append]; show xs.length + 1 < _; omega) (by omega)
        refine ⟨xs', ?_, q1, q2⟩
        rw [while_go c (app7 ns cs w xs a b (vK (.int 0)) 0 (by rfl) (by omega))]
        exact q
    · rw [decide_eq_false h] at c
      exact ⟨xs, while_stop c, hs, by omega⟩
theorem law_numbers_eq (ns : List Int) (hn : ns.length ≤ 63) : ∃ xs : List Int, F__law_numbers [.scr ns, .int 60] = .ok (.lst (xs.map .int)) ∧ small xs ∧ xs.length = 60 := by
  let w : Nat := 1 + 60 / max 1 ns.length
  have hw : w ≤ 61 := by
    have : 60 / max 1 ns.length ≤ 60 := Nat.div_le_self _ _
    show 1 + _ ≤ _
    omega
  obtain ⟨xs1, a1, b1, q1, hs1, hl1⟩ := outer_loop ns ns w hw ns [] .no .no (fun _ h => by cases h) (by show 0 + ns.length * 61 ≤ _; omega)
  have hl1' : xs1.length ≤ 63 * 61 := by
    have : ([] : List Int).length = 0 := rfl
    omega
  obtain ⟨xs2, q2, hs2, hl2⟩ := fill_loop ns ns w a1 b1 60 1000000 xs1 (by omega) (by omega) hs1 (by omega) (by omega)
  refine ⟨xs2.take 60, ?_, fun x hx => hs2 x (List.mem_of_mem_take hx), by rw [List.length_take]; omega⟩
  have p1 : fSl (rdN 0) pNo (fPart (vK (.int 63))) [.im (.scr ns), .im (.int 60), .no, .no, .no, .no, .no] = .ok (.lst (ns.map .int)) [.im (.scr ns), .im (.int 60), .no, .no, .no, .no, .no] := by
    show Rs.ok (D.lst (Pf.cutD (ns.map D.int) none (some ((63 : Nat) : Int)))) _ = _
    rw [cut_front, List.take_of_length_le (by rw [List.length_map]; exact hn)]
  have p2 : f2 (vK (.int 1)) (f2 (rdN 1) (fCB (fCons (vK (.int 1)) (fCons (fCB (fCons (rdN 2) aNil) cLen) aNil)) cMax2) dFdv) dAddU [.im (.scr ns), .im (.int 60), .im (.lst (ns.map .int)), .no, .no, .no, .no] = .ok (.int w) [.im (.scr ns), .im (.int 60), .im (.lst (ns.map .int)), .no, .no, .no, .no] := by
    have l1 : fCB (fCons (rdN 2) aNil) cLen [.im (.scr ns), .im (.int 60), .im (.lst (ns.map .int)), .no, .no, .no, .no] = .ok (.int ns.length) [.im (.scr ns), .im (.int 60), .im (.lst (ns.map .int)), .no, .no, .no, .no] := by
      refine fCB_ok (ds := [.lst (ns.map .int)]) (fCons_ok (by rfl) rfl) ?_
      show some (D.int ((ns.map D.int).length : Nat)) = _
      rw [List.length_map]
    have mx : cMax2 [.int 1, .int ns.length] = some (.int (max 1 ns.length : Nat)) := by
      show some (D.int (if (ns.length : Int) > 1 then (ns.length : Int) else 1)) = _
      by_cases h : (ns.length : Int) > 1
      · rw [if_pos h, Nat.max_eq_right (by omega)]
      · rw [if_neg h, Nat.max_eq_left (by omega)]
        rfl
    have dv : dFdv (.int 60) (.int (max 1 ns.length : Nat)) = some (.int (60 / (max 1 ns.length : Nat))) := fdv_ok ⟨by omega, Nat.lt_of_le_of_lt (Nat.log2_le_self _) (by omega)⟩
    have ad : dAddU (.int 1) (.int (60 / (max 1 ns.length : Nat))) = some (.int w) := by
      show some (D.int (1 + 60 / ((max 1 ns.length : Nat) : Int))) = some (D.int ((1 + 60 / max 1 ns.length : Nat) : Int))
      rw [Int.natCast_add, Int.natCast_ediv]
      rfl
    exact f2_ok (by rfl) (f2_ok (by rfl) (fCB_ok (ds := [.int 1, .int ns.length]) (fCons_ok (by rfl) (fCons_ok l1 rfl)) mx) dv) ad
  have it : fItems (rdN 2) (e7 ns ns w [] .no .no) = .ok (ns.map .int) (e7 ns ns w [] .no .no) := by rfl
  have p3 : fSl (rdN 4) pNo (fPart (rdN 1)) (e7 ns ns w xs2 a1 b1) = .ok (.lst ((xs2.take 60).map .int)) [.im (.scr ns), .im (.int 60), .im (.lst (ns.map .int)), .im (.int w), .im (.lst (xs2.map .int)), a1, b1] := by
    show Rs.ok (D.lst (Pf.cutD (xs2.map D.int) none (some ((60 : Nat) : Int)))) _ = _
    rw [cut_front, List.map_take]
    rfl
  have z : (rSeq (rFor (fItems (rdN 2)) (gNm 5) b_cells) (rSeq (whileR (fAsB (f2 (ownLen 4) (rdN 1) dLt)) (rExpr (fApp 4 (vK (.int 0)))) fuel) (rRet (fSl (rdN 4) pNo (fPart (rdN 1)))))) (e7 ns ns w [] .no .no) = .rt (.lst ((xs2.take 60).map .int)) := by
    rw [rSeq_nx ((rFor_ok it).trans q1), rSeq_nx (f := whileR _ _ fuel) q2, rRet_ok p3]
  show (b__law_numbers [.im (.scr ns), .im (.int 60), .no, .no, .no, .no, .no]).fn = _
  unfold b_cells at z
  unfold b__law_numbers
  rw [rSeq_nx (e := [.im (.scr ns), .im (.int 60), .im (.lst (ns.map .int)), .no, .no, .no, .no]) (rSet_ok p1), rSeq_nx (e := [.im (.scr ns), .im (.int 60), .im (.lst (ns.map .int)), .im (.int w), .no, .no, .no]) (rSet_ok p2), rSeq_nx (e := e7 ns ns w [] .no .no) (rSetO_ok (w := .l []) (by rfl)), z]
  rfl
theorem ix_num (xs : List Int) (i : Nat) (h : i < xs.length) : ixD (.lst (xs.map .int)) (.int i) = some (.int (xs.getD i 0)) := by
  show atI (xs.map D.int) i = _
  unfold atI
  have a : ixN (xs.map D.int).length i = some i := by
    unfold ixN
    rw [if_pos (by omega), if_pos (by rw [List.length_map]; omega), Int.toNat_natCast]
  rw [a]
  show (xs.map D.int)[i]? = _
  rw [List.getElem?_map, List.getD_eq_getElem?_getD, List.getElem?_eq_getElem h]
  rfl
theorem num_small {xs : List Int} (hs : small xs) {i : Nat} (h : i < xs.length) : 0 ≤ xs.getD i 0 ∧ xs.getD i 0 < 1009 := by
  rw [List.getD_eq_getElem?_getD, List.getElem?_eq_getElem h]
  exact hs _ (List.getElem_mem h)
end K57
namespace K57
open PySem PySem.Spec PyProof.Rows L2 Pf
open SX (S S_len split_S)
/-! ### words as lists of signs -/
abbrev W := List Nat
abbrev sD (w : W) : D := .str (S w)
def ltr (c : Nat) : Bool := Nat.ble 97 c && Nat.ble c 122
def fig (c : Nat) : Bool := Nat.ble 48 c && Nat.ble c 57
def okc (c : Nat) : Bool := ltr c || (fig c || (c == 45 || c == 95))
structure Gd (w : W) : Prop where
  ne : w ≠ []
  le : w.length ≤ 70
  ok : ∀ c ∈ w, okc c = true
theorem ltr_iff {c : Nat} : ltr c = true ↔ 97 ≤ c ∧ c ≤ 122 := by simp [ltr]
theorem fig_iff {c : Nat} : fig c = true ↔ 48 ≤ c ∧ c ≤ 57 := by simp [fig]
theorem okc_iff {c : Nat} : okc c = true ↔ (97 ≤ c ∧ c ≤ 122) ∨ (48 ≤ c ∧ c ≤ 57) ∨ c = 45 ∨ c = 95 := by
  unfold okc
  rw [Bool.or_eq_true, Bool.or_eq_true, Bool.or_eq_true, ltr_iff, fig_iff, beq_iff_eq, beq_iff_eq]
theorem okc_lt {c : Nat} (h : okc c = true) : c < 128 ∧ c ≠ 32 := by
  rw [okc_iff] at h
  omega
theorem mem_eq {c : Nat} {l : List Nat} {p : Bool} (h : c ∈ l ↔ p = true) : decide (c ∈ l) = p := by
  cases p with
  | true => exact decide_eq_true (h.mpr rfl)
  | false => exact decide_eq_false fun z => by cases h.mp z
theorem cps_abc : (Str.ofString "abcdefghijklmnopqrstuvwxyz").cps.toList = List.range' 97 26 := by decide +kernel
theorem cps_fig : (Str.ofString "0123456789").cps.toList = List.range' 48 10 := by decide +kernel
theorem cps_alnum : (Str.ofString "abcdefghijklmnopqrstuvwxyz0123456789").cps.toList = List.range' 97 26 ++ List.range' 48 10 := by decide +kernel
theorem mem_abc (c : Nat) : decide (c ∈ (Str.ofString "abcdefghijklmnopqrstuvwxyz").cps.toList) = ltr c := mem_eq (by
  rw [cps_abc, List.mem_range'_1, ltr_iff]
  omega)
theorem mem_fig (c : Nat) : decide (c ∈ (Str.ofString "0123456789").cps.toList) = fig c := mem_eq (by
  rw [cps_fig, List.mem_range'_1, fig_iff]
  omega)
theorem mem_alnum (c : Nat) : decide (c ∈ (Str.ofString "abcdefghijklmnopqrstuvwxyz0123456789").cps.toList) = (ltr c || fig c) := mem_eq (by
  rw [cps_alnum, List.mem_append, List.mem_range'_1, List.mem_range'_1, Bool.or_eq_true, ltr_iff, fig_iff]
  omega)
theorem in_abc (c : Nat) : dInT false (.str ⟨#[c]⟩) (.str (Str.ofString "abcdefghijklmnopqrstuvwxyz")) = some (.bl (ltr c)) := by
  rw [← mem_abc]; rfl
theorem nin_abc (c : Nat) : dInT true (.str ⟨#[c]⟩) (.str (Str.ofString "abcdefghijklmnopqrstuvwxyz")) = some (.bl (!ltr c)) := by
  rw [← mem_abc]; rfl
theorem in_fig (c : Nat) : dInT false (.str ⟨#[c]⟩) (.str (Str.ofString "0123456789")) = some (.bl (fig c)) := by
  rw [← mem_fig]; rfl
theorem in_alnum (c : Nat) : dInT false (.str ⟨#[c]⟩) (.str (Str.ofString "abcdefghijklmnopqrstuvwxyz0123456789")) = some (.bl (ltr c || fig c)) := by
  rw [← mem_alnum]; rfl
theorem len_w {w : W} (h : w.length ≤ 4000) : cLenS [sD w] = some (.int ((w.length : Nat) : Int)) := by
  show (if (S w).length ≤ sizeLine then some (D.int (((S w).length : Nat) : Int)) else none) = _
  rw [if_pos (by rw [S_len]; exact len_le h)]
  rw [S_len]
theorem ix_w (c : Nat) (r : W) : ixD (sD (c :: r)) (.int 0) = some (.str ⟨#[c]⟩) := by
  show (if 0 ≤ (0 : Int) ∧ (0 : Int) < 2 ^ 63 ∧ (0 : Int) < ((S (c :: r)).length : Nat) then _ else none) = _
  rw [if_pos ⟨by decide, by decide, by rw [S_len, List.length_cons]; omega⟩]
  rfl
theorem tvs_bl {α : Type} (p : α → Bool) : ∀ l : List α, tvs (l.map fun x => D.bl (p x)) = some (l.map p)
  | [] => rfl
  | a :: l => by
    rw [List.map_cons, tvs, tvs_bl p l]
    rfl
theorem allL {α : Type} (p : α → Bool) (l : List α) : cAllL [.lst (l.map fun x => .bl (p x))] = some (.bl (l.all p)) := by
  show (tvs _).map (fun bs => D.bl (bs.all id)) = _
  rw [tvs_bl, Option.map_some, List.all_map]
  rfl
/-! ### names -/
def nameB (w : W) : Bool := Nat.ble w.length 12 && (ltr (w.headD 0) && w.all fun c => ltr c || fig c)
theorem law_is_name_eq {w : W} (h : Gd w) : F__law_is_name [sD w] = .ok (.bl (nameB w)) := by
  obtain ⟨ne, le, ok⟩ := h
  cases w with
  | nil => exact absurd rfl ne
  | cons c r =>
    have lw := len_w (w := c :: r) (by omega)
    have ix := ix_w c r
    have hl : (c :: r).length = r.length + 1 := rfl
    have al := allL (fun c => ltr c || fig c) (c :: r)
    have na := nin_abc c
    have tn : turnsD (gNm 1) tYes' (f2 (rdN 1) (vK (.str "abcdefghijklmnopqrstuvwxyz0123456789")) (dInT false)) [.im (sD (c :: r)), .no] (sgns (S (c :: r))) = some ((c :: r).map fun x => .bl (ltr x || fig x)) :=
      turns_mapL (fun c => D.str ⟨#[c]⟩) (fun x => D.bl (ltr x || fig x)) (c :: r) fun x _ => by
        have q := in_alnum x
        generalize sD (c :: r) = Z at *
        simp_arith [q]
    have sz : ((c :: r).map fun x => D.bl (ltr x || fig x)).length ≤ 4000 := by rw [List.length_map]; omega
    show (b__law_is_name [.im (sD (c :: r)), .no]).fn = _
    unfold b__law_is_name nameB
    rw [show (c :: r).headD 0 = c from rfl]
    generalize (c :: r).all (fun c => ltr c || fig c) = z at *
    generalize hY : (c :: r).map (fun x => D.bl (ltr x || fig x)) = Y at *
    generalize hn : (c :: r).length = n at *
    generalize hS : sgns (S (c :: r)) = SS at *
    have ch : kChars (.ok (sD (c :: r)) [.im (sD (c :: r)), .no]) = .ok SS [.im (sD (c :: r)), .no] := by rw [← hS]; rfl
    generalize sD (c :: r) = Z at *
    by_cases h12 : n ≤ 12
    · rw [Nat.ble_eq_true_of_le h12]
      cases hc : ltr c with
      | false =>
        rw [hc] at na
        simp_arith [lw, ix, na]
        rfl
      | true =>
        rw [hc] at na
        simp_arith [lw, ix, na, tChars, ch, tn, al]
        rfl
    · have : Nat.ble n 12 = false := by
        cases q : Nat.ble n 12 with
        | false => rfl
        | true => exact absurd (Nat.le_of_ble_eq_true q) h12
      rw [this]
      simp_arith [lw]
      rfl
end K57
namespace K57
open PySem PySem.Spec PyProof.Rows L2 Pf
open SX (S S_len split_S)
theorem is_name_eq {w : W} (h : Gd w) : F_is_name [sD w] = .ok (.bl (nameB w)) := by
  obtain ⟨ne, le, ok⟩ := h
  cases w with
  | nil => exact absurd rfl ne
  | cons c r =>
    have lw := len_w (w := c :: r) (by omega)
    have ix := ix_w c r
    have hl : (c :: r).length = r.length + 1 := rfl
    have ia := in_abc c
    have gx : ∀ e : List Sl, e = [.im (sD (c :: r)), .no] → turnsD (gNm 1) tYes' (fOrT (f2 (rdN 1) (vK (.str "abcdefghijklmnopqrstuvwxyz")) (dInT false)) (f2 (rdN 1) (vK (.str "0123456789")) (dInT false))) e (sgns (S (c :: r))) = some ((c :: r).map fun x => .bl (ltr x || fig x)) := fun e he => by
      subst he
      exact turns_mapL (fun c => D.str ⟨#[c]⟩) (fun x => D.bl (ltr x || fig x)) (c :: r) fun x _ => by
        have q1 := in_abc x
        have q2 := in_fig x
        generalize sD (c :: r) = Z at *
        cases hx : ltr x with
        | true =>
          rw [hx] at q1
          simp_arith [q1]
          rfl
        | false =>
          rw [hx] at q1
          simp_arith [q1, q2]
          rfl
    have al : resAll ((c :: r).map fun x => .bl (ltr x || fig x)) = some (.bl ((c :: r).all fun c => ltr c || fig c)) := by
      show (bls _).map (fun bs => D.bl (bs.all id)) = _
      have : ∀ l : List Nat, bls (l.map fun x => D.bl (ltr x || fig x)) = some (l.map fun x => ltr x || fig x) := fun l => by
        induction l with
        | nil => rfl
        | cons a l ih =>
          rw [List.map_cons, bls, ih]
          rfl
      rw [this, Option.map_some, List.all_map]
      rfl
    show (b_is_name [.im (sD (c :: r)), .no]).fn = _
    unfold b_is_name nameB
    rw [show (c :: r).headD 0 = c from rfl]
    have tn := gx _ rfl
    clear gx
    generalize (c :: r).all (fun c => ltr c || fig c) = z at *
    generalize hY : (c :: r).map (fun x => D.bl (ltr x || fig x)) = Y at *
    generalize hn : (c :: r).length = n at *
    generalize hS : sgns (S (c :: r)) = SS at *
    have ch : kChars (.ok (sD (c :: r)) [.im (sD (c :: r)), .no]) = .ok SS [.im (sD (c :: r)), .no] := by rw [← hS]; rfl
    generalize sD (c :: r) = Z at *
    by_cases h12 : n ≤ 12
    · rw [Nat.ble_eq_true_of_le h12]
      cases hc : ltr c with
      | false =>
        rw [hc] at ia
        simp_arith [lw, ix, ia]
        rfl
      | true =>
        rw [hc] at ia
        simp_arith [lw, ix, ia, tChars, ch, tn, al]
        rfl
    · have : Nat.ble n 12 = false := by
        cases q : Nat.ble n 12 with
        | false => rfl
        | true => exact absurd (Nat.le_of_ble_eq_true q) h12
      rw [this]
      simp_arith [lw]
      rfl
/-! ### equal texts -/
def okS (w : W) : Bool := w.all fun c => Nat.blt c 1114112
theorem strOk_w {w : W} (h : okS w = true) : PyData.strOk (S w) = true := by
  unfold PyData.strOk
  rw [← Array.all_toList]
  refine List.all_eq_true.mpr fun c hc => ?_
  have := List.all_eq_true.mp h c hc
  have q := Nat.le_of_ble_eq_true this
  exact decide_eq_true (show c < 1114112 by omega)
theorem beq_w (a b : W) : (S a == S b) = decide (a = b) := by
  by_cases h : a = b
  · subst h
    rw [beq_self_eq_true, decide_eq_true rfl]
  · rw [decide_eq_false h]
    exact beq_eq_false_iff_ne.mpr fun z => h (SX.S_inj z)
theorem eq_w {a b : W} (ha : okS a = true) (hb : okS b = true) : dEq (sD a) (sD b) = some (.bl (decide (a = b))) := by
  rw [← beq_w]
  exact dEq_str (strOk_w ha) (strOk_w hb)
theorem ne_w {a b : W} (ha : okS a = true) (hb : okS b = true) : dNe (sD a) (sD b) = some (.bl (!decide (a = b))) := by
  have h := eq_w ha hb
  revert h
  unfold dEq dNe
  cases D.eqv (sD a) (sD b) with
  | none => exact fun h => by cases h
  | some x =>
    intro h
    have : x = decide (a = b) := by
      have h := Option.some.inj h
      exact D.bl.inj h
    rw [this]
    rfl
theorem Gd.okS {w : W} (h : Gd w) : okS w = true := List.all_eq_true.mpr fun c hc => by
  have := (okc_lt (h.ok c hc)).1
  exact Nat.ble_eq_true_of_le (by omega)
/-! ### numbers -/
def numB (w : W) : Bool := Nat.ble w.length 61 && (!(Nat.blt 1 w.length && w.headD 0 == 48) && w.all fig)
theorem dig_fig : ∀ c : Nat, c < 128 → PySem.Unicode.isDigit c = fig c := by decide +kernel
theorem lit0 : Str.ofString "0" = S [48] := by decide +kernel
theorem isdigit_w {w : W} (h : Gd w) : Txt.isdigit (S w) = w.all fig := by
  have e : (S w).cps.all PySem.Unicode.isDigit = w.all fig := by
    rw [← Array.all_toList]
    show w.all PySem.Unicode.isDigit = _
    have : ∀ l : List Nat, (∀ c ∈ l, okc c = true) → l.all PySem.Unicode.isDigit = l.all fig := fun l => by
      induction l with
      | nil => exact fun _ => rfl
      | cons c l ih =>
        intro hk
        rw [List.all_cons, List.all_cons, ih (fun x hx => hk x (List.mem_cons_of_mem _ hx)), dig_fig c (okc_lt (hk c List.mem_cons_self)).1]
    exact this w h.ok
  unfold Txt.isdigit
  rw [e]
  have : decide ((S w).length > 0) = true := by
    rw [S_len]
    exact decide_eq_true (List.length_pos_iff.mpr h.ne)
  rw [this, Bool.true_and]
theorem isascii_w {w : W} (h : Gd w) : Txt.isascii (S w) = true := by
  unfold Txt.isascii
  rw [← Array.all_toList]
  exact List.all_eq_true.mpr fun c hc => decide_eq_true (okc_lt (h.ok c hc)).1
theorem ble_f {a b : Nat} (h : b < a) : Nat.ble a b = false := by
  cases q : Nat.ble a b with
  | false => rfl
  | true => exact absurd (Nat.le_of_ble_eq_true q) (by omega)
theorem law_is_number_eq {w : W} (h : Gd w) : F__law_is_number [sD w] = .ok (.bl (numB w)) := by
  obtain ⟨ne, le, ok⟩ := h
  cases w with
  | nil => exact absurd rfl ne
  | cons c r =>
    have lw := len_w (w := c :: r) (by omega)
    have ix := ix_w c r
    have hl : (c :: r).length = r.length + 1 := rfl
    have al := allL fig (c :: r)
    have oc : okS [c] = true := by
      have := (okc_lt (ok c List.mem_cons_self)).1
      show (Nat.blt c 1114112 && true) = true
      rw [show Nat.blt c 1114112 = true from Nat.ble_eq_true_of_le (by omega)]
      rfl
    have eq : dEq (.str ⟨#[c]⟩) (.str (Str.ofString "0")) = some (.bl (c == 48)) := by
      rw [lit0]
      refine (eq_w (a := [c]) (b := [48]) oc rfl).trans ?_
      by_cases h : c = 48
      · subst h; rfl
      · rw [decide_eq_false (by simp [h]), beq_eq_false_iff_ne.mpr h]
    have tn : turnsD (gNm 1) tYes' (f2 (rdN 1) (vK (.str "0123456789")) (dInT false)) [.im (sD (c :: r)), .no] (sgns (S (c :: r))) = some ((c :: r).map fun x => .bl (fig x)) :=
      turns_mapL (fun c => D.str ⟨#[c]⟩) (fun x => D.bl (fig x)) (c :: r) fun x _ => by
        have q := in_fig x
        generalize sD (c :: r) = Z at *
        simp_arith [q]
    have sz : ((c :: r).map fun x => D.bl (fig x)).length ≤ 4000 := by rw [List.length_map]; omega
    show (b__law_is_number [.im (sD (c :: r)), .no]).fn = _
    unfold b__law_is_number numB
    rw [show (c :: r).headD 0 = c from rfl]
    generalize (c :: r).all fig = z at *
    generalize hY : (c :: r).map (fun x => D.bl (fig x)) = Y at *
    generalize hn : (c :: r).length = n at *
    generalize hS : sgns (S (c :: r)) = SS at *
    have ch : kChars (.ok (sD (c :: r)) [.im (sD (c :: r)), .no]) = .ok SS [.im (sD (c :: r)), .no] := by rw [← hS]; rfl
    generalize sD (c :: r) = Z at *
    by_cases h61 : n ≤ 61
    · rw [Nat.ble_eq_true_of_le h61]
      by_cases h1 : 1 < n
      · rw [show Nat.blt 1 n = true from Nat.ble_eq_true_of_le (by omega)]
        cases hc : c == 48 with
        | true =>
          rw [hc] at eq
          simp_arith [lw, ix, eq]
          rfl
        | false =>
          rw [hc] at eq
          simp_arith [lw, ix, eq, tChars, ch, tn, al]
          rfl
      · rw [show Nat.blt 1 n = false from ble_f (by omega)]
        simp_arith [lw, tChars, ch, tn, al]
        rfl
    · rw [ble_f (by omega)]
      simp_arith [lw]
      rfl
theorem is_number_eq {w : W} (h : Gd w) : F_is_written_number [sD w, .int 61] = .ok (.bl (numB w)) := by
  have e0 : dEq (sD w) (.str (Str.ofString "0")) = some (.bl (decide (w = [48]))) := by
    rw [lit0]
    exact eq_w h.okS rfl
  have ia := isascii_w h
  have id := isdigit_w h
  obtain ⟨ne, le, ok⟩ := h
  cases w with
  | nil => exact absurd rfl ne
  | cons c r =>
    have lw := len_w (w := c :: r) (by omega)
    have ix := ix_w c r
    have hl : (c :: r).length = r.length + 1 := rfl
    have oc : okS [c] = true := by
      have := (okc_lt (ok c List.mem_cons_self)).1
      show (Nat.blt c 1114112 && true) = true
      rw [show Nat.blt c 1114112 = true from Nat.ble_eq_true_of_le (by omega)]
      rfl
    have nq : dNe (.str ⟨#[c]⟩) (.str (Str.ofString "0")) = some (.bl (!(c == 48))) := by
      rw [lit0]
      refine (ne_w (a := [c]) (b := [48]) oc rfl).trans ?_
      by_cases h : c = 48
      · subst h; rfl
      · rw [decide_eq_false (by simp [h]), beq_eq_false_iff_ne.mpr h]
    show (b_is_written_number [.im (sD (c :: r)), .im (.int 61)]).fn = _
    unfold b_is_written_number
    by_cases h0 : c :: r = [48]
    · rw [decide_eq_true h0] at e0
      rw [h0]
      rw [h0] at e0
      generalize sD [48] = Z at *
      simp_arith [e0]
      rfl
    · rw [decide_eq_false h0] at e0
      have key : numB (c :: r) = (Nat.ble (c :: r).length 61 && ((c :: r).all fig && !(c == 48))) := by
        unfold numB
        rw [show (c :: r).headD 0 = c from rfl]
        cases hc : c == 48 with
        | false => simp
        | true =>
          have : c = 48 := beq_iff_eq.mp hc
          subst this
          cases r with
          | nil => exact absurd rfl h0
          | cons d r =>
            rw [show Nat.blt 1 (48 :: d :: r).length = true from Nat.ble_eq_true_of_le (by simp)]
            simp
      rw [key]
      generalize hz : (c :: r).all fig = z at *
      generalize hn : (c :: r).length = n at *
      generalize hb : (c == 48) = b at *
      by_cases h61 : n ≤ 61
      · rw [Nat.ble_eq_true_of_le h61]
        cases z with
        | false =>
          simp_arith [e0, lw, tStrB, wStrB, ia, id]
          rfl
        | true =>
          simp_arith [e0, lw, tStrB, wStrB, ia, id, ix, nq]
          cases b <;> rfl
      · rw [ble_f (by omega)]
        simp_arith [e0, lw]
        rfl
end K57
namespace K57
open PySem PySem.Spec PyProof.Rows L2 Pf
open SX (S S_len split_S)
theorem cut_back (xs : List D) (k : Nat) (h : k ≤ xs.length) : Pf.cutD xs (some (k : Int)) none = xs.drop k := by
  unfold Pf.cutD
  rw [HT.sIx_none, HT.sIx_nat, Nat.min_eq_left h]
  exact List.take_of_length_le (Nat.le_of_eq (by rw [List.length_drop]))
/-! ### the tables -/
def lk {α : Type} (z : W) : List (W × α) → Option α
  | [] => none
  | q :: r => if z = q.1 then some q.2 else lk z r
theorem atT_lk {α : Type} (g : α → D) (z : W) : ∀ l : List (W × α), atT (l.map fun q => (S q.1, g q.2)) (S z) = (lk z l).map g
  | [] => rfl
  | q :: r => by
    rw [List.map_cons, Pf.atT, lk]
    by_cases h : z = q.1
    · rw [if_pos (show S z = S q.1 by rw [h]), if_pos h]
      rfl
    · rw [if_neg (fun e => h (SX.S_inj e)), if_neg h]
      exact atT_lk g z r
abbrev w_scheme : W := [115, 99, 104, 101, 109, 101]
abbrev w_product : W := [112, 114, 111, 100, 117, 99, 116]
abbrev w_list : W := [108, 105, 115, 116]
abbrev w_remove : W := [114, 101, 109, 111, 118, 101]
abbrev w_drop : W := [100, 114, 111, 112]
abbrev w_answer : W := [97, 110, 115, 119, 101, 114]
abbrev w_answers : W := [97, 110, 115, 119, 101, 114, 115]
abbrev w_print : W := [112, 114, 105, 110, 116]
abbrev w_schemes : W := [115, 99, 104, 101, 109, 101, 115]
abbrev w_questions : W := [113, 117, 101, 115, 116, 105, 111, 110, 115]
abbrev w_undo : W := [117, 110, 100, 111]
abbrev w_redo : W := [114, 101, 100, 111]
abbrev w_ask : W := [97, 115, 107]
abbrev w_points : W := [112, 111, 105, 110, 116, 115]
abbrev w_kind : W := [107, 105, 110, 100]
abbrev w_greatest : W := [103, 114, 101, 97, 116, 101, 115, 116]
abbrev w_bound : W := [98, 111, 117, 110, 100]
def beh : List (W × Int) := [(w_scheme, 1), (w_product, 3), (w_list, 2), (w_remove, 1), (w_drop, 1), (w_answer, 1), (w_answers, 0), (w_print, 1), (w_schemes, 0), (w_questions, 0), (w_undo, 0), (w_redo, 0)]
def askd : List (W × (Int × Int)) := [(w_points, (0, 0)), (w_kind, (2, 2)), (w_greatest, (0, 6)), (w_bound, (0, 6))]
theorem kv_beh : kv_NAMES_BEHIND = beh.map fun q => (S q.1, D.int q.2) := by rfl
theorem kv_ask : kv_NUMBERS_ASKED = askd.map fun q => (S q.1, D.tup [.int q.2.1, .int q.2.2]) := by rfl
theorem at_beh (z : W) : atT kv_NAMES_BEHIND (S z) = (lk z beh).map D.int := by rw [kv_beh]; exact atT_lk D.int z beh
theorem at_ask (z : W) : atT kv_NUMBERS_ASKED (S z) = (lk z askd).map fun q : Int × Int => D.tup [.int q.1, .int q.2] := by rw [kv_ask]; exact atT_lk (fun q : Int × Int => D.tup [.int q.1, .int q.2]) z askd
/-! ### questions -/
def qst (r : W) (m : Nat) : Bool := match lk r askd with
  | some (a, b) => decide (a ≤ (m : Int)) && decide ((m : Int) ≤ b)
  | none => false
theorem is_question_eq (r : W) (m : Nat) : F_is_question [sD r, .int (m : Int)] = .ok (.bl (qst r m)) := by
  show (b_is_question [.im (sD r), .im (.int (m : Int)), .no, .no]).fn = _
  unfold b_is_question qst
  have ha := at_ask r
  cases h : lk r askd with
  | none =>
    rw [h] at ha
    have k : kInC kv_NUMBERS_ASKED false (.ok (sD r) [.im (sD r), .im (.int (m : Int)), .no, .no]) = .ok true [.im (sD r), .im (.int (m : Int)), .no, .no] := by
      refine wInC.trans ?_
      rw [ha]
      rfl
    generalize sD r = Z at *
    simp_arith [tInC, k]
  | some q =>
    obtain ⟨a, b⟩ := q
    rw [h] at ha
    have k : kInC kv_NUMBERS_ASKED false (.ok (sD r) [.im (sD r), .im (.int (m : Int)), .no, .no]) = .ok false [.im (sD r), .im (.int (m : Int)), .no, .no] := by
      refine wInC.trans ?_
      rw [ha]
      rfl
    have u : kUnC kv_NUMBERS_ASKED 2 (gsC (gNm 2) (gsC (gNm 3) gsN)) (.ok (sD r) [.im (sD r), .im (.int (m : Int)), .no, .no]) = .nx [.im (sD r), .im (.int (m : Int)), .im (.int a), .im (.int b)] := wUnC (i := 2) (j := 3) ha
    generalize sD r = Z at *
    dsimp only
    by_cases h1 : a ≤ (m : Int)
    · rw [decide_eq_true h1]
      by_cases h2 : (m : Int) ≤ b
      · rw [decide_eq_true h2]
        simp_arith [tInC, tUnC, k, u]
        rfl
      · rw [decide_eq_false h2]
        simp_arith [tInC, tUnC, k, u]
        rfl
    · rw [decide_eq_false h1]
      simp_arith [tInC, tUnC, k, u]
      rfl
/-! ### a session's words -/
def asks (rest : List W) : Bool := match rest with
  | r0 :: r1 :: r2 :: tl => qst r1 tl.length && (nameB r0 && (nameB r2 && tl.all numB))
  | _ => false
def cmd (f : W) (rest : List W) : Bool := if f = w_ask then asks rest else (lk f beh == some (rest.length : Int)) && rest.all nameB
abbrev wsD (ws : List W) : D := .lst (ws.map sD)
theorem resAll_bl {α : Type} (p : α → Bool) (l : List α) : resAll (l.map fun x => .bl (p x)) = some (.bl (l.all p)) := by
  show (bls _).map (fun bs => D.bl (bs.all id)) = _
  have : ∀ l : List α, bls (l.map fun x => D.bl (p x)) = some (l.map p) := fun l => by
    induction l with
    | nil => rfl
    | cons a l ih =>
      rw [List.map_cons, bls, ih]
      rfl
  rw [this, Option.map_some, List.all_map]
  rfl
theorem sl_from (ws : List W) (k : Nat) (h : k ≤ ws.length) : slD (some (k : Int)) none (wsD ws) = some (wsD (ws.drop k)) := by
  show some (D.lst (cutD (ws.map sD) (some (k : Int)) none)) = _
  rw [cut_back _ _ (by rw [List.length_map]; exact h), ← List.map_drop]
theorem ix_ws (ws : List W) (k : Nat) (w : W) (h : ws[k]? = some w) : ixD (wsD ws) (.int (k : Int)) = some (sD w) := by
  have hk : k < ws.length := (List.getElem?_eq_some_iff.mp h).1
  rw [x_ixL (by omega) (by rw [List.length_map]; omega), List.getElem?_map, Int.toNat_natCast, h]
  rfl
theorem len_ws (ws : List W) : cLen [wsD ws] = some (.int ((ws.length : Nat) : Int)) := by
  show some (D.int (((ws.map sD).length : Nat) : Int)) = _
  rw [List.length_map]
theorem names_turns (ws : List W) (h : ∀ w ∈ ws, Gd w) {e : List Sl} {z : Sl} (he : e = [z, .no]) : turnsD (gNm 1) tYes' (vCall 1 F_is_name (fCons (rdN 1) aNil)) e (ws.map sD) = some (ws.map fun w => .bl (nameB w)) := by
  subst he
  exact turns_mapL sD (fun w => D.bl (nameB w)) ws fun w hw => by
    have q := is_name_eq (h w hw)
    generalize sD w = Z at *
    simp_arith [q]
theorem lit_ask : Str.ofString "ask" = S w_ask := by decide +kernel
end K57
namespace K57
open PySem PySem.Spec PyProof.Rows L2 Pf
open SX (S S_len split_S)
theorem is_asking_eq (f : W) (rest : List W) (h : ∀ w ∈ rest, Gd w) (hl : rest.length ≤ 20) : F_is_asking [wsD (f :: rest)] = .ok (.bl (asks rest)) := by
  have ln := len_ws (f :: rest)
  have hc : (f :: rest).length = rest.length + 1 := rfl
  show (b_is_asking [.im (wsD (f :: rest)), .no, .no, .no]).fn = _
  unfold b_is_asking
  match rest, h, hl, ln, hc with
  | [], h, hl, ln, hc =>
    rw [hc] at ln
    have n0 : ([] : List W).length = 0 := rfl
    generalize ([] : List W).length = n at *
    generalize wsD [f] = Z at *
    simp_arith [ln]
    rfl
  | [r0], h, hl, ln, hc =>
    rw [hc] at ln
    have n0 : ([r0] : List W).length = 1 := rfl
    generalize ([r0] : List W).length = n at *
    generalize wsD [f, r0] = Z at *
    simp_arith [ln]
    rfl
  | [r0, r1], h, hl, ln, hc =>
    rw [hc] at ln
    have n0 : ([r0, r1] : List W).length = 2 := rfl
    generalize ([r0, r1] : List W).length = n at *
    generalize wsD [f, r0, r1] = Z at *
    simp_arith [ln]
    rfl
  | r0 :: r1 :: r2 :: tl, h, hl, ln, hc =>
    have i1 : ixD (wsD (f :: r0 :: r1 :: r2 :: tl)) (.int 1) = some (sD r0) := ix_ws (f :: r0 :: r1 :: r2 :: tl) 1 r0 rfl
    have i2 : ixD (wsD (f :: r0 :: r1 :: r2 :: tl)) (.int 2) = some (sD r1) := ix_ws (f :: r0 :: r1 :: r2 :: tl) 2 r1 rfl
    have i3 : ixD (wsD (f :: r0 :: r1 :: r2 :: tl)) (.int 3) = some (sD r2) := ix_ws (f :: r0 :: r1 :: r2 :: tl) 3 r2 rfl
    have s4 : slD (some 4) none (wsD (f :: r0 :: r1 :: r2 :: tl)) = some (wsD tl) := sl_from (f :: r0 :: r1 :: r2 :: tl) 4 (by simp)
    have q := is_question_eq r1 tl.length
    have nm0 := is_name_eq (h r0 (by simp))
    have nm2 := is_name_eq (h r2 (by simp))
    have tn : turnsD (gNm 3) tYes' (vCallD 1 61 F_is_written_number (fCons (rdN 3) aNil)) [.im (wsD (f :: r0 :: r1 :: r2 :: tl)), .im (.int (tl.length : Int)), .im (wsD tl), .no] (tl.map sD) = some (tl.map fun w => .bl (numB w)) :=
      turns_mapL sD (fun w => D.bl (numB w)) tl fun w hw => by
        have q := is_number_eq (h w (by simp [hw]))
        generalize wsD (f :: r0 :: r1 :: r2 :: tl) = Z1 at *
        generalize wsD tl = Z2 at *
        generalize sD w = Z at *
        simp_arith [tCallD, wCallD, q]
    have al := resAll_bl numB tl
    have hn : (r0 :: r1 :: r2 :: tl).length = tl.length + 3 := rfl
    have it : (wsD tl).items = some (tl.map sD) := rfl
    have ht : ((((f :: r0 :: r1 :: r2 :: tl).length : Nat) : Int) - 4) = (tl.length : Int) := by
      show (((tl.length + 1 + 1 + 1 + 1 : Nat) : Int) - 4) = _
      omega
    show _ = Rf.ok (.bl (qst r1 tl.length && (nameB r0 && (nameB r2 && tl.all numB))))
    generalize tl.all numB = z at *
    generalize qst r1 tl.length = b at *
    generalize nameB r0 = b0 at *
    generalize nameB r2 = b2 at *
    generalize hY : tl.map (fun w => D.bl (numB w)) = Y at *
    generalize hY2 : tl.map sD = Y2 at *
    have hn0 : 0 ≤ (tl.length : Int) := by omega
    generalize ((f :: r0 :: r1 :: r2 :: tl).length : Int) = m at *
    generalize (tl.length : Int) = n at *
    generalize wsD (f :: r0 :: r1 :: r2 :: tl) = Z1 at *
    generalize wsD tl = Z2 at *
    generalize sD r0 = R0 at *
    generalize sD r1 = R1 at *
    generalize sD r2 = R2 at *
    cases b with
    | false =>
      simp_arith [ln, ht, i2, q]
      rfl
    | true =>
      cases b0 with
      | false =>
        simp_arith [ln, ht, i1, i2, i3, s4, q, nm0]
        rfl
      | true =>
        cases b2 with
        | false =>
          simp_arith [ln, ht, i1, i2, i3, s4, q, nm0, nm2]
          rfl
        | true =>
          simp_arith [ln, ht, i1, i2, i3, s4, q, nm0, nm2, it, tn, al]
          rfl
end K57
namespace K57
open PySem PySem.Spec PyProof.Rows L2 Pf
open SX (S S_len split_S)
theorem is_command_eq (f : W) (rest : List W) (hf : Gd f) (h : ∀ w ∈ rest, Gd w) (hl : rest.length ≤ 20) : F_is_command [wsD (f :: rest)] = .ok (.bl (cmd f rest)) := by
  have ln := len_ws (f :: rest)
  have hc : ((((f :: rest).length : Nat) : Int) - 1) = (rest.length : Int) := by
    show (((rest.length + 1 : Nat) : Int) - 1) = _
    omega
  have i0 : ixD (wsD (f :: rest)) (.int 0) = some (sD f) := ix_ws (f :: rest) 0 f rfl
  have ea : dEq (sD f) (.str (Str.ofString "ask")) = some (.bl (decide (f = w_ask))) := by
    rw [lit_ask]
    exact eq_w hf.okS rfl
  show (b_is_command [.im (wsD (f :: rest)), .no]).fn = _
  unfold b_is_command cmd
  by_cases h0 : f = w_ask
  · rw [decide_eq_true h0] at ea
    rw [if_pos h0]
    have q := is_asking_eq f rest h hl
    generalize asks rest = z at *
    generalize wsD (f :: rest) = Z at *
    generalize sD f = ZF at *
    simp_arith [i0, ea, q]
  · rw [decide_eq_false h0] at ea
    rw [if_neg h0]
    have hg := at_beh f
    have s1 : slD (some 1) none (wsD (f :: rest)) = some (wsD rest) := sl_from (f :: rest) 1 (by simp)
    have tn := names_turns rest h (e := [.im (wsD (f :: rest)), .no]) rfl
    have al := resAll_bl nameB rest
    have it : (wsD rest).items = some (rest.map sD) := rfl
    cases hq : lk f beh with
    | none =>
      rw [hq] at hg
      have g : kGetC kv_NAMES_BEHIND (.ok (sD f) [.im (wsD (f :: rest)), .no]) = .ok .non [.im (wsD (f :: rest)), .no] := wGetC.trans (gtC_no hg)
      have e1 : dEq .non (.int (rest.length : Int)) = some (.bl false) := by kernel_rfl
      rw [show ((none : Option Int) == some (rest.length : Int)) = false from rfl]
      generalize ((f :: rest).length : Int) = m at *
      generalize (rest.length : Int) = n at *
      generalize wsD (f :: rest) = Z at *
      generalize sD f = ZF at *
      simp_arith [ln, hc, i0, ea, tGetC', g, e1]
      rfl
    | some k =>
      rw [hq] at hg
      have g : kGetC kv_NAMES_BEHIND (.ok (sD f) [.im (wsD (f :: rest)), .no]) = .ok (.int k) [.im (wsD (f :: rest)), .no] := wGetC.trans (gtC_int hg)
      generalize rest.all nameB = z at *
      generalize hY : rest.map (fun w => D.bl (nameB w)) = Y at *
      generalize hY2 : rest.map sD = Y2 at *
      generalize ((f :: rest).length : Int) = m at *
      generalize (rest.length : Int) = n at *
      generalize wsD (f :: rest) = Z at *
      generalize wsD rest = Z2 at *
      generalize sD f = ZF at *
      by_cases hk : k = n
      · rw [show ((some k : Option Int) == some n) = true by rw [hk]; exact beq_self_eq_true _]
        simp_arith [ln, hc, i0, ea, tGetC', g, s1, it, tn, al]
        rfl
      · rw [show ((some k : Option Int) == some n) = false from beq_eq_false_iff_ne.mpr fun z => hk (Option.some.inj z)]
        simp_arith [ln, hc, i0, ea, tGetC', g]
        rfl
/-! ### the law's own -/
theorem flat_ws (ws : List W) : (ws.map sD).all D.flat = true := by
  induction ws with
  | nil => rfl
  | cons w ws ih => rw [List.map_cons, List.all_cons, ih]; rfl
theorem in_ws (f : W) (ws : List W) : dIn false (sD f) (.tup (ws.map sD)) = some (.bl (ws.any fun w => decide (w = f))) := by
  have e : ((ws.map sD).any fun e => eqF e (sD f)) = ws.any fun w => decide (w = f) := by
    induction ws with
    | nil => rfl
    | cons w ws ih =>
      rw [List.map_cons, List.any_cons, List.any_cons, ih]
      congr 1
      exact beq_w w f
  show (if (D.flat (sD f) && (ws.map sD).all D.flat) = true then some (D.bl ((ws.map sD).any fun e => eqF e (sD f))) else none) = _
  rw [flat_ws, e]
  rfl
def five : List W := [w_answers, w_schemes, w_questions, w_undo, w_redo]
def fiv2 : List W := [w_scheme, w_remove, w_drop, w_answer, w_print]
theorem lit_five : ([.str (Str.ofString "answers"), .str (Str.ofString "schemes"), .str (Str.ofString "questions"), .str (Str.ofString "undo"), .str (Str.ofString "redo")] : List D) = five.map sD := by rfl
theorem lit_fiv2 : ([.str (Str.ofString "scheme"), .str (Str.ofString "remove"), .str (Str.ofString "drop"), .str (Str.ofString "answer"), .str (Str.ofString "print")] : List D) = fiv2.map sD := by rfl
theorem lit_list : Str.ofString "list" = S w_list := by decide +kernel
theorem lit_product : Str.ofString "product" = S w_product := by decide +kernel
theorem lit_gb : ([.str (Str.ofString "greatest"), .str (Str.ofString "bound")] : List D) = [w_greatest, w_bound].map sD := by rfl
theorem in_five {f : W} (h : (five.any fun w => decide (w = f)) = true) : lk f beh = some 0 ∧ f ≠ w_ask := by
  obtain ⟨w, hw, e⟩ := List.any_eq_true.mp h
  have e := of_decide_eq_true e
  subst e
  revert w
  unfold five
  simp only [List.forall_mem_cons]
  exact ⟨by decide, by decide, by decide, by decide, by decide, fun _ h => by cases h⟩
theorem in_fiv2 {f : W} (h : (fiv2.any fun w => decide (w = f)) = true) : lk f beh = some 1 ∧ f ≠ w_ask := by
  obtain ⟨w, hw, e⟩ := List.any_eq_true.mp h
  have e := of_decide_eq_true e
  subst e
  revert w
  unfold fiv2
  simp only [List.forall_mem_cons]
  exact ⟨by decide, by decide, by decide, by decide, by decide, fun _ h => by cases h⟩
theorem in_none {f : W} (h1 : (five.any fun w => decide (w = f)) = false) (h2 : (fiv2.any fun w => decide (w = f)) = false) (h3 : f ≠ w_list) (h4 : f ≠ w_product) : lk f beh = none := by
  have a1 := List.any_eq_false.mp h1
  have a2 := List.any_eq_false.mp h2
  have ne1 : ∀ w ∈ five, f ≠ w := fun w hw e => a1 w hw (decide_eq_true e.symm)
  have ne2 : ∀ w ∈ fiv2, f ≠ w := fun w hw e => a2 w hw (decide_eq_true e.symm)
  unfold five at ne1
  unfold fiv2 at ne2
  simp only [List.forall_mem_cons] at ne1 ne2
  obtain ⟨b1, b2, b3, b4, b5, _⟩ := ne1
  obtain ⟨c1, c2, c3, c4, c5, _⟩ := ne2
  unfold beh
  simp only [lk, if_neg b1, if_neg b2, if_neg b3, if_neg b4, if_neg b5, if_neg c1, if_neg c2, if_neg c3, if_neg c4, if_neg c5, if_neg h3, if_neg h4]
theorem law_names_eq (ws : List W) (h : ∀ w ∈ ws, Gd w) (hl : ws.length ≤ 20) : F__law_all_names [wsD ws] = .ok (.bl (ws.all nameB)) := by
  have tn : turnsD (gNm 1) tYes' (vCall 1 F__law_is_name (fCons (rdN 1) aNil)) [.im (wsD ws), .no] (ws.map sD) = some (ws.map fun w => .bl (nameB w)) :=
    turns_mapL sD (fun w => D.bl (nameB w)) ws fun w hw => by
      have q := law_is_name_eq (h w hw)
      generalize wsD ws = Z1 at *
      generalize sD w = Z at *
      simp_arith [q]
  have al := allL nameB ws
  have it : (wsD ws).items = some (ws.map sD) := rfl
  have sz : (ws.map fun w => D.bl (nameB w)).length ≤ 4000 := by rw [List.length_map]; omega
  show (b__law_all_names [.im (wsD ws), .no]).fn = _
  unfold b__law_all_names
  generalize ws.all nameB = z at *
  generalize ws.map (fun w => D.bl (nameB w)) = Y at *
  generalize ws.map sD = Y2 at *
  generalize wsD ws = Z at *
  simp_arith [it, tn, al]
end K57
namespace K57
open PySem PySem.Spec PyProof.Rows L2 Pf
open SX (S S_len split_S)
theorem sh_two {a : W} {n : Int} (h : okS a = true) : SeqAt.shaped (.tuple [.str (S a), .int n]) = true := by
  have := strOk_w h
  unfold SeqAt.shaped
  simp [PyData.canLay0, PyData.depth, this, PyData.canLayAll0, PyData.depthAll]
theorem pair_in (r : W) (n : Int) (hr : okS r = true) : dInP false (.tup [sD r, .int n]) (.tup [.tup [.str (Str.ofString "points"), .int 3], .tup [.str (Str.ofString "kind"), .int 5]]) =
    some (.bl ((decide (r = w_points) && decide (n = 3)) || (decide (r = w_kind) && decide (n = 5)))) := by
  have e1 : Str.ofString "points" = S w_points := by decide +kernel
  have e2 : Str.ofString "kind" = S w_kind := by decide +kernel
  rw [e1, e2]
  have p1 := sh_two (n := n) hr
  have p2 : SeqAt.shaped (.tuple [.tuple [.str (S w_points), .int 3], .tuple [.str (S w_kind), .int 5]]) = true := by decide +kernel
  show (if SeqAt.shaped (.tuple [.str (S r), .int n]) = true ∧ SeqAt.shaped (.tuple [.tuple [.str (S w_points), .int 3], .tuple [.str (S w_kind), .int 5]]) = true then some (D.bl (([.tuple [.str (S w_points), .int 3], .tuple [.str (S w_kind), .int 5]] : List PyData).any fun z => PyData.eqv z (.tuple [.str (S r), .int n]))) else none) = _
  rw [if_pos ⟨p1, p2⟩]
  have eq1 : ∀ (a : W) (k : Int), PyData.eqv (.tuple [.str (S a), .int k]) (.tuple [.str (S r), .int n]) = (decide (r = a) && decide (n = k)) := fun a k => by
    have h1 : PyData.eqv (.tuple [.str (S a), .int k]) (.tuple [.str (S r), .int n]) = ((S a == S r) && ((k == n) && true)) := by
      simp [PyData.eqv, PyData.eqvAll]
    rw [h1, beq_w, Bool.and_true]
    congr 1
    · by_cases h : r = a
      · rw [decide_eq_true h, decide_eq_true h.symm]
      · rw [decide_eq_false h, decide_eq_false (fun z => h z.symm)]
    · by_cases h : n = k
      · rw [decide_eq_true h, h, beq_self_eq_true]
      · rw [decide_eq_false h]
        exact beq_eq_false_iff_ne.mpr fun z => h z.symm
  rw [List.any_cons, List.any_cons, List.any_nil, eq1, eq1, Bool.or_false]
theorem qst_eq (r1 : W) (m : Nat) : qst r1 m = ((([w_greatest, w_bound].any fun w => decide (w = r1)) && decide ((m : Int) + 3 ≤ 9)) || ((!([w_greatest, w_bound].any fun w => decide (w = r1))) && ((decide (r1 = w_points) && decide ((m : Int) + 3 = 3)) || (decide (r1 = w_kind) && decide ((m : Int) + 3 = 5))))) := by
  unfold qst askd
  by_cases c1 : r1 = w_points
  · subst c1
    rw [Bool.eq_iff_iff]
    simp [lk]
    omega
  · by_cases c2 : r1 = w_kind
    · subst c2
      rw [Bool.eq_iff_iff]
      simp [lk]
      omega
    · by_cases c3 : r1 = w_greatest
      · subst c3
        rw [Bool.eq_iff_iff]
        simp [lk]
        omega
      · by_cases c4 : r1 = w_bound
        · subst c4
          rw [Bool.eq_iff_iff]
          simp [lk]
          omega
        · have c3' : ¬ w_greatest = r1 := fun z => c3 z.symm
          have c4' : ¬ w_bound = r1 := fun z => c4 z.symm
          simp only [lk, if_neg c1, if_neg c2, if_neg c3, if_neg c4, decide_eq_false c1, decide_eq_false c2, decide_eq_false c3', decide_eq_false c4', List.any_cons, List.any_nil]
          rfl
section
variable (f : W) (rest : List W)
theorem law_ask_eq (hf : f = w_ask) (h : ∀ w ∈ rest, Gd w) (hl : rest.length ≤ 20) : F__law_command [wsD (f :: rest)] = .ok (.bl (asks rest)) := by
  have i0 : ixD (wsD (f :: rest)) (.int 0) = some (sD f) := ix_ws (f :: rest) 0 f rfl
  have s1 : slD (some 1) none (wsD (f :: rest)) = some (wsD rest) := sl_from (f :: rest) 1 (by simp)
  have ln := len_ws rest
  have d5 : dIn false (sD f) (.tup [.str (Str.ofString "answers"), .str (Str.ofString "schemes"), .str (Str.ofString "questions"), .str (Str.ofString "undo"), .str (Str.ofString "redo")]) = some (.bl false) := by
    rw [lit_five, in_ws, hf]; rfl
  have d2 : dIn false (sD f) (.tup [.str (Str.ofString "scheme"), .str (Str.ofString "remove"), .str (Str.ofString "drop"), .str (Str.ofString "answer"), .str (Str.ofString "print")]) = some (.bl false) := by
    rw [lit_fiv2, in_ws, hf]; rfl
  have el : dEq (sD f) (.str (Str.ofString "list")) = some (.bl false) := by
    rw [lit_list, hf]; exact eq_w rfl rfl
  have ep : dEq (sD f) (.str (Str.ofString "product")) = some (.bl false) := by
    rw [lit_product, hf]; exact eq_w rfl rfl
  have ea : dNe (sD f) (.str (Str.ofString "ask")) = some (.bl false) := by
    rw [lit_ask, hf]; exact ne_w rfl rfl
  show (b__law_command [.im (wsD (f :: rest)), .no, .no, .no]).fn = _
  unfold b__law_command
  match rest, h, hl, ln, i0, s1 with
  | [], h, hl, ln, i0, s1 =>
    have n0 : ([] : List W).length = 0 := rfl
    generalize ([] : List W).length = n at *
    generalize wsD [f] = Z at *
    generalize wsD [] = Z2 at *
    generalize sD f = ZF at *
    simp_arith [i0, s1, d5, d2, el, ep, ea, ln]
    rfl
  | [r0], h, hl, ln, i0, s1 =>
    have n0 : ([r0] : List W).length = 1 := rfl
    generalize ([r0] : List W).length = n at *
    generalize wsD [f, r0] = Z at *
    generalize wsD [r0] = Z2 at *
    generalize sD f = ZF at *
    simp_arith [i0, s1, d5, d2, el, ep, ea, ln]
    rfl
  | [r0, r1], h, hl, ln, i0, s1 =>
    have n0 : ([r0, r1] : List W).length = 2 := rfl
    generalize ([r0, r1] : List W).length = n at *
    generalize wsD [f, r0, r1] = Z at *
    generalize wsD [r0, r1] = Z2 at *
    generalize sD f = ZF at *
    simp_arith [i0, s1, d5, d2, el, ep, ea, ln]
    rfl
  | r0 :: r1 :: r2 :: tl, h, hl, ln, i0, s1 =>
    have i1 : ixD (wsD (r0 :: r1 :: r2 :: tl)) (.int 0) = some (sD r0) := ix_ws (r0 :: r1 :: r2 :: tl) 0 r0 rfl
    have i2 : ixD (wsD (r0 :: r1 :: r2 :: tl)) (.int 1) = some (sD r1) := ix_ws (r0 :: r1 :: r2 :: tl) 1 r1 rfl
    have i3 : ixD (wsD (r0 :: r1 :: r2 :: tl)) (.int 2) = some (sD r2) := ix_ws (r0 :: r1 :: r2 :: tl) 2 r2 rfl
    have s3 : slD (some 3) none (wsD (r0 :: r1 :: r2 :: tl)) = some (wsD tl) := sl_from (r0 :: r1 :: r2 :: tl) 3 (by simp)
    have nm0 := law_is_name_eq (h r0 (by simp))
    have nm2 := law_is_name_eq (h r2 (by simp))
    have tn : turnsD (gNm 3) tYes' (vCall 1 F__law_is_number (fCons (rdN 3) aNil)) [.im (wsD (f :: r0 :: r1 :: r2 :: tl)), .im (sD f), .im (wsD (r0 :: r1 :: r2 :: tl)), .no] (tl.map sD) = some (tl.map fun w => .bl (numB w)) :=
      turns_mapL sD (fun w => D.bl (numB w)) tl fun w hw => by
        have q := law_is_number_eq (h w (by simp [hw]))
        generalize wsD (f :: r0 :: r1 :: r2 :: tl) = Z1 at *
        generalize wsD (r0 :: r1 :: r2 :: tl) = Z2 at *
        generalize sD f = ZF at *
        generalize sD w = Z at *
        simp_arith [q]
    have al := allL numB tl
    have hn : (((r0 :: r1 :: r2 :: tl).length : Nat) : Int) = (tl.length : Int) + 3 := by
      show ((tl.length + 1 + 1 + 1 : Nat) : Int) = _
      omega
    have it : (wsD tl).items = some (tl.map sD) := rfl
    have sz : (tl.map fun w => D.bl (numB w)).length ≤ 4000 := by
      rw [List.length_map]
      have : (r0 :: r1 :: r2 :: tl).length = tl.length + 3 := rfl
      omega
    have dgb : dIn false (sD r1) (.tup [.str (Str.ofString "greatest"), .str (Str.ofString "bound")]) = some (.bl ([w_greatest, w_bound].any fun w => decide (w = r1))) := by
      rw [lit_gb, in_ws]
    have pin := pair_in r1 ((tl.length : Int) + 3) (h r1 (by simp)).okS
    have hq := qst_eq r1 tl.length
    show _ = Rf.ok (.bl (qst r1 tl.length && (nameB r0 && (nameB r2 && tl.all numB))))
    rw [hq]
    have n0 : 0 ≤ (tl.length : Int) := by omega
    generalize ([w_greatest, w_bound].any fun w => decide (w = r1)) = g at *
    generalize ((decide (r1 = w_points) && decide ((tl.length : Int) + 3 = 3)) || (decide (r1 = w_kind) && decide ((tl.length : Int) + 3 = 5))) = pk at *
    rw [hn] at ln
    clear hn hq
    generalize tl.all numB = z at *
    generalize nameB r0 = b0 at *
    generalize nameB r2 = b2 at *
    generalize tl.map (fun w => D.bl (numB w)) = Y at *
    generalize tl.map sD = Y2 at *
    generalize (tl.length : Int) = n at *
    generalize wsD (f :: r0 :: r1 :: r2 :: tl) = Z1 at *
    generalize wsD (r0 :: r1 :: r2 :: tl) = Z3 at *
    generalize wsD tl = Z2 at *
    generalize sD r0 = R0 at *
    generalize sD r1 = R1 at *
    generalize sD r2 = R2 at *
    generalize sD f = ZF at *
    cases b0 with
    | false =>
      simp_arith [i0, s1, d5, d2, el, ep, ea, ln, i1, nm0]
      simp
    | true =>
      cases b2 with
      | false =>
        simp_arith [i0, s1, d5, d2, el, ep, ea, ln, i1, i3, nm0, nm2]
        simp
      | true =>
        cases z with
        | false =>
          simp_arith [i0, s1, d5, d2, el, ep, ea, ln, i1, i3, nm0, nm2, s3, it, tn, al]
          simp
        | true =>
          cases g with
          | true =>
            by_cases h9 : n + 3 ≤ 9
            · simp_arith [i0, s1, d5, d2, el, ep, ea, ln, i1, i2, i3, nm0, nm2, s3, it, tn, al, dgb]
              simp [h9]
            · simp_arith [i0, s1, d5, d2, el, ep, ea, ln, i1, i2, i3, nm0, nm2, s3, it, tn, al, dgb]
              simp [h9]
          | false =>
            simp_arith [i0, s1, d5, d2, el, ep, ea, ln, i1, i2, i3, nm0, nm2, s3, it, tn, al, dgb, pin]
            simp
end
end K57
namespace K57
open PySem PySem.Spec PyProof.Rows L2 Pf
open SX (S S_len split_S)
theorem law_command_eq (f : W) (rest : List W) (hf : Gd f) (h : ∀ w ∈ rest, Gd w) (hl : rest.length ≤ 20) : F__law_command [wsD (f :: rest)] = .ok (.bl (cmd f rest)) := by
  by_cases hk : f = w_ask
  · unfold cmd
    rw [if_pos hk]
    exact law_ask_eq f rest hk h hl
  have i0 : ixD (wsD (f :: rest)) (.int 0) = some (sD f) := ix_ws (f :: rest) 0 f rfl
  have s1 : slD (some 1) none (wsD (f :: rest)) = some (wsD rest) := sl_from (f :: rest) 1 (by simp)
  have ln := len_ws rest
  have d5 : dIn false (sD f) (.tup [.str (Str.ofString "answers"), .str (Str.ofString "schemes"), .str (Str.ofString "questions"), .str (Str.ofString "undo"), .str (Str.ofString "redo")]) = some (.bl (five.any fun w => decide (w = f))) := by
    rw [lit_five, in_ws]
  have d2 : dIn false (sD f) (.tup [.str (Str.ofString "scheme"), .str (Str.ofString "remove"), .str (Str.ofString "drop"), .str (Str.ofString "answer"), .str (Str.ofString "print")]) = some (.bl (fiv2.any fun w => decide (w = f))) := by
    rw [lit_fiv2, in_ws]
  have el : dEq (sD f) (.str (Str.ofString "list")) = some (.bl (decide (f = w_list))) := by
    rw [lit_list]; exact eq_w hf.okS rfl
  have ep : dEq (sD f) (.str (Str.ofString "product")) = some (.bl (decide (f = w_product))) := by
    rw [lit_product]; exact eq_w hf.okS rfl
  have ea : dNe (sD f) (.str (Str.ofString "ask")) = some (.bl true) := by
    rw [lit_ask]
    refine (ne_w hf.okS rfl).trans ?_
    rw [decide_eq_false hk]; rfl
  have ns := law_names_eq rest h hl
  show (b__law_command [.im (wsD (f :: rest)), .no, .no, .no]).fn = _
  unfold b__law_command cmd
  rw [if_neg hk]
  cases h5 : five.any fun w => decide (w = f) with
  | true =>
    rw [h5] at d5
    rw [(in_five h5).1]
    by_cases hr : (rest.length : Int) = 0
    · have e0 : rest = [] := List.length_eq_zero_iff.mp (by omega)
      subst e0
      generalize wsD [f] = Z at *
      generalize wsD [] = Z2 at *
      generalize sD f = ZF at *
      simp_arith [i0, s1, d5, ln]
      rfl
    · rw [show ((some 0 : Option Int) == some (rest.length : Int)) = false from beq_eq_false_iff_ne.mpr fun z => hr (Option.some.inj z).symm]
      generalize wsD (f :: rest) = Z at *
      generalize wsD rest = Z2 at *
      generalize sD f = ZF at *
      simp_arith [i0, s1, d5, ln]
      rfl
  | false =>
    rw [h5] at d5
    cases h2 : fiv2.any fun w => decide (w = f) with
    | true =>
      rw [h2] at d2
      rw [(in_fiv2 h2).1]
      by_cases hr : (rest.length : Int) = 1
      · obtain ⟨r0, rfl⟩ : ∃ r, rest = [r] := List.length_eq_one_iff.mp (by omega)
        have j0 : ixD (wsD [r0]) (.int 0) = some (sD r0) := ix_ws [r0] 0 r0 rfl
        have nm := law_is_name_eq (h r0 (by simp))
        have ha : ([r0].all nameB) = nameB r0 := by simp
        rw [ha]
        generalize nameB r0 = b at *
        generalize wsD [f, r0] = Z at *
        generalize wsD [r0] = Z2 at *
        generalize sD f = ZF at *
        generalize sD r0 = ZR at *
        simp_arith [i0, s1, d5, d2, ln, j0, nm]
        rfl
      · rw [show ((some 1 : Option Int) == some (rest.length : Int)) = false from beq_eq_false_iff_ne.mpr fun z => hr (Option.some.inj z).symm]
        generalize wsD (f :: rest) = Z at *
        generalize wsD rest = Z2 at *
        generalize sD f = ZF at *
        simp_arith [i0, s1, d5, d2, ln]
        rfl
    | false =>
      rw [h2] at d2
      by_cases h3 : f = w_list
      · rw [decide_eq_true h3] at el
        have hb : lk f beh = some 2 := by rw [h3]; decide
        rw [hb]
        generalize rest.all nameB = z at *
        by_cases hr : (rest.length : Int) = 2
        · rw [hr] at ln ⊢
          rw [show ((some 2 : Option Int) == some 2) = true from rfl]
          generalize wsD (f :: rest) = Z at *
          generalize wsD rest = Z2 at *
          generalize sD f = ZF at *
          simp_arith [i0, s1, d5, d2, el, ln, ns]
          rfl
        · rw [show ((some 2 : Option Int) == some (rest.length : Int)) = false from beq_eq_false_iff_ne.mpr fun z => hr (Option.some.inj z).symm]
          generalize wsD (f :: rest) = Z at *
          generalize wsD rest = Z2 at *
          generalize sD f = ZF at *
          simp_arith [i0, s1, d5, d2, el, ln, ns]
          rfl
      · rw [decide_eq_false h3] at el
        by_cases h4 : f = w_product
        · rw [decide_eq_true h4] at ep
          have hb : lk f beh = some 3 := by rw [h4]; decide
          rw [hb]
          generalize rest.all nameB = z at *
          by_cases hr : (rest.length : Int) = 3
          · rw [hr] at ln ⊢
            rw [show ((some 3 : Option Int) == some 3) = true from rfl]
            generalize wsD (f :: rest) = Z at *
            generalize wsD rest = Z2 at *
            generalize sD f = ZF at *
            simp_arith [i0, s1, d5, d2, el, ep, ln, ns]
            rfl
          · rw [show ((some 3 : Option Int) == some (rest.length : Int)) = false from beq_eq_false_iff_ne.mpr fun z => hr (Option.some.inj z).symm]
            generalize wsD (f :: rest) = Z at *
            generalize wsD rest = Z2 at *
            generalize sD f = ZF at *
            simp_arith [i0, s1, d5, d2, el, ep, ln, ns]
            rfl
        · rw [decide_eq_false h4] at ep
          rw [in_none h5 h2 h3 h4]
          rw [show ((none : Option Int) == some (rest.length : Int)) = false from rfl]
          generalize wsD (f :: rest) = Z at *
          generalize wsD rest = Z2 at *
          generalize sD f = ZF at *
          simp_arith [i0, s1, d5, d2, el, ep, ea, ln]
          rfl
end K57
namespace K57
open PySem PySem.Spec PyProof.Rows L2 Pf
open SX (S S_len split_S)
/-! ### the words of a line -/
def full (w : W) : Bool := !w.isEmpty
def wd (acc l : W) : List W := (TL.spl [32] 0 acc l).filter full
theorem spl_sp (acc r : W) : TL.spl [32] 0 acc (32 :: r) = acc :: TL.spl [32] 0 [] r := by
  rw [TL.spl]
  exact if_pos rfl
theorem spl_c (acc r : W) {c : Nat} (h : c ≠ 32) : TL.spl [32] 0 acc (c :: r) = TL.spl [32] 0 (acc ++ [c]) r := by
  rw [TL.spl]
  refine if_neg fun z => ?_
  have z : ((c :: r).take 1 == [32]) = true := z
  have := eq_of_beq z
  simp at this
  exact h this
theorem wd_nil : wd [] [] = [] := rfl
theorem wd_end {w : W} (h : w ≠ []) : wd w [] = [w] := by
  unfold wd
  rw [TL.spl_nil]
  cases w with
  | nil => exact absurd rfl h
  | cons c r => rfl
theorem wd_sp {w : W} (h : w ≠ []) (l : W) : wd w (32 :: l) = w :: wd [] l := by
  unfold wd
  rw [spl_sp, List.filter_cons_of_pos]
  cases w with
  | nil => exact absurd rfl h
  | cons c r => rfl
theorem wd_sp0 (l : W) : wd [] (32 :: l) = wd [] l := by
  unfold wd
  rw [spl_sp, List.filter_cons_of_neg (by decide)]
theorem wd_rep (n : Nat) (l : W) : wd [] (List.replicate n 32 ++ l) = wd [] l := by
  induction n with
  | zero => rfl
  | succ n ih =>
    rw [List.replicate_succ, List.cons_append, wd_sp0, ih]
theorem wd_word : ∀ (w acc l : W), (∀ c ∈ w, c ≠ 32) → wd acc (w ++ l) = wd (acc ++ w) l
  | [], acc, l, _ => by rw [List.append_nil]; rfl
  | c :: r, acc, l, h => by
    have e : wd acc (c :: (r ++ l)) = wd (acc ++ [c]) (r ++ l) := by
      unfold wd
      rw [spl_c _ _ (h c List.mem_cons_self)]
    rw [List.cons_append, e, wd_word r (acc ++ [c]) l fun x hx => h x (List.mem_cons_of_mem _ hx), List.append_assoc]
    rfl
theorem wd_rep1 {w : W} (h : w ≠ []) (n : Nat) (l : W) : wd w (List.replicate (n + 1) 32 ++ l) = w :: wd [] l := by
  rw [List.replicate_succ, List.cons_append, wd_sp h, wd_rep]
theorem wd_reps {w : W} (h : w ≠ []) (n : Nat) : wd w (List.replicate n 32) = [w] := by
  cases n with
  | zero => exact wd_end h
  | succ n =>
    have := wd_rep1 h n []
    rw [List.append_nil] at this
    rw [this, wd_nil]
theorem Gd.sp {w : W} (h : Gd w) : ∀ c ∈ w, c ≠ 32 := fun c hc => (okc_lt (h.ok c hc)).2
theorem lit_sp : Str.ofString " " = S [32] := by decide +kernel
theorem tru_w {w : W} (h : w.length ≤ 3000) : (sD w).tru = some (full w) := by
  show (if (S w).length ≤ sizeLine then some (((S w).length : Int) != 0) else none) = _
  rw [if_pos (by rw [S_len]; exact len_le (by omega)), S_len]
  congr 1
  unfold full
  cases w with
  | nil => rfl
  | cons c r =>
    show ((((r.length + 1 : Nat) : Int)) != 0) = true
    refine bne_iff_ne.mpr ?_
    omega
theorem split_words_eq (l : W) (h : l.length ≤ 3000) : F_split_words [sD l] = .ok (wsD (wd [] l)) := by
  have sp : Txt.split (S l) (S [32]) = (TL.spl [32] 0 [] l).map S := split_S (by simp) (by decide)
  have len : (TL.spl [32] 0 [] l).length ≤ 3002 := by
    have := PyProof.Rows.split_le (S l) (S [32])
    rw [sp, List.length_map, S_len] at this
    omega
  show (b_split_words [.im (sD l), .no]).fn = _
  unfold b_split_words
  have ks : kSplit (vK (.str (Str.ofString " "))) (.ok (sD l) [.im (sD l), .no]) = .ok (.l ((TL.spl [32] 0 [] l).map sD)) [.im (sD l), .no] := by
    rw [lit_sp]
    refine (wSplit (b := S [32]) rfl ⟨rfl, ?_⟩).trans ?_
    · rw [S_len]
      exact len_le (by omega)
    · rw [sp, List.map_map]
      rfl
  have tn : turnsD (gNm 1) (fTru (rdN 1)) (rdN 1) [.im (sD l), .no] ((TL.spl [32] 0 [] l).map sD) = some (wd [] l |>.map sD) := by
    have e : (wd [] l).map sD = (TL.spl [32] 0 [] l).filterMap fun w => if full w = true then some (sD w) else none := by
      unfold wd
      induction TL.spl [32] 0 [] l with
      | nil => rfl
      | cons a r ih =>
        rw [List.filterMap_cons]
        by_cases c : full a = true
        · rw [List.filter_cons_of_pos c, List.map_cons, if_pos c, ih]
        · rw [List.filter_cons_of_neg c, if_neg c, ih]
    rw [e]
    exact turns_pickL sD (fun w => if full w = true then some (sD w) else none) _ fun w hw => by
      have t := tru_w (w := w) (by
        have m : S w ∈ Txt.split (S l) (S [32]) := by
          rw [sp]
          exact List.mem_map.mpr ⟨w, hw, rfl⟩
        have := PyProof.Rows.part_short m
        rw [S_len, S_len] at this
        omega)
      generalize sD l = Z at *
      generalize sD w = ZW at *
      cases q : full w with
      | true =>
        rw [q] at t
        rw [if_pos rfl]
        simp_arith [t]
      | false =>
        rw [q] at t
        rw [if_neg (by decide)]
        simp_arith [t]
  have sz : ((wd [] l).map sD).length ≤ 4000 := by
    rw [List.length_map]
    have := List.length_filter_le full (TL.spl [32] 0 [] l)
    unfold wd
    omega
  generalize (TL.spl [32] 0 [] l).map sD = Y at *
  generalize hw : (wd [] l).map sD = Y2 at *
  generalize sD l = Z at *
  simp_arith [tSplit, ks, tn]
  rw [← hw]
theorem split_none (n : Nat) (h : n ≤ 10) : F_split_words [sD (List.replicate n 32)] = .ok (.lst []) := by
  rw [split_words_eq _ (by rw [List.length_replicate]; omega)]
  have := wd_rep n []
  rw [List.append_nil] at this
  rw [this]
  rfl
end K57
namespace K57
open PySem PySem.Spec PyProof.Rows L2 Pf
open SX (S S_len split_S)
theorem add_w {a b : W} (h : a.length + b.length ≤ 4000) : dAddU (sD a) (sD b) = some (sD (a ++ b)) := by
  have e : dAddS (sD a) (sD b) = some (sD (a ++ b)) := by
    show (if (S a).length + (S b).length ≤ sizeLine then some (D.str (S a ++ S b)) else none) = _
    rw [if_pos (by rw [S_len, S_len]; exact len_le h)]
    congr 2
    show (⟨a.toArray ++ b.toArray⟩ : Str) = ⟨(a ++ b).toArray⟩
    simp
  unfold dAddU
  rw [e]
  rfl
theorem rep_w (k : Nat) (h : k ≤ 100) : dMulS (.str (Str.ofString " ")) (.int (k : Int)) = some (sD (List.replicate k 32)) := by
  rw [lit_sp]
  show (if (S [32]).length ≤ 64 ∧ (k : Int) ≤ 4096 ∧ -(2 ^ 62) ≤ (k : Int) then some (D.str (Txt.mul (S [32]) (k : Int))) else none) = _
  rw [if_pos ⟨by decide, by omega, by omega⟩]
  congr 2
  unfold Txt.mul
  by_cases h0 : k = 0
  · subst h0
    rfl
  · rw [if_neg (by omega)]
    by_cases h1 : k = 1
    · subst h1
      rfl
    · rw [if_neg (by
        rw [show ((S [32]).length == 0) = false from rfl, Bool.or_false]
        intro z
        have := eq_of_beq z
        omega), Int.toNat_natCast]
      have e : ∀ (n : Nat) (acc : Array Nat), (List.replicate n #[32]).foldl (· ++ ·) acc = acc ++ (List.replicate n 32).toArray := fun n => by
        induction n with
        | zero => intro acc; simp
        | succ n ih =>
          intro acc
          rw [List.replicate_succ, List.foldl_cons, ih, List.replicate_succ]
          apply Array.ext'
          simp
      show (⟨(List.replicate k #[32]).foldl (· ++ ·) #[]⟩ : Str) = _
      rw [e]
      simp
theorem forR_nx {g : D → List Sl → Option (List Sl)} {b : List Sl → Ro} {d : D} {ds : List D} {env e e' : List Sl} (h : g d env = some e) (q : b e = .nx e') : forR g b (d :: ds) env = forR g b ds e' := by
  rw [forR, h]
  dsimp only
  rw [q]
def b_txt : List Sl → Ro := (rSeq (rSet 3 (f2 (rdN 3) (fIx (rdN 2) (rdN 4)) dAddU))
  (rIf (fAsB (f2 (f2 (rdN 4) (vK (.int 1)) dAddU) (fCB (fCons (rdN 2) aNil) cLen) dLt)) (rSet 3 (f2 (rdN 3) (f2 (vK (.str " ")) (f2 (vK (.int 1)) (f2 (fCB (fCons (f2 (fIx (rdN 1) (vK (.int 48))) (f2 (rdN 4) (fIx (rdN 1) (vK (.int 49))) dMul) dAddU) aNil) cInt) (vK (.int 3)) dMod) dAddU) dMulS) dAddU)) Ro.nx))
/-- the text so far: what is done of the words, and no word begun -/
def Tex (T : W) (done : List W) : Prop := ∀ l, wd [] (T ++ l) = done ++ wd [] l
theorem Tex.word {T w : W} {done : List W} (h : Tex T done) (g : Gd w) (n : Nat) : wd [] (T ++ w ++ List.replicate n 32) = done ++ [w] := by
  rw [List.append_assoc, h, wd_word w [] _ g.sp, List.nil_append, wd_reps g.ne]
theorem Tex.next {T w : W} {done : List W} (h : Tex T done) (g : Gd w) (n : Nat) : Tex (T ++ w ++ List.replicate (n + 1) 32) (done ++ [w]) := fun l => by
  rw [List.append_assoc, List.append_assoc, h, wd_word w [] _ g.sp, List.nil_append, wd_rep1 g.ne, List.append_assoc]
  rfl
section
variable {S0 : Sl} {xs : List Int} {ws : List W} {e5 e6 e7 e8 e9 : Sl}
theorem txt_loop (hs : small xs) (hx : xs.length = 60) (hw : ∀ w ∈ ws, Gd w) (hl : ws.length ≤ 15) : ∀ (us done : List W) (T : W) (k : Sl), ws = done ++ us → us ≠ [] → Tex T done → T.length ≤ 10 + 80 * done.length →
    ∃ T' k', forR (gNm 4) b_txt ((List.range' done.length us.length).map fun (i : Nat) => D.int (i : Int)) [S0, .im (.lst (xs.map .int)), .im (wsD ws), .im (sD T), k, e5, e6, e7, e8, e9] =
      .nx [S0, .im (.lst (xs.map .int)), .im (wsD ws), .im (sD T'), k', e5, e6, e7, e8, e9] ∧ T'.length ≤ 10 + 80 * ws.length ∧ ∀ n, wd [] (T' ++ List.replicate n 32) = ws
  | [], done, T, k, _, h, _, _ => absurd rfl h
  | w :: us, done, T, k, e, _, ht, tl => by
    have g : Gd w := hw w (by rw [e]; simp)
    have gl := g.le
    have lw : ws.length = done.length + us.length + 1 := by rw [e]; simp; omega
    have iw : ixD (wsD ws) (.int (done.length : Int)) = some (sD w) := ix_ws ws done.length w (by rw [e]; simp)
    have ln := len_ws ws
    rw [List.length_cons, List.range'_succ, List.map_cons]
    have a1 : dAddU (sD T) (sD w) = some (sD (T ++ w)) := add_w (by omega)
    have tw : (T ++ w).length = T.length + w.length := List.length_append
    cases us with
    | nil =>
      refine ⟨T ++ w, .im (.int (done.length : Int)), ?_, by rw [tw]; simp at lw; omega, fun n => by rw [ht.word g n, e]⟩
      have b : b_txt [S0, .im (.lst (xs.map .int)), .im (wsD ws), .im (sD T), .im (.int (done.length : Int)), e5, e6, e7, e8, e9] = .nx [S0, .im (.lst (xs.map .int)), .im (wsD ws), .im (sD (T ++ w)), .im (.int (done.length : Int)), e5, e6, e7, e8, e9] := by
        unfold b_txt
        have lw : (ws.length : Int) = (done.length : Int) + 1 := by simp at lw; omega
        generalize (ws.length : Int) = m at *
        generalize (done.length : Int) = dn at *
        generalize wsD ws = Z at *
        generalize sD T = ZT at *
        generalize sD w = ZW at *
        generalize sD (T ++ w) = ZTW at *
        generalize D.lst (xs.map .int) = ZX at *
        simp_arith [iw, a1, ln]
      exact forR_nx rfl b
    | cons u us =>
      have i48 := ix_num xs 48 (by omega)
      have i49 := ix_num xs 49 (by omega)
      have n48 := num_small hs (i := 48) (by omega)
      have n49 := num_small hs (i := 49) (by omega)
      generalize xs.getD 48 0 = x48 at *
      generalize xs.getD 49 0 = x49 at *
      have i48 : ixD (.lst (xs.map .int)) (.int 48) = some (.int x48) := i48
      have i49 : ixD (.lst (xs.map .int)) (.int 49) = some (.int x49) := i49
      have dl : (done.length : Int) ≤ 15 := by simp at lw; omega
      have m3 : 0 ≤ (x48 + (done.length : Int) * x49) % 3 ∧ (x48 + (done.length : Int) * x49) % 3 < 3 := ⟨Int.emod_nonneg _ (by decide), Int.emod_lt_of_pos _ (by decide)⟩
      obtain ⟨q, hq⟩ : ∃ q : Nat, (x48 + (done.length : Int) * x49) % 3 = (q : Int) := ⟨_, (Int.toNat_of_nonneg m3.1).symm⟩
      have q2 : q ≤ 2 := by omega
      have rp := rep_w (q + 1) (by omega)
      have hc : ((q + 1 : Nat) : Int) = 1 + (q : Int) := by omega
      rw [hc] at rp
      have a2 : dAddU (sD (T ++ w)) (sD (List.replicate (q + 1) 32)) = some (sD (T ++ w ++ List.replicate (q + 1) 32)) := add_w (by rw [tw, List.length_replicate]; simp at lw; omega)
      have b : b_txt [S0, .im (.lst (xs.map .int)), .im (wsD ws), .im (sD T), .im (.int (done.length : Int)), e5, e6, e7, e8, e9] = .nx [S0, .im (.lst (xs.map .int)), .im (wsD ws), .im (sD (T ++ w ++ List.replicate (q + 1) 32)), .im (.int (done.length : Int)), e5, e6, e7, e8, e9] := by
        unfold b_txt
        have lw : (ws.length : Int) = (done.length : Int) + us.length + 2 := by simp at lw; omega
        have mu := x_mul_r (a := (done.length : Int)) (b := x49) (by omega) (by omega)
        have u0 : 0 ≤ (us.length : Int) := by omega
        generalize (us.length : Int) = un at *
        generalize (ws.length : Int) = m at *
        generalize (done.length : Int) = dn at *
        generalize wsD ws = Z at *
        generalize sD T = ZT at *
        generalize sD w = ZW at *
        generalize sD (T ++ w ++ List.replicate (q + 1) 32) = ZR at *
        generalize sD (T ++ w) = ZTW at *
        generalize sD (List.replicate (q + 1) 32) = ZS at *
        generalize D.lst (xs.map .int) = ZX at *
        simp_arith [iw, a1, ln, i48, i49, mu, hq, rp, a2]
      rw [forR_nx (e := [S0, .im (.lst (xs.map .int)), .im (wsD ws), .im (sD T), .im (.int (done.length : Int)), e5, e6, e7, e8, e9]) rfl b]
      have hlen : (done ++ [w]).length = done.length + 1 := by simp
      have := txt_loop hs hx hw hl (u :: us) (done ++ [w]) (T ++ w ++ List.replicate (q + 1) 32) (.im (.int (done.length : Int))) (by rw [e]; simp) (by simp) (ht.next g q) (by
        rw [List.length_append, tw, List.length_replicate, hlen]
        omega)
      rw [hlen] at this
      exact this
end
end K57
namespace K57
open PySem PySem.Spec PyProof.Rows L2 Pf
open SX (S S_len split_S join_S)
/-! ### drawn words -/
def sgl : List Nat := List.range' 97 26 ++ List.range' 48 10
def ch (i : Int) : Nat := sgl.getD i.toNat 48
theorem ch_ok (i : Int) : okc (ch i) = true := by
  have : ∀ k : Nat, okc (sgl.getD k 48) = true := fun k => by
    by_cases h : k < 36
    · have : ∀ k, k < 36 → okc (sgl.getD k 48) = true := by decide
      exact this k h
    · rw [List.getD_eq_getElem?_getD, List.getElem?_eq_none (by show 36 ≤ k; omega)]
      rfl
  exact this _
abbrev aln : D := .str (Str.ofString "abcdefghijklmnopqrstuvwxyz0123456789")
theorem ix_aln (i : Int) (h : 0 ≤ i) (h2 : i < 36) : ixD aln (.int i) = some (.str ⟨#[ch i]⟩) := by
  show (if 0 ≤ i ∧ i < 2 ^ 63 ∧ i < ((Str.ofString "abcdefghijklmnopqrstuvwxyz0123456789").length : Nat) then ((Str.ofString "abcdefghijklmnopqrstuvwxyz0123456789").cps[i.toNat]?).map fun c => D.str ⟨#[c]⟩ else none) = _
  have l : (Str.ofString "abcdefghijklmnopqrstuvwxyz0123456789").length = 36 := by decide +kernel
  rw [if_pos ⟨h, by omega, by rw [l]; omega⟩, ← Array.getElem?_toList, cps_alnum]
  have k : i.toNat < sgl.length := by show _ < 36; omega
  rw [show List.range' 97 26 ++ List.range' 48 10 = sgl from rfl, List.getElem?_eq_getElem k]
  unfold ch
  rw [List.getD_eq_getElem?_getD, List.getElem?_eq_getElem k]
  rfl
theorem strs_of {α : Type} (g : α → Nat) : ∀ l : List α, strsD (l.map fun k => D.str ⟨#[g k]⟩) = some ((l.map fun k => [g k]).map S)
  | [] => rfl
  | a :: l => by
    rw [List.map_cons, strsD, strs_of g l]
    rfl
theorem joinL_sgl {α : Type} (g : α → Nat) : ∀ l : List α, TL.joinL [] (l.map fun k => [g k]) = l.map g
  | [] => rfl
  | [a] => rfl
  | a :: b :: l => by
    have ih := joinL_sgl g (b :: l)
    rw [List.map_cons] at ih
    rw [List.map_cons, List.map_cons, TL.joinL, ih]
    rfl
theorem join_eq {α : Type} (g : α → Nat) (l : List α) (h : l.length ≤ 100) : dJoin (.str (Str.ofString "")) (.lst (l.map fun k => .str ⟨#[g k]⟩)) = some (sD (l.map g)) := by
  have e0 : Str.ofString "" = S [] := by decide +kernel
  rw [e0]
  have hs : ((((l.map fun k => [g k]).map S).map (fun z : Str => z.length)).sum + ((l.map fun k => [g k]).map S).length * (S []).length) = l.length := by
    have : ∀ l : List α, (((l.map fun k => [g k]).map S).map (fun z : Str => z.length)).sum = l.length := fun l => by
      induction l with
      | nil => rfl
      | cons a l ih =>
        rw [List.map_cons, List.map_cons, List.map_cons, List.sum_cons, ih, List.length_cons, S_len]
        simp
        omega
    rw [this, show (S []).length = 0 from rfl, Nat.mul_zero, Nat.add_zero]
  show (match (D.lst (l.map fun k => D.str ⟨#[g k]⟩)).items with
    | some ds => (match strsD ds with
      | some ys => if (ys.map (fun z : Str => z.length)).sum + ys.length * (S []).length ≤ 16777216 then some (D.str (Txt.join (S []) ys)) else none
      | none => none)
    | none => none) = _
  dsimp only [D.items]
  rw [strs_of]
  dsimp only
  rw [hs, if_pos (by omega), join_S, joinL_sgl]
theorem cut2_front (w : W) : cutS (S w) none (some 2) = S (w.take 2) := by
  unfold cutS
  have e : (S w).cps.toList = w := rfl
  rw [HT.sIx_none, show (2 : Int) = ((2 : Nat) : Int) from rfl, HT.sIx_nat, e, S_len, List.drop_zero, Nat.sub_zero]
  rcases Nat.le_total 2 w.length with h | h
  · rw [Nat.min_eq_left h]
  · rw [Nat.min_eq_right h, List.take_of_length_le (Nat.le_refl _), List.take_of_length_le h]
theorem cut2_back (w : W) : cutS (S w) (some 2) none = S (w.drop 2) := by
  unfold cutS
  have e : (S w).cps.toList = w := rfl
  rw [HT.sIx_none, show (2 : Int) = ((2 : Nat) : Int) from rfl, HT.sIx_nat, e, S_len]
  rcases Nat.le_total 2 w.length with h | h
  · rw [Nat.min_eq_left h, List.take_of_length_le (by rw [List.length_drop]; exact Nat.le_refl _)]
  · rw [Nat.min_eq_right h, List.drop_of_length_le (Nat.le_refl _), List.drop_of_length_le h]
    simp
def tw : List W := [w_scheme, w_product, w_list, w_remove, w_drop, w_answer, w_answers, w_print, w_schemes, w_questions, w_undo, w_redo, w_ask, w_points, w_kind, w_greatest, w_bound, [101, 110, 100], [48], [55]]
theorem tw_gd : ∀ w ∈ tw, Gd w := by
  have : ∀ w ∈ tw, w ≠ [] ∧ w.length ≤ 70 ∧ w.all okc = true := by decide
  exact fun w hw => ⟨(this w hw).1, (this w hw).2.1, List.all_eq_true.mp (this w hw).2.2⟩
end K57
namespace K57
open PySem PySem.Spec PyProof.Rows L2 Pf
open SX (S S_len split_S join_S)
abbrev l12 : List D := [.str (Str.ofString "scheme"), .str (Str.ofString "product"), .str (Str.ofString "list"), .str (Str.ofString "remove"), .str (Str.ofString "drop"), .str (Str.ofString "answer"), .str (Str.ofString "answers"), .str (Str.ofString "print"), .str (Str.ofString "schemes"), .str (Str.ofString "questions"), .str (Str.ofString "undo"), .str (Str.ofString "redo")]
abbrev l8 : List D := [.str (Str.ofString "ask"), .str (Str.ofString "points"), .str (Str.ofString "kind"), .str (Str.ofString "greatest"), .str (Str.ofString "bound"), .str (Str.ofString "end"), .str (Str.ofString "0"), .str (Str.ofString "7")]
theorem tw_cat : dCatT (.tup l12) (.tup l8) = some (.tup (tw.map sD)) := by rfl
theorem tup12 (e : List Sl) : kTup (.ok l12 e) = .ok (.tup l12) e := kTup_ok (by decide)
theorem ix_tw (i : Int) (h : 0 ≤ i) (h2 : i < 20) : ∃ w, Gd w ∧ ixD (.tup (tw.map sD)) (.int i) = some (sD w) := by
  have k : i.toNat < tw.length := by show _ < 20; omega
  refine ⟨tw[i.toNat], tw_gd _ (List.getElem_mem k), ?_⟩
  rw [x_ixT h (by rw [List.length_map]; show i < ((20 : Nat) : Int); omega), List.getElem?_map, List.getElem?_eq_getElem k]
  rfl
theorem ix_pre (i : Int) (h : 0 ≤ i) (h2 : i < 4) : ∃ w : W, w.length ≤ 1 ∧ (∀ c ∈ w, okc c = true) ∧ ixD (.tup [.str (Str.ofString ""), .str (Str.ofString ""), .str (Str.ofString ""), .str (Str.ofString "-")]) (.int i) = some (sD w) := by
  have e0 : Str.ofString "" = S [] := by decide +kernel
  have e1 : Str.ofString "-" = S [45] := by decide +kernel
  rw [e0, e1]
  have c : i = 0 ∨ i = 1 ∨ i = 2 ∨ i = 3 := by omega
  rcases c with rfl | rfl | rfl | rfl
  · exact ⟨[], by decide, by decide, rfl⟩
  · exact ⟨[], by decide, by decide, rfl⟩
  · exact ⟨[], by decide, by decide, rfl⟩
  · exact ⟨[45], by decide, by decide, rfl⟩
theorem sgl_gd {α : Type} (g : α → Int) (l : List α) : ∀ c ∈ l.map (fun k => ch (g k)), okc c = true := fun c hc => by
  obtain ⟨k, _, rfl⟩ := List.mem_map.mp hc
  exact ch_ok _
theorem law_word_eq (a b : Int) (ha : 0 ≤ a ∧ a < 1009) (hb : 0 ≤ b ∧ b < 1009) : ∃ w, Gd w ∧ F__law_word [.int a, .int b] = .ok (sD w) := by
  have cat := tw_cat
  have t12 := tup12
  show ∃ w, Gd w ∧ (b__law_word [.im (.int a), .im (.int b), .no, .no, .no, .no, .no, .no, .no]).fn = _
  unfold b__law_word
  by_cases h0 : a % 4 = 0
  · obtain ⟨w, gw, iw⟩ := ix_tw (a / 4 % 20) (by omega) (by omega)
    refine ⟨w, gw, ?_⟩
    generalize D.tup (tw.map sD) = TW at *
    generalize sD w = ZW at *
    simp_arith [t12, cat, iw]
  · have sz : 0 ≤ a / 4 % 7 ∧ a / 4 % 7 < 7 := by omega
    by_cases h1 : a % 4 = 1
    · obtain ⟨lg, hlg, l1, l2⟩ : ∃ lg : Nat, (lg : Int) = 1 + a / 4 % 7 + 56 * (if b % 5 = 0 then 1 else 0) ∧ 1 ≤ lg ∧ lg ≤ 63 := by
        by_cases h5 : b % 5 = 0
        · rw [if_pos h5]
          exact ⟨(1 + a / 4 % 7 + 56 * 1).toNat, by omega, by omega, by omega⟩
        · rw [if_neg h5]
          exact ⟨(1 + a / 4 % 7 + 56 * 0).toNat, by omega, by omega, by omega⟩
      obtain ⟨pr, pl, po, ip⟩ := ix_pre (b % 4) (by omega) (by omega)
      have gl := sgl_gd (fun k : Nat => 26 + (b + (k : Int) * k * 3 + a / 28) % 10) (List.range lg)
      have ll : ((List.range lg).map (fun k : Nat => ch (26 + (b + (k : Int) * k * 3 + a / 28) % 10))).length = lg := by rw [List.length_map, List.length_range]
      refine ⟨pr ++ (List.range lg).map (fun k : Nat => ch (26 + (b + (k : Int) * k * 3 + a / 28) % 10)), ⟨fun z => ?_, by rw [List.length_append, ll]; omega, fun c hc => (List.mem_append.mp hc).elim (po c) (gl c)⟩, ?_⟩
      · have := congrArg List.length z
        rw [List.length_append, ll] at this
        simp at this
        omega
      have ad := add_w (a := pr) (b := (List.range lg).map (fun k : Nat => ch (26 + (b + (k : Int) * k * 3 + a / 28) % 10))) (by rw [ll]; omega)
      have jn := join_eq (fun k : Nat => ch (26 + (b + (k : Int) * k * 3 + a / 28) % 10)) (List.range lg) (by rw [List.length_range]; omega)
      have rg := x_rng1 lg (by omega)
      have ls : ((List.range lg).map fun k : Nat => D.str ⟨#[ch (26 + (b + (k : Int) * k * 3 + a / 28) % 10)]⟩).length ≤ 4000 := by rw [List.length_map, List.length_range]; omega
      have tn : ∀ s6 : Sl, turnsD (gNm 8) tYes' (fIx (rdN 3) (f2 (vK (.int 26)) (f2 (fCB (fCons (f2 (f2 (rdN 1) (f2 (f2 (rdN 8) (rdN 8) dMul) (vK (.int 3)) dMul) dAddU) (f2 (rdN 0) (vK (.int 28)) dFdv) dAddU) aNil) cInt) (vK (.int 10)) dMod) dAddU))
          [.im (.int a), .im (.int b), .im (.tup (tw.map sD)), .im aln, .im (.int (a / 4 % 7)), .no, .im (.int (lg : Int)), .no, .no] ((List.range lg).map fun (i : Nat) => D.int (i : Int)) = some ((List.range lg).map fun k : Nat => D.str ⟨#[ch (26 + (b + (k : Int) * k * 3 + a / 28) % 10)]⟩) := fun s6 =>
        turns_mapL (fun (i : Nat) => D.int (i : Int)) (fun k : Nat => D.str ⟨#[ch (26 + (b + (k : Int) * k * 3 + a / 28) % 10)]⟩) (List.range lg) fun k hk => by
          have hk := List.mem_range.mp hk
          have m1 := x_mul_l (a := (k : Int)) (b := (k : Int)) (by omega) (by omega)
          have m2 := x_mul_r (a := (k : Int) * k) (b := 3) (by decide) (by decide)
          have ia := ix_aln (26 + (b + (k : Int) * k * 3 + a / 28) % 10) (by omega) (by omega)
          generalize D.tup (tw.map sD) = TW at *
          generalize aln = AL at *
          simp_arith [m1, m2, ia]
      have tn := tn .no
      have q5 := x_eq (b % 5) 0
      have ci : cInt [.bl (decide (b % 5 = 0))] = some (.int (if b % 5 = 0 then 1 else 0)) := by
        by_cases h5 : b % 5 = 0
        · rw [if_pos h5, decide_eq_true h5]; rfl
        · rw [if_neg h5, decide_eq_false h5]; rfl
      generalize decide (b % 5 = 0) = bb at *
      have mx := x_mul_l (a := 56) (b := if b % 5 = 0 then 1 else 0) (by decide) (by decide)
      generalize (if b % 5 = 0 then (1 : Int) else 0) = dl at *
      have hlg := hlg.symm
      generalize ((List.range lg).map fun k : Nat => D.str ⟨#[ch (26 + (b + (k : Int) * k * 3 + a / 28) % 10)]⟩) = YS at *
      generalize ((List.range lg).map fun (i : Nat) => D.int (i : Int)) = RS at *
      generalize sD (pr ++ (List.range lg).map (fun k : Nat => ch (26 + (b + (k : Int) * k * 3 + a / 28) % 10))) = ZO at *
      generalize sD ((List.range lg).map (fun k : Nat => ch (26 + (b + (k : Int) * k * 3 + a / 28) % 10))) = ZJ at *
      generalize sD pr = ZP at *
      generalize hTW : D.tup (tw.map sD) = TW at *
      simp_arith [t12, cat, q5, ci, mx, hlg, rg, tn, tJoin, wJoin, wJoin2, jn, ip, ad]
    · obtain ⟨m, hm, m2⟩ : ∃ m : Nat, (m : Int) = a / 4 % 7 * 2 ∧ m ≤ 12 := ⟨(a / 4 % 7 * 2).toNat, by omega, by omega⟩
      have c0 := ch_ok (b % 36)
      have i0 := ix_aln (b % 36) (by omega) (by omega)
      have gl := sgl_gd (fun k : Nat => (b + 11 * (k : Int) * a + k) % 36) (List.range m)
      have ll : ((List.range m).map (fun k : Nat => ch ((b + 11 * (k : Int) * a + k) % 36))).length = m := by rw [List.length_map, List.length_range]
      have wl : (ch (b % 36) :: (List.range m).map (fun k : Nat => ch ((b + 11 * (k : Int) * a + k) % 36))).length = m + 1 := by rw [List.length_cons, ll]
      have wo : ∀ c ∈ ch (b % 36) :: (List.range m).map (fun k : Nat => ch ((b + 11 * (k : Int) * a + k) % 36)), okc c = true := fun c hc => by
        rcases List.mem_cons.mp hc with rfl | hcc
        · exact c0
        · exact gl c hcc
      have ad : dAddU (.str ⟨#[ch (b % 36)]⟩) (sD ((List.range m).map (fun k : Nat => ch ((b + 11 * (k : Int) * a + k) % 36)))) = some (sD (ch (b % 36) :: (List.range m).map (fun k : Nat => ch ((b + 11 * (k : Int) * a + k) % 36)))) :=
        add_w (a := [ch (b % 36)]) (by rw [ll]; simp; omega)
      have jn := join_eq (fun k : Nat => ch ((b + 11 * (k : Int) * a + k) % 36)) (List.range m) (by rw [List.length_range]; omega)
      have rg := x_rng1 m (by omega)
      have ls : ((List.range m).map fun k : Nat => D.str ⟨#[ch ((b + 11 * (k : Int) * a + k) % 36)]⟩).length ≤ 4000 := by rw [List.length_map, List.length_range]; omega
      have tn : turnsD (gNm 8) tYes' (fIx (rdN 3) (f2 (fCB (fCons (f2 (f2 (rdN 1) (f2 (f2 (vK (.int 11)) (rdN 8) dMul) (rdN 0) dMul) dAddU) (rdN 8) dAddU) aNil) cInt) (vK (.int 36)) dMod))
          [.im (.int a), .im (.int b), .im (.tup (tw.map sD)), .im aln, .im (.int (a / 4 % 7)), .no, .no, .no, .no] ((List.range m).map fun (i : Nat) => D.int (i : Int)) = some ((List.range m).map fun k : Nat => D.str ⟨#[ch ((b + 11 * (k : Int) * a + k) % 36)]⟩) :=
        turns_mapL (fun (i : Nat) => D.int (i : Int)) (fun k : Nat => D.str ⟨#[ch ((b + 11 * (k : Int) * a + k) % 36)]⟩) (List.range m) fun k hk => by
          have hk := List.mem_range.mp hk
          have m1 := x_mul_l (a := 11) (b := (k : Int)) (by decide) (by decide)
          have m2 := x_mul_r (a := 11 * (k : Int)) (b := a) (by omega) (by omega)
          have ia := ix_aln ((b + 11 * (k : Int) * a + k) % 36) (by omega) (by omega)
          generalize D.tup (tw.map sD) = TW at *
          generalize aln = AL at *
          simp_arith [m1, m2, ia]
      have mx := x_mul_r (a := a / 4 % 7) (b := 2) (by decide) (by decide)
      have hm := hm.symm
      generalize hcs : (List.range m).map (fun k : Nat => ch ((b + 11 * (k : Int) * a + k) % 36)) = cs at *
      generalize hw : ch (b % 36) :: cs = w at *
      have wne : w ≠ [] := fun z => by rw [z] at wl; simp at wl
      generalize ((List.range m).map fun k : Nat => D.str ⟨#[ch ((b + 11 * (k : Int) * a + k) % 36)]⟩) = YS at *
      generalize ((List.range m).map fun (i : Nat) => D.int (i : Int)) = RS at *
      by_cases h9 : b % 9 = 0
      · refine ⟨w.take 2 ++ [95] ++ w.drop 2, ⟨by simp, ?_, fun c hc => ?_⟩, ?_⟩
        · rw [List.length_append, List.length_append, List.length_take, List.length_drop, wl]
          simp
          omega
        · rcases List.mem_append.mp hc with hc | hc
          · rcases List.mem_append.mp hc with hc | hc
            · exact wo c (List.mem_of_mem_take hc)
            · rw [List.mem_singleton.mp hc]; rfl
          · exact wo c (List.mem_of_mem_drop hc)
        · have eu : Str.ofString "_" = S [95] := by decide +kernel
          have a1 : dAddU (sD (w.take 2)) (.str (Str.ofString "_")) = some (sD (w.take 2 ++ [95])) := by
            rw [eu]
            exact add_w (by rw [List.length_take]; simp; omega)
          have a2 : dAddU (sD (w.take 2 ++ [95])) (sD (w.drop 2)) = some (sD (w.take 2 ++ [95] ++ w.drop 2)) := add_w (by
            rw [List.length_append, List.length_take, List.length_drop, wl]; simp; omega)
          have sl1 : ∀ e, kSlS3 (S w) none (.ok (some 2) e) = .ok (sD (w.take 2)) e := fun e => by
            rw [wSlS3 (by rw [S_len]; omega), cut2_front]
          have sl2 : ∀ e, kSlS3 (S w) (some 2) (.ok none e) = .ok (sD (w.drop 2)) e := fun e => by
            rw [wSlS3 (by rw [S_len]; omega), cut2_back]
          generalize sD (w.take 2 ++ [95] ++ w.drop 2) = ZO at *
          generalize sD (w.take 2 ++ [95]) = ZA at *
          generalize sD (w.take 2) = ZT at *
          generalize sD (w.drop 2) = ZD at *
          have sl0 : ∀ (l h : List Sl → Rs (Option Int)) (e : List Sl), kSlS l h (.ok (sD w) e) = kSlS2 h (S w) (l e) := fun _ _ _ => rfl
          generalize sD w = ZW at *
          generalize sD cs = ZC at *
          generalize S w = SW at *
          generalize D.str ⟨#[ch (b % 36)]⟩ = Z0 at *
          generalize D.tup (tw.map sD) = TW at *
          simp_arith [t12, cat, i0, mx, hm, rg, tn, tJoin, wJoin, wJoin2, jn, ad, tSlS, sl0, wSlS2, sl1, sl2, a1, a2]
      · refine ⟨w, ⟨wne, by omega, wo⟩, ?_⟩
        generalize sD w = ZW at *
        generalize sD cs = ZC at *
        generalize D.str ⟨#[ch (b % 36)]⟩ = Z0 at *
        generalize D.tup (tw.map sD) = TW at *
        simp_arith [t12, cat, i0, mx, hm, rg, tn, tJoin, wJoin, wJoin2, jn, ad]
end K57
namespace K57
open PySem PySem.Spec PyProof.Rows L2 Pf
open SX (S S_len split_S join_S)
theorem ix_lits (L : List W) (g : ∀ w ∈ L, Gd w) (i : Int) (h : 0 ≤ i) (h2 : i < (L.length : Int)) : ∃ w, Gd w ∧ ixD (.tup (L.map sD)) (.int i) = some (sD w) := by
  have k : i.toNat < L.length := by omega
  refine ⟨L[i.toNat], g _ (List.getElem_mem k), ?_⟩
  rw [x_ixT h (by rw [List.length_map]; omega), List.getElem?_map, List.getElem?_eq_getElem k]
  rfl
theorem ix_wsG (L : List W) (g : ∀ w ∈ L, Gd w) (i : Int) (h : 0 ≤ i) (h2 : i < (L.length : Int)) : ∃ w, Gd w ∧ ixD (wsD L) (.int i) = some (sD w) := by
  have k : i.toNat < L.length := by omega
  refine ⟨L[i.toNat], g _ (List.getElem_mem k), ?_⟩
  rw [x_ixL h (by rw [List.length_map]; omega), List.getElem?_map, List.getElem?_eq_getElem k]
  rfl
theorem five_gd : ∀ w ∈ five, Gd w := by
  have : ∀ w ∈ five, w ≠ [] ∧ w.length ≤ 70 ∧ w.all okc = true := by decide
  exact fun w hw => ⟨(this w hw).1, (this w hw).2.1, List.all_eq_true.mp (this w hw).2.2⟩
theorem fiv2_gd : ∀ w ∈ fiv2, Gd w := by
  have : ∀ w ∈ fiv2, w ≠ [] ∧ w.length ≤ 70 ∧ w.all okc = true := by decide
  exact fun w hw => ⟨(this w hw).1, (this w hw).2.1, List.all_eq_true.mp (this w hw).2.2⟩
theorem gb_gd : ∀ w ∈ [w_greatest, w_bound], Gd w := by
  have : ∀ w ∈ [w_greatest, w_bound], w ≠ [] ∧ w.length ≤ 70 ∧ w.all okc = true := by decide
  exact fun w hw => ⟨(this w hw).1, (this w hw).2.1, List.all_eq_true.mp (this w hw).2.2⟩
theorem more_gd : ∀ w ∈ [w_product, w_list, w_ask, w_points, w_kind, [97], [98], [99], [48], [55], [49, 50]], Gd w := by
  have : ∀ w ∈ [w_product, w_list, w_ask, w_points, w_kind, [97], [98], [99], [48], [55], [49, 50]], w ≠ [] ∧ w.length ≤ 70 ∧ w.all okc = true := by decide
  exact fun w hw => ⟨(this w hw).1, (this w hw).2.1, List.all_eq_true.mp (this w hw).2.2⟩
theorem turns_filt {F : List D → Rf} {q : W → Bool} {e : List Sl} (hF : ∀ w, Gd w → F [sD w] = .ok (.bl (q w))) {z0 z1 z2 z3 z4 z5 : Sl} (ws : List W) (hw : ∀ w ∈ ws, Gd w) :
    turnsD (gNm 6) (fTru (vCall 1 F (fCons (rdN 6) aNil))) (rdN 6) [z0, z1, z2, z3, z4, z5, .no, .no] (ws.map sD) = some ((ws.filter q).map sD) := by
  have e : (ws.filter q).map sD = ws.filterMap fun w => if q w = true then some (sD w) else none := by
    clear hw
    induction ws with
    | nil => rfl
    | cons a r ih =>
      rw [List.filterMap_cons]
      by_cases c : q a = true
      · rw [List.filter_cons_of_pos c, List.map_cons, if_pos c, ih]
      · rw [List.filter_cons_of_neg c, if_neg c, ih]
  rw [e]
  exact turns_pickL sD (fun w => if q w = true then some (sD w) else none) ws fun w hm => by
    have t := hF w (hw w hm)
    generalize sD w = ZW at *
    cases k : q w with
    | true =>
      rw [k] at t
      rw [if_pos rfl]
      simp_arith [t]
    | false =>
      rw [k] at t
      rw [if_neg (by decide)]
      simp_arith [t]
theorem filt_gd {ws xs : List W} {q : W → Bool} (hw : ∀ w ∈ ws, Gd w) (hx : ∀ w ∈ xs, Gd w) : ∀ w ∈ ws.filter q ++ xs, Gd w := fun w h => by
  rcases List.mem_append.mp h with k | k
  · exact hw w (List.mem_filter.mp k).1
  · exact hx w k
theorem cat_ds {a b : List D} (h : a.length + b.length ≤ 4000) : dCat (.lst a) (.lst b) = some (a ++ b) := if_pos (len_le h)
abbrev Res (xs : List Int) (ws : List W) : Prop := ∃ L, L ≠ [] ∧ L.length ≤ 11 ∧ (∀ w ∈ L, Gd w) ∧ F__law_formed [.lst (xs.map .int), wsD ws] = .ok (wsD L)
theorem law_formed_eq (xs : List Int) (hs : small xs) (hx : xs.length = 60) (ws : List W) (hw : ∀ w ∈ ws, Gd w) (hl : ws.length ≤ 10) : Res xs ws := by
  have i42 : ixD (.lst (xs.map .int)) (.int 42) = some (.int (xs.getD 42 0)) := ix_num xs 42 (by omega)
  have i43 : ixD (.lst (xs.map .int)) (.int 43) = some (.int (xs.getD 43 0)) := ix_num xs 43 (by omega)
  have i44 : ixD (.lst (xs.map .int)) (.int 44) = some (.int (xs.getD 44 0)) := ix_num xs 44 (by omega)
  have n42 := num_small hs (i := 42) (by omega)
  have n43 := num_small hs (i := 43) (by omega)
  have n44 := num_small hs (i := 44) (by omega)
  generalize xs.getD 42 0 = x42 at *
  generalize xs.getD 43 0 = x43 at *
  generalize xs.getD 44 0 = x44 at *
  have ea : Str.ofString "a" = S [97] := by decide +kernel
  have eb : Str.ofString "b" = S [98] := by decide +kernel
  have ec : Str.ofString "c" = S [99] := by decide +kernel
  have e0 : Str.ofString "0" = S [48] := by decide +kernel
  have e7 : Str.ofString "7" = S [55] := by decide +kernel
  have e12 : Str.ofString "12" = S [49, 50] := by decide +kernel
  have lf := List.length_filter_le nameB ws
  have lg := List.length_filter_le numB ws
  have tn1 : ∀ z0 z1 z2 z3 z4 z5 : Sl, _ := fun z0 z1 z2 z3 z4 z5 => turns_filt (e := []) (F := F__law_is_name) (q := nameB) (fun w g => law_is_name_eq g) (z0 := z0) (z1 := z1) (z2 := z2) (z3 := z3) (z4 := z4) (z5 := z5) ws hw
  have tn2 : ∀ z0 z1 z2 z3 z4 z5 : Sl, _ := fun z0 z1 z2 z3 z4 z5 => turns_filt (e := []) (F := F__law_is_number) (q := numB) (fun w g => law_is_number_eq g) (z0 := z0) (z1 := z1) (z2 := z2) (z3 := z3) (z4 := z4) (z5 := z5) ws hw
  have c1 : dCat (.lst ((ws.filter nameB).map sD)) (.lst [.str (Str.ofString "a"), .str (Str.ofString "b"), .str (Str.ofString "c")]) = some ((ws.filter nameB ++ [[97], [98], [99]]).map sD) := by
    rw [ea, eb, ec, List.map_append]
    exact cat_ds (by rw [List.length_map]; simp; omega)
  have c2 : dCat (.lst ((ws.filter numB).map sD)) (.lst [.str (Str.ofString "0"), .str (Str.ofString "7"), .str (Str.ofString "12")]) = some ((ws.filter numB ++ [[48], [55], [49, 50]]).map sD) := by
    rw [e0, e7, e12, List.map_append]
    exact cat_ds (by rw [List.length_map]; simp; omega)
  have g1 : ∀ w ∈ ws.filter nameB ++ [[97], [98], [99]], Gd w := filt_gd hw fun w h => more_gd w (by simp at h; rcases h with rfl | rfl | rfl <;> simp)
  have g2 : ∀ w ∈ ws.filter numB ++ [[48], [55], [49, 50]], Gd w := filt_gd hw fun w h => more_gd w (by simp at h; rcases h with rfl | rfl | rfl <;> simp)
  have l1 : (ws.filter nameB ++ [[97], [98], [99]]).length = (ws.filter nameB).length + 3 := List.length_append
  have l2 : (ws.filter numB ++ [[48], [55], [49, 50]]).length = (ws.filter numB).length + 3 := List.length_append
  have s1 : ((ws.filter nameB).map sD).length ≤ 4000 := by rw [List.length_map]; omega
  have s2 : ((ws.filter numB).map sD).length ≤ 4000 := by rw [List.length_map]; omega
  have s3 : ((ws.filter nameB ++ [[97], [98], [99]]).map sD).length ≤ 4000 := by rw [List.length_map]; omega
  have s4 : ((ws.filter numB ++ [[48], [55], [49, 50]]).map sD).length ≤ 4000 := by rw [List.length_map]; omega
  have it : (wsD ws).items = some (ws.map sD) := rfl
  have key : ∀ nm fg : List W, (∀ w ∈ nm, Gd w) → (∀ w ∈ fg, Gd w) → 3 ≤ nm.length → 3 ≤ fg.length → fg.length ≤ 13 → dCat (.lst ((ws.filter nameB).map sD)) (.lst [.str (Str.ofString "a"), .str (Str.ofString "b"), .str (Str.ofString "c")]) = some (nm.map sD) →
      dCat (.lst ((ws.filter numB).map sD)) (.lst [.str (Str.ofString "0"), .str (Str.ofString "7"), .str (Str.ofString "12")]) = some (fg.map sD) → (nm.map sD).length ≤ 4000 → (fg.map sD).length ≤ 4000 → Res xs ws := by
    clear c1 c2 g1 g2 l1 l2 s3 s4
    intro nm fg g1 g2 l1 l2 l3 c1 c2 s3 s4
    obtain ⟨m0, gm0, im0⟩ := ix_wsG nm g1 0 (by omega) (by omega)
    obtain ⟨m1, gm1, im1⟩ := ix_wsG nm g1 1 (by omega) (by omega)
    obtain ⟨m2, gm2, im2⟩ := ix_wsG nm g1 2 (by omega) (by omega)
    obtain ⟨f0, gf0, if0⟩ := ix_wsG fg g2 0 (by omega) (by omega)
    obtain ⟨f1, gf1, if1⟩ := ix_wsG fg g2 1 (by omega) (by omega)
    have lnf : cLen [.lst (fg.map sD)] = some (.int (fg.length : Int)) := len_ws fg
    change ixD (.lst (nm.map sD)) _ = _ at im0 im1 im2
    change ixD (.lst (fg.map sD)) _ = _ at if0 if1
    show ∃ L, L ≠ [] ∧ L.length ≤ 11 ∧ (∀ w ∈ L, Gd w) ∧ (b__law_formed [.im (.lst (xs.map .int)), .im (wsD ws), .no, .no, .no, .no, .no, .no]).fn = _
    unfold b__law_formed
    have hm : 0 ≤ x43 % 8 ∧ x43 % 8 < 8 := by omega
    have hk : 0 ≤ x42 % 12 ∧ x42 % 12 < 12 := by omega
    have wn : ∀ (a : List D), (D.lst a) = .lst a := fun _ => rfl
    generalize (ws.filter nameB).map sD = Y1 at *
    generalize (ws.filter numB).map sD = Y2 at *
    generalize ws.map sD = YW at *
    generalize wsD ws = ZW at *
    generalize D.lst (xs.map .int) = ZX at *
    by_cases k3 : x42 % 12 < 3
    · obtain ⟨w, gw, iw⟩ := ix_lits five five_gd (x43 % 8 % 5) (by omega) (by show x43 % 8 % 5 < 5; omega)
      rw [← lit_five] at iw
      refine ⟨[w], by simp, by simp, fun v hv => by rw [List.mem_singleton.mp hv]; exact gw, ?_⟩
      show _ = Rf.ok (.lst [sD w])
      generalize nm.map sD = YN at *
      generalize fg.map sD = YF at *
      simp_arith [it, tn1, tn2, c1, c2, i42, i43, iw, tRetO, wRetO]
    · by_cases k5 : x42 % 12 < 5
      · obtain ⟨w, gw, iw⟩ := ix_lits fiv2 fiv2_gd (x43 % 8 % 5) (by omega) (by show x43 % 8 % 5 < 5; omega)
        rw [← lit_fiv2] at iw
        refine ⟨[w, m0], by simp, by simp, fun v hv => by simp at hv; rcases hv with rfl | rfl <;> assumption, ?_⟩
        show _ = Rf.ok (.lst [sD w, sD m0])
        generalize nm.map sD = YN at *
        generalize fg.map sD = YF at *
        simp_arith [it, tn1, tn2, c1, c2, i42, i43, iw, im0, tRetO, wRetO]
      · by_cases k6 : x42 % 12 = 5
        · refine ⟨[w_product, m0, m1, m2], by simp, by simp, fun v hv => by
            simp only [List.mem_cons, List.not_mem_nil, or_false] at hv; rcases hv with rfl | rfl | rfl | rfl <;> first | assumption | exact more_gd _ (by simp), ?_⟩
          show _ = Rf.ok (.lst [sD w_product, sD m0, sD m1, sD m2])
          rw [show sD w_product = D.str (Str.ofString "product") by rw [lit_product]]
          generalize nm.map sD = YN at *
          generalize fg.map sD = YF at *
          simp_arith [it, tn1, tn2, c1, c2, i42, i43, im0, im1, im2, tRetO, wRetO]
        · by_cases k7 : x42 % 12 = 6
          · refine ⟨[w_list, m0, m1], by simp, by simp, fun v hv => by
              simp only [List.mem_cons, List.not_mem_nil, or_false] at hv; rcases hv with rfl | rfl | rfl <;> first | assumption | exact more_gd _ (by simp), ?_⟩
            show _ = Rf.ok (.lst [sD w_list, sD m0, sD m1])
            rw [show sD w_list = D.str (Str.ofString "list") by rw [lit_list]]
            generalize nm.map sD = YN at *
            generalize fg.map sD = YF at *
            simp_arith [it, tn1, tn2, c1, c2, i42, i43, im0, im1, im2, tRetO, wRetO]
          · by_cases k8 : x42 % 12 = 7
            · refine ⟨[w_ask, m0, w_points, m1], by simp, by simp, fun v hv => by
                simp only [List.mem_cons, List.not_mem_nil, or_false] at hv; rcases hv with rfl | rfl | rfl | rfl <;> first | assumption | exact more_gd _ (by simp), ?_⟩
              show _ = Rf.ok (.lst [sD w_ask, sD m0, sD w_points, sD m1])
              rw [show sD w_ask = D.str (Str.ofString "ask") by rw [lit_ask], show sD w_points = D.str (Str.ofString "points") by rw [show Str.ofString "points" = S w_points by decide +kernel]]
              generalize nm.map sD = YN at *
              generalize fg.map sD = YF at *
              simp_arith [it, tn1, tn2, c1, c2, i42, i43, im0, im1, im2, tRetO, wRetO]
            · by_cases k9 : x42 % 12 = 8
              · refine ⟨[w_ask, m0, w_kind, m1, f0, f1], by simp, by simp, fun v hv => by
                  simp only [List.mem_cons, List.not_mem_nil, or_false] at hv; rcases hv with rfl | rfl | rfl | rfl | rfl | rfl <;> first | assumption | exact more_gd _ (by simp), ?_⟩
                show _ = Rf.ok (.lst [sD w_ask, sD m0, sD w_kind, sD m1, sD f0, sD f1])
                rw [show sD w_ask = D.str (Str.ofString "ask") by rw [lit_ask], show sD w_kind = D.str (Str.ofString "kind") by rw [show Str.ofString "kind" = S w_kind by decide +kernel]]
                generalize nm.map sD = YN at *
                generalize fg.map sD = YF at *
                simp_arith [it, tn1, tn2, c1, c2, i42, i43, im0, im1, im2, if0, if1, tRetO, wRetO]
              · obtain ⟨w, gw, iw⟩ := ix_lits [w_greatest, w_bound] gb_gd (x44 % 2) (by omega) (by show x44 % 2 < 2; omega)
                rw [← lit_gb] at iw
                obtain ⟨m, hmm⟩ : ∃ m : Nat, (m : Int) = x43 % 8 := ⟨(x43 % 8).toNat, by omega⟩
                have hfi : ∀ k : Nat, k < m → ∃ v, Gd v ∧ ixD (wsD fg) (.int ((k : Int) % (fg.length : Int))) = some (sD v) := fun k _ => ix_wsG fg g2 _ (Int.emod_nonneg _ (by omega)) (Int.emod_lt_of_pos _ (by omega))
                let fv : Nat → W := fun k => fg.getD ((k : Int) % (fg.length : Int)).toNat []
                have hfv : ∀ k : Nat, Gd (fv k) ∧ ixD (wsD fg) (.int ((k : Int) % (fg.length : Int))) = some (sD (fv k)) := fun k => by
                  have p0 : 0 ≤ (k : Int) % (fg.length : Int) := Int.emod_nonneg _ (by omega)
                  have p1 : (k : Int) % (fg.length : Int) < (fg.length : Int) := Int.emod_lt_of_pos _ (by omega)
                  have kk : ((k : Int) % (fg.length : Int)).toNat < fg.length := by omega
                  have ev : fv k = fg[((k : Int) % (fg.length : Int)).toNat] := by
                    show fg.getD _ [] = _
                    rw [List.getD_eq_getElem?_getD, List.getElem?_eq_getElem kk]
                    rfl
                  refine ⟨by rw [ev]; exact g2 _ (List.getElem_mem kk), ?_⟩
                  rw [ev, x_ixL p0 (by rw [List.length_map]; omega), List.getElem?_map, List.getElem?_eq_getElem kk]
                  rfl
                clear_value fv
                have lr : (List.range m).length ≤ 7 := by rw [List.length_range]; omega
                refine ⟨[w_ask, m0, w, m1] ++ (List.range m).map fv, by simp, by rw [List.length_append, List.length_map]; simp at lr ⊢; omega, fun v hv => ?_, ?_⟩
                · rcases List.mem_append.mp hv with hv1 | hv2
                  · simp only [List.mem_cons, List.not_mem_nil, or_false] at hv1
                    rcases hv1 with rfl | rfl | rfl | rfl <;> first | assumption | exact more_gd _ (by simp)
                  · obtain ⟨k, _, rfl⟩ := List.mem_map.mp hv2
                    exact (hfv k).1
                · have tn : ∀ z2 : Sl, turnsD (gNm 7) tYes' (fIx (rdN 3) (f2 (rdN 7) (fCB (fCons (rdN 3) aNil) cLen) dMod)) [.im ZX, .im ZW, .im (.lst (nm.map sD)), .im (.lst (fg.map sD)), .im (.int (x43 % 8)), .im (.int (x42 % 12)), .no, .no] ((List.range m).map fun (i : Nat) => D.int (i : Int)) = some ((List.range m).map fun k : Nat => sD (fv k)) := fun _ =>
                    turns_mapL (fun (i : Nat) => D.int (i : Int)) (fun k : Nat => sD (fv k)) (List.range m) fun k _ => by
                      have q : ixD (.lst (fg.map sD)) _ = _ := (hfv k).2
                      have fp : 0 < (fg.length : Int) := by omega
                      generalize (fg.length : Int) = fl at *
                      generalize D.lst (fg.map sD) = ZF at *
                      generalize D.lst (nm.map sD) = ZN at *
                      generalize sD (fv k) = Zk at *
                      simp_arith [lnf, q]
                  have tn := tn .no
                  have rg := x_rng1 m (by omega)
                  have sz : ((List.range m).map fun k : Nat => sD (fv k)).length ≤ 4000 := by rw [List.length_map]; omega
                  have cc : dCat (.lst [.str (Str.ofString "ask"), sD m0, sD w, sD m1]) (.lst ((List.range m).map fun k : Nat => sD (fv k))) = some (([w_ask, m0, w, m1] ++ (List.range m).map fv).map sD) := by
                    rw [lit_ask, List.map_append, List.map_map]
                    exact cat_ds (by rw [List.length_map]; simp at lr ⊢; omega)
                  show _ = Rf.ok (.lst (([w_ask, m0, w, m1] ++ (List.range m).map fv).map sD))
                  generalize ([w_ask, m0, w, m1] ++ (List.range m).map fv).map sD = YO at *
                  generalize ((List.range m).map fun k : Nat => sD (fv k)) = YK at *
                  generalize ((List.range m).map fun (i : Nat) => D.int (i : Int)) = YR at *
                  have hmm := hmm.symm
                  rw [hmm] at tn
                  generalize nm.map sD = YN at *
                  generalize fg.map sD = YF at *
                  simp_arith [it, tn1, tn2, c1, c2, i42, i43, i44, hmm, im0, im1, iw, rg, tn, cc, tRetO, wRetO]
  exact key _ _ g1 g2 (by omega) (by omega) (by omega) c1 c2 s3 s4
end K57
namespace K57
open PySem PySem.Spec PyProof.Rows L2 Pf
open SX (S S_len split_S join_S)
def b_line : List Sl → Ro := (rIf (fAsB (f2 (f2 (fCB (fCons (fIx (rdN 1) (vK (.int 41))) aNil) cInt) (vK (.int 3)) dMod) (vK (.int 0)) dGt)) (rSeq (rSetO 8 (vCallO 2 F__law_formed (fCons (rdN 1) (fCons (rdN 2) aNil))))
  (rSeq (rSet 9 (f2 (fCB (fCons (fIx (rdN 1) (vK (.int 45))) aNil) cInt) (ownLen 8) dMod))
  (rSeq (rIf (fAsB (f2 (f2 (fCB (fCons (fIx (rdN 1) (vK (.int 46))) aNil) cInt) (vK (.int 6)) dMod) (vK (.int 0)) dEq)) (rAsgM (gIt 8 (rdN 9)) (fIx (rdN 2) (vK (.int 0)))) Ro.nx)
  (rSeq (rIf (bAnd (fAsB (f2 (f2 (fCB (fCons (fIx (rdN 1) (vK (.int 46))) aNil) cInt) (vK (.int 6)) dMod) (vK (.int 1)) dEq)) (fAsB (f2 (ownLen 8) (vK (.int 1)) dGt))) (rSetO 8 (fN2 (fSl (rdN 8) pNo (fPart (rdN 9))) (fSl (rdN 8) (fPart (f2 (rdN 9) (vK (.int 1)) dAddU)) pNo) dCat)) Ro.nx)
  (rSeq (rIf (fAsB (f2 (f2 (fCB (fCons (fIx (rdN 1) (vK (.int 46))) aNil) cInt) (vK (.int 6)) dMod) (vK (.int 2)) dEq)) (rExpr (fApp 8 (fIx (rdN 2) (vK (.int 0))))) Ro.nx)
  (rSet 2 (rdN 8))))))) Ro.nx)
/-! ### equal lists of words -/
theorem py_ws : ∀ ws : List W, D.py.pys (ws.map sD) = some (ws.map fun w => PyData.str (S w))
  | [] => rfl
  | w :: ws => by
    rw [List.map_cons, D.py.pys, py_ws ws]
    rfl
theorem lay_ws : ∀ ws : List W, (∀ w ∈ ws, okS w = true) → PyData.canLayAll0 (ws.map fun w => PyData.str (S w)) = true ∧ PyData.depthAll (ws.map fun w => PyData.str (S w)) ≤ 1
  | [], _ => by simp [PyData.canLayAll0, PyData.depthAll]
  | w :: ws, h => by
    have ih := lay_ws ws fun v hv => h v (List.mem_cons_of_mem _ hv)
    have hw := strOk_w (h w List.mem_cons_self)
    rw [List.map_cons, PyData.canLayAll0, PyData.depthAll]
    refine ⟨by rw [ih.1]; simp [PyData.canLay0, hw], ?_⟩
    have := ih.2
    simp [PyData.depth]
    omega
theorem eqv_ws : ∀ ws : List W, PyData.eqvAll (ws.map fun w => PyData.str (S w)) (ws.map fun w => PyData.str (S w)) = true
  | [] => by simp [PyData.eqvAll]
  | w :: ws => by
    rw [List.map_cons, PyData.eqvAll, eqv_ws ws, eqv_str, beq_self_eq_true]
    rfl
theorem self_ws {ws : List W} (h : ∀ w ∈ ws, Gd w) : (wsD ws).eqv (wsD ws) = some true := by
  have hk : ∀ w ∈ ws, okS w = true := fun w hw => (h w hw).okS
  have e : (wsD ws).py = some (.list (ws.map fun w => PyData.str (S w))) := by
    show (D.py.pys (ws.map sD)).map PyData.list = _
    rw [py_ws]
    rfl
  have s : SeqAt.shaped (.list (ws.map fun w => PyData.str (S w))) = true := by
    obtain ⟨a, b⟩ := lay_ws ws hk
    unfold SeqAt.shaped
    simp [PyData.canLay0, PyData.depth, a]
    omega
  unfold D.eqv
  rw [e]
  dsimp only
  rw [s]
  show some (PyData.eqv (.list _) (.list _)) = some true
  rw [PyData.eqv, eqv_ws]
theorem eq_ws {ws : List W} (h : ∀ w ∈ ws, Gd w) : dEq (wsD ws) (wsD ws) = some (.bl true) := by
  unfold dEq
  rw [self_ws h]
  rfl
theorem ne_ws {ws : List W} (h : ∀ w ∈ ws, Gd w) : dNe (wsD ws) (wsD ws) = some (.bl false) := by
  unfold dNe
  rw [self_ws h]
  rfl
/-! ### the line -/
section
variable {S0 : Sl} {xs : List Int} {ws : List W}
theorem line_eq (hs : small xs) (hx : xs.length = 60) (hw : ∀ w ∈ ws, Gd w) (hl : ws.length ≤ 10) (hn : ws ≠ []) :
    ∃ (L : List W) (e8 e9 : Sl), L ≠ [] ∧ L.length ≤ 12 ∧ (∀ w ∈ L, Gd w) ∧ b_line [S0, .im (.lst (xs.map .int)), .im (wsD ws), .no, .no, .no, .no, .no, .no, .no] = .nx [S0, .im (.lst (xs.map .int)), .im (wsD L), .no, .no, .no, .no, .no, e8, e9] := by
  have i41 : ixD (.lst (xs.map .int)) (.int 41) = some (.int (xs.getD 41 0)) := ix_num xs 41 (by omega)
  have i45 : ixD (.lst (xs.map .int)) (.int 45) = some (.int (xs.getD 45 0)) := ix_num xs 45 (by omega)
  have i46 : ixD (.lst (xs.map .int)) (.int 46) = some (.int (xs.getD 46 0)) := ix_num xs 46 (by omega)
  have n41 := num_small hs (i := 41) (by omega)
  have n45 := num_small hs (i := 45) (by omega)
  have n46 := num_small hs (i := 46) (by omega)
  generalize xs.getD 41 0 = x41 at *
  generalize xs.getD 45 0 = x45 at *
  generalize xs.getD 46 0 = x46 at *
  unfold b_line
  by_cases h41 : x41 % 3 > 0
  · obtain ⟨L, Ln, Ll, Lg, hF⟩ := law_formed_eq xs hs hx ws hw hl
    have lp : 1 ≤ L.length := List.length_pos_iff.mpr Ln
    obtain ⟨w0, g0, iw0⟩ := ix_wsG ws hw 0 (by omega) (by have := List.length_pos_iff.mpr hn; omega)
    have co : ∀ e, kCallO 2 F__law_formed (.ok [.lst (xs.map .int), wsD ws] e) = .ok (.l (L.map sD)) e := fun e => wCallO hF
    have ml : ((L.map sD).length : Int) = (L.length : Int) := by rw [List.length_map]
    have p0 : 0 ≤ x45 % (L.length : Int) := Int.emod_nonneg _ (by omega)
    have p1 : x45 % (L.length : Int) < (L.length : Int) := Int.emod_lt_of_pos _ (by omega)
    have lpi : 0 < (L.length : Int) := by omega
    have m6 : 0 ≤ x46 % 6 ∧ x46 % 6 < 6 := by omega
    have q1 : x45 % (L.length : Int) < ((L.map sD).length : Int) := by rw [ml]; exact p1
    have lml : (L.map sD).length ≤ 11 := by rw [List.length_map]; exact Ll
    by_cases c0 : x46 % 6 = 0
    · refine ⟨L.set (x45 % (L.length : Int)).toNat w0, .im (wsD (L.set (x45 % (L.length : Int)).toNat w0)), .im (.int (x45 % (L.length : Int))), ?_, by rw [List.length_set]; omega, fun v hv => ?_, ?_⟩
      · intro z
        have := congrArg List.length z
        rw [List.length_set, List.length_nil] at this
        omega
      · rcases List.mem_or_eq_of_mem_set hv with h | rfl
        · exact Lg v h
        · exact g0
      · show _ = Ro.nx [S0, .im (.lst (xs.map .int)), .im (.lst ((L.set (x45 % (L.length : Int)).toNat w0).map sD)), .no, .no, .no, .no, .no, .im (.lst ((L.set (x45 % (L.length : Int)).toNat w0).map sD)), .im (.int (x45 % (L.length : Int)))]
        rw [List.map_set]
        generalize D.lst (xs.map .int) = ZX at *
        generalize wsD ws = ZW at *
        generalize L.map sD = LD at *
        generalize sD w0 = Z0 at *
        generalize (L.length : Int) = ll at *
        simp_arith [i41, i45, i46, tCallO, co, ml, iw0]
    · by_cases c1 : x46 % 6 = 1 ∧ 1 < (L.length : Int)
      · obtain ⟨c1, c1'⟩ := c1
        have ne0 : L.take (x45 % (L.length : Int)).toNat ++ L.drop ((x45 % (L.length : Int)).toNat + 1) ≠ [] := fun z => by
          have := congrArg List.length z
          rw [List.length_append, List.length_take, List.length_drop, List.length_nil] at this
          omega
        refine ⟨L.take (x45 % (L.length : Int)).toNat ++ L.drop ((x45 % (L.length : Int)).toNat + 1), .im (wsD (L.take (x45 % (L.length : Int)).toNat ++ L.drop ((x45 % (L.length : Int)).toNat + 1))), .im (.int (x45 % (L.length : Int))), ne0, by rw [List.length_append, List.length_take, List.length_drop]; omega, fun v hv => ?_, ?_⟩
        · rcases List.mem_append.mp hv with h | h
          · exact Lg v (List.mem_of_mem_take h)
          · exact Lg v (List.mem_of_mem_drop h)
        · have sl1 : slD none (some (x45 % (L.length : Int))) (.lst (L.map sD)) = some (wsD (L.take (x45 % (L.length : Int)).toNat)) := by
            show some (D.lst (cutD (L.map sD) none (some (x45 % (L.length : Int))))) = _
            rw [show x45 % (L.length : Int) = (((x45 % (L.length : Int)).toNat : Nat) : Int) by omega, cut_front, ← List.map_take]
            simp only [Int.toNat_natCast]
          have sl2 : slD (some (x45 % (L.length : Int) + 1)) none (.lst (L.map sD)) = some (wsD (L.drop ((x45 % (L.length : Int)).toNat + 1))) := by
            have := sl_from L ((x45 % (L.length : Int)).toNat + 1) (by omega)
            rw [show (((x45 % (L.length : Int)).toNat + 1 : Nat) : Int) = x45 % (L.length : Int) + 1 by omega] at this
            exact this
          have cc : dCat (wsD (L.take (x45 % (L.length : Int)).toNat)) (wsD (L.drop ((x45 % (L.length : Int)).toNat + 1))) = some ((L.take (x45 % (L.length : Int)).toNat ++ L.drop ((x45 % (L.length : Int)).toNat + 1)).map sD) := by
            rw [List.map_append]
            exact cat_ds (by rw [List.length_map, List.length_map, List.length_take, List.length_drop]; omega)
          show _ = Ro.nx [S0, .im (.lst (xs.map .int)), .im (.lst ((L.take (x45 % (L.length : Int)).toNat ++ L.drop ((x45 % (L.length : Int)).toNat + 1)).map sD)), .no, .no, .no, .no, .no, .im (.lst ((L.take (x45 % (L.length : Int)).toNat ++ L.drop ((x45 % (L.length : Int)).toNat + 1)).map sD)), .im (.int (x45 % (L.length : Int)))]
          generalize (L.take (x45 % (L.length : Int)).toNat ++ L.drop ((x45 % (L.length : Int)).toNat + 1)).map sD = YO at *
          generalize wsD (L.take (x45 % (L.length : Int)).toNat) = Y1 at *
          generalize wsD (L.drop ((x45 % (L.length : Int)).toNat + 1)) = Y2 at *
          generalize D.lst (xs.map .int) = ZX at *
          generalize wsD ws = ZW at *
          generalize L.map sD = LD at *
          generalize sD w0 = Z0 at *
          generalize (L.length : Int) = ll at *
          simp_arith [i41, i45, i46, tCallO, co, ml, iw0, sl1, sl2, cc]
      · have ba : ∀ e : List Sl, e = [S0, .im (.lst (xs.map .int)), .im (wsD ws), .no, .no, .no, .no, .no, .ow (.l (L.map sD)), .im (.int (x45 % (L.length : Int)))] → bAnd (fAsB (f2 (f2 (fCB (fCons (fIx (rdN 1) (vK (.int 46))) aNil) cInt) (vK (.int 6)) dMod) (vK (.int 1)) dEq)) (fAsB (f2 (ownLen 8) (vK (.int 1)) dGt)) e = .ok false e := fun e he => by
          subst he
          generalize D.lst (xs.map .int) = ZX at *
          generalize wsD ws = ZW at *
          generalize L.map sD = LD at *
          generalize (L.length : Int) = ll at *
          by_cases d1 : x46 % 6 = 1
          · have d2 : ll ≤ 1 := by omega
            simp_arith [i46, ml]
          · simp_arith [i46]
        have ba := ba _ rfl
        by_cases c2 : x46 % 6 = 2
        · refine ⟨L ++ [w0], .im (wsD (L ++ [w0])), .im (.int (x45 % (L.length : Int))), by simp, by rw [List.length_append]; simp; omega, fun v hv => ?_, ?_⟩
          · rcases List.mem_append.mp hv with h | h
            · exact Lg v h
            · rw [List.mem_singleton.mp h]; exact g0
          · show _ = Ro.nx [S0, .im (.lst (xs.map .int)), .im (.lst ((L ++ [w0]).map sD)), .no, .no, .no, .no, .no, .im (.lst ((L ++ [w0]).map sD)), .im (.int (x45 % (L.length : Int)))]
            rw [List.map_append]
            show _ = Ro.nx [S0, .im (.lst (xs.map .int)), .im (.lst (L.map sD ++ [sD w0])), .no, .no, .no, .no, .no, .im (.lst (L.map sD ++ [sD w0])), .im (.int (x45 % (L.length : Int)))]
            generalize D.lst (xs.map .int) = ZX at *
            generalize wsD ws = ZW at *
            generalize L.map sD = LD at *
            generalize sD w0 = Z0 at *
            generalize (L.length : Int) = ll at *
            by_cases d1 : x46 % 6 = 1
            · omega
            · simp_arith [i41, i45, i46, tCallO, co, ml, iw0]
        · refine ⟨L, .im (wsD L), .im (.int (x45 % (L.length : Int))), Ln, by omega, Lg, ?_⟩
          show _ = Ro.nx [S0, .im (.lst (xs.map .int)), .im (.lst (L.map sD)), .no, .no, .no, .no, .no, .im (.lst (L.map sD)), .im (.int (x45 % (L.length : Int)))]
          generalize D.lst (xs.map .int) = ZX at *
          generalize wsD ws = ZW at *
          generalize L.map sD = LD at *
          generalize sD w0 = Z0 at *
          generalize (L.length : Int) = ll at *
          by_cases d1 : x46 % 6 = 1
          · have d2 : ll ≤ 1 := by omega
            simp_arith [i41, i45, i46, tCallO, co, ml, iw0]
          · simp_arith [i41, i45, i46, tCallO, co, ml, iw0]
  · refine ⟨ws, .no, .no, hn, by omega, hw, ?_⟩
    generalize D.lst (xs.map .int) = ZX at *
    generalize wsD ws = ZW at *
    simp_arith [i41]
end
end K57
namespace K57
open PySem PySem.Spec PyProof.Rows L2 Pf
open SX (S S_len split_S join_S)
theorem lit_tab : Str.ofString "a	b 	" = S [97, 9, 98, 32, 9] := by decide +kernel
theorem lit_tab1 : ([.str (Str.ofString "a	b"), .str (Str.ofString "	")] : List D) = [[97, 9, 98], [9]].map sD := by rfl
theorem bool_eq (b : Bool) : dEq (.bl b) (.bl b) = some (.bl true) := by cases b <;> kernel_rfl
theorem ne_tab : dNe (wsD [[97, 9, 98], [9]]) (wsD [[97, 9, 98], [9]]) = some (.bl false) := by kernel_rfl
theorem ne_nil : dNe (.lst []) (.lst []) = some (.bl false) := by kernel_rfl
def b_tail : List Sl → Ro := (rSeq (rSet 3 (f2 (vK (.str " ")) (f2 (fCB (fCons (fIx (rdN 1) (vK (.int 47))) aNil) cInt) (vK (.int 3)) dMod) dMulS))
  (rSeq (rFor (wRng1 (fCons (fCB (fCons (rdN 2) aNil) cLen) aNil)) (gNm 4) b_txt)
  (rSeq (rSet 3 (f2 (rdN 3) (f2 (vK (.str " ")) (f2 (fCB (fCons (fIx (rdN 1) (vK (.int 50))) aNil) cInt) (vK (.int 3)) dMod) dMulS) dAddU))
  (rSeq (rSet 5 (vCall 1 F_split_words (fCons (rdN 3) aNil)))
  (rSeq (rIf (bOr (bNot (fTru (fIsi (rdN 5) ["list"]))) (bOr (fAsB (f2 (rdN 5) (rdN 2) dNe)) (fAsB (f2 (vCall 1 F_split_words (fCons (f2 (vK (.str " ")) (f2 (fCB (fCons (fIx (rdN 1) (vK (.int 51))) aNil) cInt) (vK (.int 4)) dMod) dMulS) aNil)) (fFrz (fLst aNil)) dNe)))) (rRet (vK (.bl false))) Ro.nx)
  (rSeq (rIf (fAsB (f2 (vCall 1 F_split_words (fCons (vK (.str "a	b 	")) aNil)) (fFrz (fLst (fCons (vK (.str "a	b")) (fCons (vK (.str "	")) aNil)))) dNe)) (rRet (vK (.bl false))) Ro.nx)
  (rSeq (rSet 6 (fFrz (fNewL (fCons (rdN 2) aNil))))
  (rSeq (rSet 7 (vCall 1 F_is_command (fCons (rdN 6) aNil)))
  (rRet (fAnd (fIsi (rdN 7) ["bool"]) (fAnd (f2 (rdN 7) (vCall 1 F__law_command (fCons (rdN 2) aNil)) dEq) (f2 (rdN 6) (rdN 2) dEq))))))))))))
theorem law_is : b_law = (rSeq (rSet 1 (vCall 2 F__law_numbers (fCons (rdN 0) (fCons (vK (.int 60)) aNil))))
  (rSeq (rSet 2 (fFrz (fLc (wRng1 (fCons (f2 (vK (.int 1)) (f2 (fCB (fCons (fIx (rdN 1) (vK (.int 40))) aNil) cInt) (vK (.int 10)) dMod) dAddU) aNil)) (gNm 4) tYes' (vCall 2 F__law_word (fCons (fIx (rdN 1) (f2 (vK (.int 2)) (rdN 4) dMul)) (fCons (fIx (rdN 1) (f2 (f2 (vK (.int 2)) (rdN 4) dMul) (vK (.int 1)) dAddU)) aNil))) [4])))
  (rSeq b_line b_tail))) := by rfl
section
variable {S0 : Sl} {xs : List Int}
theorem small_rep (x : Int) (k : Int) (h : 0 < k) (h2 : k ≤ 4) : ∃ n : Nat, x % k = (n : Int) ∧ n ≤ 3 := by
  have a := Int.emod_nonneg x (show k ≠ 0 by omega)
  have b := Int.emod_lt_of_pos x h
  exact ⟨(x % k).toNat, by omega, by omega⟩
theorem tail_eq (hs : small xs) (hx : xs.length = 60) {ws : List W} (hw : ∀ w ∈ ws, Gd w) (hl : ws.length ≤ 12) (hn : ws ≠ []) (e8 e9 : Sl) :
    b_tail [S0, .im (.lst (xs.map .int)), .im (wsD ws), .no, .no, .no, .no, .no, e8, e9] = .rt (.bl true) := by
  have i47 : ixD (.lst (xs.map .int)) (.int 47) = some (.int (xs.getD 47 0)) := ix_num xs 47 (by omega)
  have i50 : ixD (.lst (xs.map .int)) (.int 50) = some (.int (xs.getD 50 0)) := ix_num xs 50 (by omega)
  have i51 : ixD (.lst (xs.map .int)) (.int 51) = some (.int (xs.getD 51 0)) := ix_num xs 51 (by omega)
  obtain ⟨a, ha, a3⟩ := small_rep (xs.getD 47 0) 3 (by decide) (by decide)
  obtain ⟨b, hb, b3⟩ := small_rep (xs.getD 50 0) 3 (by decide) (by decide)
  obtain ⟨c, hc, c3⟩ := small_rep (xs.getD 51 0) 4 (by decide) (by decide)
  have r1 := rep_w a (by omega)
  have r2 := rep_w b (by omega)
  have r3 := rep_w c (by omega)
  have t0 : Tex (List.replicate a 32) [] := fun l => by rw [wd_rep]; rfl
  obtain ⟨T', k', loop, tl, tw⟩ := txt_loop (S0 := S0) (e5 := .no) (e6 := .no) (e7 := .no) (e8 := e8) (e9 := e9) hs hx hw (by omega) ws [] (List.replicate a 32) .no rfl hn t0 (by rw [List.length_replicate]; simp; omega)
  rw [show ([] : List W).length = 0 from rfl, ← List.range_eq_range'] at loop
  have ln := len_ws ws
  have rg := x_rng1 ws.length (by omega)
  have ad : dAddU (sD T') (sD (List.replicate b 32)) = some (sD (T' ++ List.replicate b 32)) := add_w (by rw [List.length_replicate]; omega)
  have sp : F_split_words [sD (T' ++ List.replicate b 32)] = .ok (wsD ws) := by
    rw [split_words_eq _ (by rw [List.length_append, List.length_replicate]; omega), tw]
  have sn := split_none c (by omega)
  have st : F_split_words [.str (Str.ofString "a	b 	")] = .ok (wsD [[97, 9, 98], [9]]) := by
    rw [lit_tab]
    exact (split_words_eq [97, 9, 98, 32, 9] (by decide)).trans (by rfl)
  have nt := ne_tab
  rw [show wsD [[97, 9, 98], [9]] = D.lst [.str (Str.ofString "a	b"), .str (Str.ofString "	")] by rw [lit_tab1]] at st nt
  have nw := ne_ws hw
  have ew := eq_ws hw
  have il : isiD ["list"] (wsD ws) = some (.bl true) := rfl
  have nl : ∀ e, kNl (.ok [wsD ws] e) = .ok (.l (ws.map sD)) e := fun _ => rfl
  obtain ⟨f, rest, hfr⟩ : ∃ f rest, ws = f :: rest := by
    cases ws with
    | nil => exact absurd rfl hn
    | cons f r => exact ⟨f, r, rfl⟩
  have hw2 := hw
  rw [hfr] at hw2
  have rl : rest.length ≤ 20 := by rw [hfr, List.length_cons] at hl; omega
  have q1 := is_command_eq f rest (hw2 f (by simp)) (fun w h => hw2 w (by simp [h])) rl
  have q2 := law_command_eq f rest (hw2 f (by simp)) (fun w h => hw2 w (by simp [h])) rl
  rw [← hfr] at q1 q2
  have be := bool_eq (cmd f rest)
  have ib : isiD ["bool"] (.bl (cmd f rest)) = some (.bl true) := rfl
  have nn := ne_nil
  unfold b_tail
  generalize cmd f rest = z at *
  generalize xs.getD 47 0 = x47 at *
  generalize xs.getD 50 0 = x50 at *
  generalize xs.getD 51 0 = x51 at *
  generalize hZ : wsD ws = Z at *
  have nl : ∀ e, kFrz (kNl (.ok [Z] e)) = .ok Z e := fun e => by
    rw [nl e, ← hZ]; rfl
  generalize (ws.length : Int) = m at *
  generalize ((List.range ws.length).map fun (i : Nat) => D.int (i : Int)) = RS at *
  generalize sD (T' ++ List.replicate b 32) = ZT2 at *
  generalize sD T' = ZT at *
  generalize sD (List.replicate a 32) = ZA at *
  generalize sD (List.replicate b 32) = ZB at *
  generalize sD (List.replicate c 32) = ZC at *
  generalize D.lst (xs.map .int) = ZX at *
  simp_arith [i47, i50, i51, ha, hb, hc, r1, r2, r3, ln, rg, loop, ad, sp, sn, st, nt, nw, ew, il, nl, q1, q2, be, ib, nn]
end
end K57
namespace K57
open PySem PySem.Spec PyProof.Rows L2 Pf
open SX (S S_len split_S join_S)
theorem main' (ns : List Int) (hl : ns.length ≤ 63) (_ : ∀ z ∈ ns, PySem.Builtin.Int.intBits z ≤ 1048576) : F_law [.scr ns] = .ok (.bl true) := by
  obtain ⟨xs, hnum, hs, hx⟩ := law_numbers_eq ns hl
  have i40 : ixD (.lst (xs.map .int)) (.int 40) = some (.int (xs.getD 40 0)) := ix_num xs 40 (by omega)
  obtain ⟨m, hm, m1, m2⟩ : ∃ m : Nat, (m : Int) = 1 + xs.getD 40 0 % 10 ∧ 1 ≤ m ∧ m ≤ 10 := by
    have := Int.emod_nonneg (xs.getD 40 0) (show (10 : Int) ≠ 0 by decide)
    have := Int.emod_lt_of_pos (xs.getD 40 0) (show (0 : Int) < 10 by decide)
    exact ⟨(1 + xs.getD 40 0 % 10).toNat, by omega, by omega, by omega⟩
  have ex : ∀ k : Nat, ∃ w, k < 10 → Gd w ∧ F__law_word [.int (xs.getD (2 * k) 0), .int (xs.getD (2 * k + 1) 0)] = .ok (sD w) := fun k => by
    by_cases h : k < 10
    · obtain ⟨w, g, e⟩ := law_word_eq _ _ (num_small hs (i := 2 * k) (by omega)) (num_small hs (i := 2 * k + 1) (by omega))
      exact ⟨w, fun _ => ⟨g, e⟩⟩
    · exact ⟨[], fun z => absurd z h⟩
  obtain ⟨wv, hwv⟩ := Classical.axiomOfChoice ex
  have rg := x_rng1 m (by omega)
  have tn : turnsD (gNm 4) tYes' (vCall 2 F__law_word (fCons (fIx (rdN 1) (f2 (vK (.int 2)) (rdN 4) dMul)) (fCons (fIx (rdN 1) (f2 (f2 (vK (.int 2)) (rdN 4) dMul) (vK (.int 1)) dAddU)) aNil))) [.im (.scr ns), .im (.lst (xs.map .int)), .no, .no, .no, .no, .no, .no, .no, .no] ((List.range m).map fun (i : Nat) => D.int (i : Int)) = some ((List.range m).map fun k : Nat => sD (wv k)) :=
    turns_mapL (fun (i : Nat) => D.int (i : Int)) (fun k : Nat => sD (wv k)) (List.range m) fun k hk => by
      have hk := List.mem_range.mp hk
      have q := (hwv k (by omega)).2
      have mu := x_mul_l (a := 2) (b := (k : Int)) (by decide) (by decide)
      have j0 : ixD (.lst (xs.map .int)) (.int (2 * (k : Int))) = some (.int (xs.getD (2 * k) 0)) := ix_num xs (2 * k) (by omega)
      have j1 : ixD (.lst (xs.map .int)) (.int (2 * (k : Int) + 1)) = some (.int (xs.getD (2 * k + 1) 0)) := ix_num xs (2 * k + 1) (by omega)
      generalize xs.getD (2 * k) 0 = a at *
      generalize xs.getD (2 * k + 1) 0 = b at *
      generalize D.lst (xs.map .int) = ZX at *
      generalize sD (wv k) = ZW at *
      simp_arith [mu, j0, j1, q]
  have gd : ∀ w ∈ (List.range m).map wv, Gd w := fun w hw => by
    obtain ⟨k, hk, rfl⟩ := List.mem_map.mp hw
    exact (hwv k (by have := List.mem_range.mp hk; omega)).1
  have lw : ((List.range m).map wv).length = m := by rw [List.length_map, List.length_range]
  have wne : (List.range m).map wv ≠ [] := fun z => by
    have := congrArg List.length z
    rw [lw, List.length_nil] at this
    omega
  have sz : ((List.range m).map fun k : Nat => sD (wv k)).length ≤ 4000 := by rw [List.length_map, List.length_range]; omega
  have em : ((List.range m).map fun k : Nat => sD (wv k)) = ((List.range m).map wv).map sD := by rw [List.map_map]; rfl
  obtain ⟨L, e8, e9, Ln, Ll, Lg, hline⟩ := line_eq (S0 := .im (.scr ns)) hs hx gd (by omega) wne
  have tail := tail_eq (S0 := .im (.scr ns)) hs hx Lg Ll Ln e8 e9
  show (b_law [.im (.scr ns), .no, .no, .no, .no, .no, .no, .no, .no, .no]).fn = _
  rw [law_is]
  have hm := hm.symm
  rw [em] at tn sz
  have wD : D.lst (((List.range m).map wv).map sD) = wsD ((List.range m).map wv) := rfl
  have hfz : ∀ e, kFrz (.ok (.l (((List.range m).map wv).map sD)) e) = .ok (wsD ((List.range m).map wv)) e := fun _ => rfl
  generalize wsD ((List.range m).map wv) = ZW at *
  generalize (((List.range m).map wv).map sD) = YW at *
  generalize wsD L = ZL at *
  generalize xs.getD 40 0 = x40 at *
  generalize ((List.range m).map fun (i : Nat) => D.int (i : Int)) = RS at *
  generalize D.lst (xs.map .int) = ZX at *
  simp_arith [hnum, i40, hm, rg, tn, hfz, wD, hline, tail]
end K57
-- main
open PySem.W PySem PySem.Calls PyProof.Rows
set_option maxHeartbeats 0 in
theorem PySem.Challenge.cw_schemebound_k57_words_of_a_session_holds : PySem.Challenge.rw_schemebound_k57_words_of_a_session.Holds := by
  w_on; o_law
  x_head; (case hw => w_witness2)
  refine Pf.walk_top (l := PySem.Challenge.rw_schemebound_k57_words_of_a_session) (n := 63) rfl (by decide) rfl ?F Pf.cx_end
  case F =>
    intro w mg fa h Y G hmg
    have KX := PySem.W.kIn_of Y
    exact ⟨_, Pf.flt_in KX (by kernel_rfl), K57.law_at K57.main' (Pf.flt_in KX (by kernel_rfl)) G hmg (Pf.saysX_lit KX (by kernel_rfl) (by kernel_rfl) (by kernel_rfl))⟩

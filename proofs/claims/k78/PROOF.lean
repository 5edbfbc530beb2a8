import PyProof.Rows.All
import HandS.ForMost
import HandS.AnyAll
import HandS.GenList
import HandS.EndTab
import HandS.SetBool
import HandS.Strs
import HandS.WordsExc
import HandS.Style
import HandS.IsInst
import HandS.Zip
import HandS.Wide
import HandS.TupAny
import HandS.SetKeys
import HandS.Gcd
import KE.KMathGC
import KE.GoesEnum
import KE.GoesEnumKw
import KE.GoesMore
import KE.GoesZip
import HandS.Iter
import KE.DataMinMax
import HandS.Conv
import PyProof.Rows.FactsT3
import KE.KStateDown
import HandS.Ends
import HandS.Head0
import HandS.Head1
import HandS.Head2
import HandS.HeadEnd
import HandS.HeadHook1
import HandS.HeadHook2
import HandS.HeadHook3
import HandS.HeadHook4
import HandS.HeadWalk
import HandS.Rev
import HandS.StrMore
import HandS.Flow
import HandS.ExcIs
import HandS.SetFor
import HandS.RaiseMore
import HandS.SortKw
import KE.KTupSum
import HandS.SortInts
import KE.KIndexOf
import PyProof.ReprRoads
import KE.DataFind
import HandS.TupSets
import OpenK.XHead
import PySem.Challenge.RW_schemebound_k78_balls
set_option Elab.async false
set_option linter.all false
set_option maxRecDepth 100000
set_option maxHeartbeats 3900000
namespace Gx
open PySem PySem.Spec PyProof.Rows L2 GxR GenW
/-- names of a generator expression: its own ones with their places in N, or captured ones -/
structure Nm (N : List Str) (sc gs : Scope) (own : List (Str × Nat)) : Prop where
  kind : gs.kind = .function
  co : gs.isCoroutine = false
  uniq : ∀ y ∈ gs.names, gs.names.lookup y.1 = some y.2
  nocell : ∀ y ∈ gs.names, y.2 ≠ .cell
  dot : gs.names.lookup (".0" : Str) = some .local
  ix : ∀ q ∈ own, N[q.2]? = some q.1
  free : ∀ y ∈ gs.names, y.2 = .free → sc.names.lookup y.1 = some .cell ∨ sc.names.lookup y.1 = some .free
  own : ∀ y ∈ gs.names, y.2 = .local → y.1 ∈ own.map (·.1) ∨ y.1 ∉ N
/-- the context of its frame -/
abbrev gctx (X : Cx) (A2 : Around) (s : Shared) (H : Hp) (cenv : Env) (fp : List Addr) (pn : List (Addr × Obj)) : Cx :=
  { X with A := A2.deeper cenv, s_0 := s, H_0 := H, env := cenv, outer := X.stack, stack := cenv :: X.stack, ex := fp, fn := fun _ => false, calm := true, pn := pn, xe := fun _ _ => False }
abbrev genv (X : Cx) (gs : Scope) (C : Addr) (code : Value) : Env := genEnv gs (cloFrom X.env.cells gs.names []) C code builtinsNs X.env
section
variable {X : Cx} {H : Hp} {s : Shared} {σ : L2.St} {pins : List (Addr × Obj)}
theorem g_start {gs : Scope} {own : List (Str × Nat)} {fp : List Addr} {A2 : Around} {go : Obj} {it code : Value} {s5 : Shared}
    (I : Inv X pins σ H s) (ok : Nm X.N X.env.scope gs own) (hN : X.N.Nodup) (hh : A2.handled = none) (hA : A2.frames = X.A.frames)
    (hfp : ∀ b ∈ fp, FpOk X pins H b ∧ b < s.heap.objs.size)
    (k : ∀ b o, s.heap.get? b = some o → s5.heap.get? b = some o)
    (hns : s5.heap.Ns s.heap.objs.size (fun y => if y = ".0" then some it else none))
    (hgo : s5.heap.get? (s.heap.objs.size + 1) = some go) (hgd : ∀ v, go.data ≠ .cell v) (hos : s5.os = s.os) (hb : AllBare s5.gens) :
    Inv (gctx X A2 s H (genv X gs s.heap.objs.size code) fp [(s.heap.objs.size + 1, go)]) [] (wipe σ (own.map (·.2))) H s5 := by
  have hfree : ∀ y ∈ gs.names, y.2 = .free → ∃ c, X.env.cells.lookup y.1 = some c := fun y hy e => by
    rcases ok.free y hy e with q | q
    · exact I.ok.has _ (.inl q)
    · exact I.ok.has _ (.inr q)
  have cm : ∀ {y c}, (genv X gs s.heap.objs.size code).cells.lookup y = some c → X.env.cells.lookup y = some c ∧ c < s.heap.objs.size ∧ (y, NameKind.free) ∈ gs.names := fun {y c} e => by
    have e' : (cloFrom X.env.cells gs.names []).lookup y = some c := e
    rcases cloFrom_mem (PySem.mem_of_lookup e') with hm | ⟨h1, rfl⟩
    · cases hm
    · obtain ⟨c0, hc⟩ := hfree _ h1 rfl
      obtain ⟨w0, z⟩ := I.cell _ _ hc
      rw [hc]
      exact ⟨rfl, z.lt, h1⟩
  have look : ∀ {y}, (y, NameKind.free) ∈ gs.names → ∃ c, (genv X gs s.heap.objs.size code).cells.lookup y = some c := fun {y} hy =>
    mem_lookup (cloFrom_has (cells := X.env.cells) (acc := []) hy)
  have fresh : H s.heap.objs.size = none := I.hok.fresh (Nat.le_refl _)
  have fslt : ∀ b ∈ frs X.stack, b < s.heap.objs.size := fun b hm => by
    obtain ⟨_, o, ho, _⟩ := I.stack.mem hm
    exact Heap.lt_size ho
  refine ⟨⟨I.ok.mod, ok.kind, I.ok.glob, rfl, Nat.le_refl _, fun x y c e1 e2 => I.ok.inj x y c (cm e1).1 (cm e2).1, fun y hy => ?_, fun y c z _ => ?_, fun _ => hh,
    Around.frames_deeper (hA.trans I.ok.frames), .inr ⟨rfl, rfl⟩, fun b hb' => ⟨?_, fun x c e z => ?_⟩, I.bs, Nat.le_trans I.ok.bsz I.sz, fun b o e hb' => ?_, fun b hb' z => ?_, I.stack, I.stkFree⟩,
    hos, hb, Un.kept k, ⟨_, hns, fun i y v e1 e2 e3 => ?_⟩, fun y c e => ?_, fresh, fun y c e => I.freeC y c (cm e).1, fun p hp => ?_, I.hok.kept k, by rw [wipe_length]; exact I.len⟩
  · rcases hy with hy | hy
    · have hy' : gs.names.lookup y = some .cell := hy
      exact absurd rfl (ok.nocell _ (PySem.mem_of_lookup hy'))
    · have hy' : gs.names.lookup y = some .free := hy
      exact look (PySem.mem_of_lookup hy')
  · cases z
  · exact Nat.ne_of_lt (hfp b hb').2
  · exact (hfp b hb').1.2.2.2.2.1 x c (cm e).1 z
  · rcases (hfp b hb').1.2.2.2.1 with z | z
    · exact I.ok.noex b o e z
    · exact (Nat.lt_irrefl _ (Nat.lt_of_lt_of_le (Heap.lt_size e) (Nat.le_trans I.ok.bsz z))).elim
  · obtain z | z := List.mem_cons.mp (I.stkSub b z)
    · exact (hfp b hb').1.2.1 z
    · exact (hfp b hb').1.2.2.1 z
  · have ⟨e2, hne⟩ := wipe_some e2
    have hfr : gs.names.lookup y = some .free := by
      have e3 : gs.names.lookup y = some .local ∨ gs.names.lookup y = some .cell ∨ gs.names.lookup y = some .free := e3
      rcases e3 with e3 | e3 | e3
      · rcases ok.own _ (PySem.mem_of_lookup e3) rfl with e' | e'
        · have ⟨p, hp, hpy⟩ := List.mem_map.mp e'
          have e4 := ok.ix p hp
          have hpy' : p.1 = y := hpy
          rw [hpy'] at e4
          exact absurd (List.mem_map.mpr ⟨p, hp, nodup_ix hN e4 e1⟩) hne
        · exact absurd (List.mem_of_getElem? e1) e'
      · exact absurd rfl (ok.nocell _ (PySem.mem_of_lookup e3))
      · exact e3
    have hm := PySem.mem_of_lookup hfr
    obtain ⟨m, hn, hl⟩ := I.loc
    have hvis : Vis X.env.scope y := (ok.free _ hm rfl).elim (fun q => .inr (.inl q)) fun q => .inr (.inr q)
    obtain ⟨u, r, q⟩ := hl i y v e1 e2 hvis
    obtain ⟨c, h1⟩ := look hm
    refine ⟨u, r, .inr ⟨.inr hfr, c, h1, ?_⟩⟩
    rcases q with ⟨kk, _⟩ | ⟨_, c', e', z⟩
    · have kk : X.env.scope.names.lookup y = some .local := kk
      rcases ok.free _ hm rfl with k' | k' <;> (rw [show X.env.scope.names.lookup y = _ from k'] at kk; cases kk)
    · have e5 := (cm h1).1
      rw [e'] at e5
      cases e5
      exact z.keeps k
  · obtain ⟨w, z⟩ := I.cell y c (cm e).1
    exact ⟨w, z.keeps k⟩
  · have hp' : p = (s.heap.objs.size + 1, go) := by simpa using hp
    subst hp'
    refine ⟨hgo, I.hok.fresh (Nat.le_succ _), Nat.succ_ne_self _, fun z => ?_, hgd⟩
    have := fslt _ z
    exact absurd this (by show ¬ (s.heap.objs.size + 1 < s.heap.objs.size); omega)
end
end Gx
namespace Gx
open PySem PySem.Spec PyProof.Rows L2 GxR GenW
theorem over_gen {A : Around} {elt : Expr} {gens : List Comprehension} {scope : Scope} {pos : Pos} {it acc : Value} {cenv : Env} :
    A.over (.compLoop (.GeneratorExp elt gens scope pos) 0 it acc cenv) [] = A.deeper cenv := by
  first
    | rfl
    | (obtain ⟨hd, d, fr, gs, u⟩ := A; simp [Code.cUnits, Around.over, Around.deeper, marksOver, frameCount, unitsOf, envsOf, guardsOf, pushEnvs, pushGuards, Code.envs, Code.env?, Code.isFrame, Code.guards, Code.isGuard, Code.weight, Code.frames, Code.isCreation, Code.isCaller])
/-- what a turn is to do: W by the turn, a measure, what is still to be handed out, the heap -/
def Turns (J : It) (g : TG) (tt : TT) (te : TE) (σw : L2.St) (vs : List Nat) (W : Nat → Nat → List V → Hp → Prop) : Prop :=
  ∀ i m r H, W i m r H → (J.stop i H ∧ r = []) ∨ (J.go i H ∧ ∀ x H', J.yld i H x H' → g x σw H' fun σ2 H2 => wipe σ2 vs = σw ∧ tt σ2 H2 fun b H3 =>
    if b = true then te σ2 H3 fun y H4 => ∃ m' r', m' < m ∧ r = y :: r' ∧ W (i + 1) m' r' H4 else ∃ m', m' < m ∧ W (i + 1) m' r H3)
section
variable (Xg : Cx) (σw : L2.St) (fp Ss : List Addr) (ys : List V) (W : Nat → Nat → List V → Hp → Prop)
def Kept (s₀ s : Shared) : Prop := ∀ b ∈ Ss, ∀ o, s₀.heap.get? b = some o → s.heap.get? b = some o
def FG : Nat → Shared → Shared → Prop := fun n s₀ s => n = 0 ∧ Kept Ss s₀ s ∧ ∃ pl H i m, pl.map (·.1) = Ss ∧ Inv Xg pl σw H s ∧ W i m [] H
def YG : Protocol := fun n s₀ v s kap => Kept Ss s₀ s ∧ ∃ y r' i m H pl, pl.map (·.1) = Ss ∧ n = List.length r' ∧ RelV y v ∧ Inv Xg pl σw H s ∧ (y :: r') <:+ ys ∧ W i m r' H ∧
  ∀ s'' pl'', pl''.map (·.1) = Ss → Inv Xg pl'' σw H s'' → (∀ b ∈ fp, ∀ o, s.heap.get? b = some o → s''.heap.get? b = some o) → kap (.send .none) s''
def RG : GenEnd := fun n s₀ r s => ((r = .ok (.ret .none) ∨ r = .ok .next) ∧ FG Xg σw Ss W n s₀ s) ∨ ∃ e, r = .error e ∧ (fun (_ : Value) (_ : Shared) => False) e s
end
section
variable {X : Cx} {A2 : Around} {s4 : Shared} {H4 : Hp} {cenv : Env} {fp Ss : List Addr} {pn : List (Addr × Obj)} {σw : L2.St} {ys : List V} {W : Nat → Nat → List V → Hp → Prop}
  {elt tg iter : Expr} {ifs : List Expr} {scope : Scope} {pos : Pos} {J : It} {it : Addr} {tn : Nat → Heap → Prop} {g : TG} {tt : TT} {te : TE} {vs : List Nat}
theorem seg_turns (T : Turn X.prog X.w X.K tg J fp it tn) (hco : cenv.scope.isCoroutine = false)
    (hSs : ∀ b ∈ Ss, b ∉ fp) (hpn : ∀ p ∈ pn, p.1 ∉ fp)
    (pg : PG (gctx X A2 s4 H4 cenv fp pn) tg g) (pt : PTs (gctx X A2 s4 H4 cenv fp pn) ifs tt) (pe : PE (gctx X A2 s4 H4 cenv fp pn) elt te)
    (hv : ∀ σ2 : L2.St, wipe σ2 vs = σw → (∀ (j : Nat) v, σw[j]? = some (some v) → σ2[j]? = some (some v)) ∧ σw.length = σ2.length)
    (turn : Turns J g tt te σw vs W) :
    ∀ (m i : Nat) (r : List V) (H : Hp) (s₀ s : Shared) (pl : List (Addr × Obj)), W i m r H → r <:+ ys → pl.map (·.1) = Ss → (∀ p ∈ pl, s₀.heap.get? p.1 = some p.2) →
      Inv (gctx X A2 s4 H4 cenv fp pn) pl σw H s → tn i s.heap → (∀ b ∈ fp, H b = none) →
      Seg (model X.prog X.w) A2 (RG (gctx X A2 s4 H4 cenv fp pn) σw Ss W) (YG (gctx X A2 s4 H4 cenv fp pn) σw fp Ss ys W) r.length s₀
        (.compLoop (.GeneratorExp elt [⟨tg, iter, ifs, 0⟩] scope pos) 0 (.ref it) .none cenv)
        ((model X.prog X.w).den (.compLoop (.GeneratorExp elt [⟨tg, iter, ifs, 0⟩] scope pos) 0 (.ref it) .none cenv)) [] s := by
  intro m
  induction m
      using Nat.strongRecOn with
  | ind m ih =>
    intro i r H s₀ s pl w hsuf hpl h0 I st fr
    have kept_of : ∀ {pl' σ' H' s'}, Inv (gctx X A2 s4 H4 cenv fp pn) (pl ++ pl') σ' H' s' → Kept Ss s₀ s' := fun {pl' σ' H' s'} I' b hb o e => by
      rw [← hpl] at hb
      obtain ⟨p, hp, rfl⟩ := List.mem_map.mp hb
      have e2 := h0 p hp
      rw [e] at e2
      cases e2
      exact (I'.pin p (List.mem_append_right _ (List.mem_append_left _ hp))).1
    have plfp : ∀ p ∈ pl, p.1 ∉ fp := fun p hp => hSs p.1 (by rw [← hpl]; exact List.mem_map.mpr ⟨p, hp, rfl⟩)
    have stat : ∀ {σ' H' s'}, Inv (gctx X A2 s4 H4 cenv fp pn) pl σ' H' s' → (∀ b ∈ fp, H' b = none) → ∀ b ∈ fp, FpOk (gctx X A2 s4 H4 cenv fp pn) pl H' b := fun {σ' H' s'} I' hn b hb =>
      ⟨hn b hb, (I'.ok.exf b hb).1, I'.ok.exfs b hb, .inl hb, fun x c e => (I'.ok.exf b hb).2 x c e, fun p hp z => by
        obtain hp | hp := List.mem_append.mp hp
        · exact hpn p hp (by rw [z]; exact hb)
        · exact plfp p hp (by rw [z]; exact hb)⟩
    show Seg _ A2 _ _ _ s₀ _ ((compTurn (.GeneratorExp elt [⟨tg, iter, ifs, 0⟩] scope pos) 0 (.ref it) .none cenv).onRaise (leaving cenv)) [] s
    rw [compTurn_gen]
    rw [Sem.onRaise_eq_wrap]
    refine seg_bind_wrap ?_
    refine wpAny_standAt ?_
    rcases turn i m r H w with ⟨stop, rnil⟩ | ⟨go, step⟩
    · subst rnil
      refine seg_bind_wrap ?_
      rw [over_gen]
      refine thnF (T.done (gctx X A2 s4 H4 cenv fp pn) rfl rfl rfl rfl i pl s σw H (fun _ _ => False) I (stat I fr) st stop) fun q s6 hq => ?_
      obtain ⟨rfl, I6⟩ := hq
      refine seg_end (.ok .next) (.inl ⟨.inr rfl, rfl, ?_, pl, H, i, m, hpl, I6, w⟩)
      exact kept_of (pl' := []) (by rw [List.append_nil]; exact I6)
    · refine seg_bind_wrap ?_
      rw [over_gen]
      refine thnF (T.item (gctx X A2 s4 H4 cenv fp pn) rfl rfl rfl rfl i pl s σw H (fun _ _ => False) I (stat I fr) st go) fun q s6 hq => ?_
      obtain ⟨u, rfl, h6⟩ := hq
      refine seg_bind_wrap ?_
      rw [over_gen]
      refine thnF h6 fun _ s7 h7 => ?_
      obtain ⟨x, H7, I7, r7, y7, st7, n7⟩ := h7
      have I7' := I7.pinned (stat I7 n7) fun b hb => T.obj _ _ st7 b hb
      refine seg_bind_wrap ?_
      rw [over_gen]
      refine thnF (pg.run _ s7 σw H7 x u _ I7' r7 (step x H7 y7)) fun _ s8 h8 => ?_
      obtain ⟨σ8, H8, I8, hw8, q8⟩ := h8
      refine seg_bind_wrap ?_
      rw [over_gen]
      refine thnF (pt.run _ s8 σ8 H8 _ I8 q8) fun b s9 h9 => ?_
      obtain ⟨H9, I9, q9⟩ := h9
      have pin' : ∀ {σ' H' s'}, Inv (gctx X A2 s4 H4 cenv fp pn) (pl ++ pinsAt fp s7.heap) σ' H' s' → ∀ b ∈ fp, ∀ o, s7.heap.get? b = some o → s'.heap.get? b = some o ∧ H' b = none := fun {σ' H' s'} I' b hb o e =>
        have z := I'.pin (b, o) (List.mem_append.mpr (.inr (List.mem_append.mpr (.inr (mem_pinsAt hb e)))))
        ⟨z.1, z.2.1⟩
      have frs' : ∀ {σ' H' s'}, Inv (gctx X A2 s4 H4 cenv fp pn) (pl ++ pinsAt fp s7.heap) σ' H' s' → ∀ b ∈ fp, H' b = none := fun {σ' H' s'} I' b hb => by
        obtain ⟨o, e, -⟩ := T.obj _ _ st7 b hb
        exact (pin' I' b hb o e).2
      have weak' : ∀ {H' s'}, Inv (gctx X A2 s4 H4 cenv fp pn) (pl ++ pinsAt fp s7.heap) σ8 H' s' → Inv (gctx X A2 s4 H4 cenv fp pn) pl σw H' s' := fun {H' s'} I' =>
        (I'.unpinned).weak (hv σ8 hw8).2 fun j v e => (hv σ8 hw8).1 j v e
      cases b with
      | false =>
        simp only [if_false, Bool.false_eq_true] at q9 ⊢
        obtain ⟨m', hm, w'⟩ := q9
        exact seg_again rfl (ih m' hm (i + 1) r H9 s₀ s9 pl w' hsuf hpl h0 (weak' I9) (T.keep _ _ _ st7 fun b hb o e => (pin' I9 b hb o e).1) (frs' I9))
      | true =>
        simp only [if_true] at q9 ⊢
        have hy : ∀ v, yieldOut cenv v = yieldValue v := fun v => by simp only [hco, yieldOut, if_false, Bool.false_eq_true]
        simp only [hy]
        rw [Sem.bind_eq_wrap', Sem.bind_eq_wrap']
        rw [Sem.wrap_wrap, Sem.wrap_wrap]
        refine seg_wrap ?_
        rw [over_gen]
        refine thnF (pe.run _ s9 σ8 H9 _ I9 q9) fun z s10 h10 => ?_
        obtain ⟨y, H10, I10, r10, m', r', hm, rfl, w'⟩ := h10
        have hsuf' : r' <:+ ys := (List.suffix_cons y r').trans hsuf
        rw [List.length_cons]
        refine seg_at (seg_yield rfl rfl rfl ⟨kept_of I10, y, r', i + 1, m', H10, _, hpl, rfl, r10, weak' I10, hsuf, w', fun s'' pl'' hpl'' I'' hal => ?_⟩)
        refine seg_again rfl (ih m' hm (i + 1) r' H10 s'' s'' pl'' w' hsuf' hpl'' (fun p hp => (I''.pin p (List.mem_append_right _ hp)).1) I'' ?_ (frs' I10))
        exact T.keep _ _ _ st7 fun b hb o e => hal b hb o (pin' I10 b hb o e).1
theorem seg_start (T : Turn X.prog X.w X.K tg J fp it tn) {r : List V} {s₀ s : Shared}
    (st : tn 0 s.heap)
    (loop : Seg (model X.prog X.w) A2 (RG (gctx X A2 s4 H4 cenv fp pn) σw Ss W) (YG (gctx X A2 s4 H4 cenv fp pn) σw fp Ss ys W) r.length s₀
        (.compLoop (.GeneratorExp elt [⟨tg, iter, ifs, 0⟩] scope pos) 0 (.ref it) .none cenv)
        ((model X.prog X.w).den (.compLoop (.GeneratorExp elt [⟨tg, iter, ifs, 0⟩] scope pos) 0 (.ref it) .none cenv)) [] s) :
    Seg (model X.prog X.w) A2 (RG (gctx X A2 s4 H4 cenv fp pn) σw Ss W) (YG (gctx X A2 s4 H4 cenv fp pn) σw fp Ss ys W) r.length s₀
        (.compStart (.GeneratorExp elt [⟨tg, iter, ifs, 0⟩] scope pos) 0 (.ref it) .none cenv)
        ((model X.prog X.w).den (.compStart (.GeneratorExp elt [⟨tg, iter, ifs, 0⟩] scope pos) 0 (.ref it) .none cenv)) [] s := by
  show Seg _ A2 _ _ _ s₀ _ ((compStart (.GeneratorExp elt [⟨tg, iter, ifs, 0⟩] scope pos) 0 (.ref it) .none cenv).onRaise (leaving cenv)) [] s
  unfold compStart
  rw [Sem.onRaise_eq_wrap]
  show Seg _ A2 _ _ _ s₀ _ ((ask >>= _).wrap _ _ _ _) [] s
  refine seg_bind_wrap ?_
  refine wpAny_askSetting ?_
  split
  · exact seg_again rfl loop
  · first
      | exact seg_bind_wrap (wpAny_rule (seg_bind_wrap (wpAny_standAt (seg_bind_wrap (T.self _ 0 s _ _ st (seg_again rfl loop))))))
      | (refine seg_bind_wrap (wpAny_rule ?_); show Seg _ A2 _ _ _ s₀ _ ((standAt iter.pos >>= _).wrap _ _ _ _) [] s
         exact seg_bind_wrap (wpAny_standAt (seg_bind_wrap (T.self _ 0 s _ _ st (seg_again rfl loop)))))
/-- a generator has been made, it has not begun -/
structure Born (X : Cx) (pins : List (Addr × Obj)) (σ : L2.St) (H : Hp) (fp : List Addr) (it : Addr) (tn : Nat → Heap → Prop) (e : Expr) (scope : Scope) (s4 : Shared) (code : Value) (go : Obj) (s5 : Shared) : Prop where
  inv : Inv X pins σ H s4
  fps : ∀ b ∈ fp, FpOk X pins H b ∧ b < s4.heap.objs.size
  keep : ∀ b o, s4.heap.get? b = some o → s5.heap.get? b = some o
  ns : s5.heap.Ns s4.heap.objs.size (fun y => if y = ".0" then some (.ref it) else none)
  obj : s5.heap.get? (s4.heap.objs.size + 1) = some go
  gen : ∀ h : Heap, h.get? (s4.heap.objs.size + 1) = some go → h.IsGen (s4.heap.objs.size + 1) s4.gens.size
  dat : ∀ v, go.data ≠ .cell v
  os : s5.os = s4.os
  bare : AllBare s5.gens
  fresh : s5.gens[s4.gens.size]? = some (.fresh (.compStart e 0 (.ref it) .none (genv X scope s4.heap.objs.size code)))
  st : tn 0 s5.heap
end
section
variable {X : Cx} {H : Hp} {s : Shared} {σ : L2.St} {pins : List (Addr × Obj)}
theorem gen_make {c P : Addr} {k : Nat} {elt tg iter : Expr} {ifs : List Expr} {scope : Scope} {own : List (Str × Nat)} {gpos : Pos} {wi : TI} {R : It → Hp → Prop} {Q' : Value → Shared → Prop}
    (hr : Room k X.A) (TB : TabB X.base X.mg c P) (hcode : X.env.code = .ref c) (nm : Nm X.N X.env.scope scope own) (hi : PI X tg iter wi)
    (hs : ∀ v, genFold iter X.env v = pure v) (I : Inv X pins σ H s) (h : wi σ H fun J H1 => TabG H1 P ∧ R J H1)
    (hQ : ∀ J H1 H2 fp it tn s4 code go s5, R J H1 → Tabbed P H1 H2 → Turn X.prog X.w X.K tg J fp it tn →
      Born X pins σ H2 fp it tn (.GeneratorExp elt [⟨tg, iter, ifs, 0⟩] scope gpos) scope s4 code go s5 → Q' (.ref (s4.heap.objs.size + 1)) s5) :
    wpAny (model X.prog X.w) X.A (eval (.GeneratorExp elt [⟨tg, iter, ifs, 0⟩] scope gpos) X.env) Q' X.xe s := by
  have hfree : ∀ y ∈ scope.names, y.2 = .free → ∃ c, X.env.cells.lookup y.1 = some c := fun y hy e => (nm.free y hy e).elim (fun q => I.ok.has _ (.inl q)) fun q => I.ok.has _ (.inr q)
  refine wpAny_GeneratorExp_make nm.co (closure_ok hfree) nm.nocell nm.dot nm.kind (by have := hr.dp; omega) ?_ hs
  refine thn (hi.run pins s σ H _ I h) fun xv s1 hx => thn hx fun itv s2 h2 => ?_
  obtain ⟨it, fp, tn, J, H1, rfl, I2, T, st2, f2, ⟨ps, hP, ht⟩, hR⟩ := h2
  have hPs : s2.heap.get? P = some { cls := .none, data := .fields ps } := I2.hok P _ hP
  have cd : PySem.W.CodeHd s2.heap c P := TB.code.keeps fun b u e => I2.bk b u e
  have lim2 : s2.heap.NoLimit := I2.nolimit
  have hlt2 : ∀ b ∈ fp, b < s2.heap.objs.size := fun b hb => by
    obtain ⟨o, e, -⟩ := T.obj _ _ st2 b hb
    exact Heap.lt_size e
  have nfP : ∀ b ∈ fp, b ≠ P := fun b hb z => by
    have := (f2 b hb).1
    rw [z, hP] at this
    cases this
  have cont : ∀ (code : Value) (h3 : Heap) (tk : Nat) (ps' : Array Value), Heap.ExtBut P s2.heap h3 → s2.heap.objs.size ≤ h3.objs.size → h3.get? P = some { cls := .none, data := .fields ps' } → (∃ more, ps' = ps ++ more) → TriplesOk ps'.toList →
      wpAny (model X.prog X.w) X.A (builtinsFor X.env.globals X.env.builtins) (fun bq s₄ =>
        ∀ h', h'.Ns s₄.heap.objs.size (fun y => if y = ".0" then some (.ref it) else none) → Heap.SameBut s₄.heap.objs.size (s₄.heap.push { cls := .type "frame", data := .dict #[] }) h' →
          Q' (.ref h'.objs.size) { s₄ with
            gens := s₄.gens.push (.fresh (.compStart (.GeneratorExp elt [⟨tg, iter, ifs, 0⟩] scope gpos) 0 (.ref it) .none (genEnv scope (cloFrom X.env.cells scope.names []) s₄.heap.objs.size code bq X.env))),
            toks := s₄.toks + 1 + 1 + 1,
            heap := h'.push { cls := .type "generator", data := .fields #[.int s₄.gens.size 0, .str "<genexpr>" (s₄.toks + 1), .str (X.env.qual ++ "<genexpr>") (s₄.toks + 1 + 1)] } }) X.xe { s2 with heap := h3, toks := tk } := by
    intro code h3 tk ps' hx hsz hP3 hm3 ht3
    obtain ⟨bm, ob, e1, e2, -, e4, e5, e6, e7, e8⟩ := TB.bm
    refine wpAny_builtinsFor (m := X.mg) (by rw [I2.ok.glob]; exact ((I2.mod.glob.keeps I2.bk)).extBut hx TB.gP) e1 e2 (hx _ _ e4 (I2.bk _ _ e5)) e6 e7 e8 ?_
    intro h' hn' hs'
    obtain ⟨more, em⟩ := hm3
    have J4 : Inv X pins σ (upd H1 P (.tbl (ps ++ more))) { s2 with heap := h3, toks := tk } :=
      inv_tab (more := more) (h' := h3) (g' := s2.gens) (d' := s2.drawn) (t' := tk) I2 hP (fun b u hb e => hx b u hb e) (by rw [← em]; exact hP3) I2.bare
    have hsz' : h'.objs.size = h3.objs.size + 1 := by rw [hs'.1, Heap.size_push]
    have keep' : ∀ b o, h3.get? b = some o → h'.get? b = some o := fun b o e => hs'.extBut b o (Nat.ne_of_lt (Heap.lt_size e)) (Heap.get?_push_of_some _ e)
    have key := hQ J H1 (upd H1 P (.tbl (ps ++ more))) fp it tn { s2 with heap := h3, toks := tk } code
      { cls := .type "generator", data := .fields #[.int s2.gens.size 0, .str "<genexpr>" (tk + 1), .str (X.env.qual ++ "<genexpr>") (tk + 1 + 1)] }
      { s2 with
            gens := s2.gens.push (.fresh (.compStart (.GeneratorExp elt [⟨tg, iter, ifs, 0⟩] scope gpos) 0 (.ref it) .none (genEnv scope (cloFrom X.env.cells scope.names []) h3.objs.size code builtinsNs X.env))),
            toks := tk + 1 + 1 + 1,
            heap := h'.push { cls := .type "generator", data := .fields #[.int s2.gens.size 0, .str "<genexpr>" (tk + 1), .str (X.env.qual ++ "<genexpr>") (tk + 1 + 1)] } }
      hR ⟨⟨ps ++ more, upd_same, by rw [← em]; exact ht3⟩, fun b hb => upd_ne hb⟩ T
      { inv := J4
        fps := fun b hb => ⟨⟨by rw [upd_ne (nfP b hb)]; exact (f2 b hb).1, (f2 b hb).2⟩, Nat.lt_of_lt_of_le (hlt2 b hb) hsz⟩
        keep := fun b o e => Heap.get?_push_of_some _ (keep' b o e)
        ns := hn'.push _
        obj := by
          show (h'.push _).get? (h3.objs.size + 1) = _
          rw [← hsz']
          exact (Heap.get?_push_size _ rfl)
        gen := fun h e => ⟨_, _, _, e, rfl, rfl, rfl⟩
        dat := fun v z => by cases z
        os := rfl
        bare := AllBare.push I2.bare rfl
        fresh := Array.getElem?_push_size ..
        st := T.keep _ _ _ st2 fun b hb o e => Heap.get?_push_of_some _ (keep' b o (hx b o (nfP b hb) e)) }
    rw [hsz']
    exact key
  refine ⟨lim2, ?_⟩
  cases found : codeAmong gpos ps.toList with
  | none =>
    refine wpAny_genexprCodeX hcode (cd.code hPs ht) (cd.tab hPs) found fun c' h' tk hx hge hlt hco' _ htab' _ => ?_
    obtain ⟨o1, vs, f1, tf, fl, tg', inF, tx, tt, op, _, _, _, _, _, _, _, _, _, htr, _⟩ := hco'
    exact cont _ h' tk _ hx (by omega) htab'.2 ⟨_, rfl⟩ htr
  | some cv =>
    refine wpAny_genexprCode_hit hcode (cd.code hPs ht) found ?_
    exact cont cv s2.heap s2.toks ps (Heap.ExtBut.refl _ _) (Nat.le_refl _) hPs ⟨#[], by simp⟩ ht
end
end Gx
namespace Gx
open PySem PySem.Spec PyProof.Rows L2 GxR GenW
theorem inv_gens {X : Cx} {pins : List (Addr × Obj)} {σ : L2.St} {H : Hp} {s : Shared} (I : Inv X pins σ H s) {g' : Array GenState} (hb : AllBare g') : Inv X pins σ H { s with gens := g' } :=
  ⟨I.ok, I.os, hb, I.base, I.loc, I.cell, I.free, I.freeC, I.pin, I.hok, I.len⟩
theorem suf_eq {α : Type} {a b l : List α} (h1 : a <:+ l) (h2 : b <:+ l) (e : a.length = b.length) : a = b := by
  rw [List.suffix_iff_eq_drop] at h1 h2
  rw [h1, h2, e]
section
variable {X : Cx} {A2 : Around} {s4 : Shared} {H4 : Hp} {cenv : Env} {fp Ss : List Addr} {pn : List (Addr × Obj)} {σw : L2.St} {ys : List V} {W : Nat → Nat → List V → Hp → Prop}
/-- the generator's state lets it go on from wherever its frame stands as it stood -/
def Rest (X : Cx) (A2 : Around) (s4 : Shared) (H4 : Hp) (cenv : Env) (fp : List Addr) (pn : List (Addr × Obj)) (σw : L2.St) (Ss : List Addr) (ys : List V) (W : Nat → Nat → List V → Hp → Prop) (n : Nat) (H : Hp) (s : Shared) (gs : GenState) : Prop :=
  ∀ s'' pl'', pl''.map (·.1) = Ss → Inv (gctx X A2 s4 H4 cenv fp pn) pl'' σw H s'' → (∀ b ∈ fp, ∀ o, s.heap.get? b = some o → s''.heap.get? b = some o) →
    gs.Goes (model X.prog X.w) A2 (RG (gctx X A2 s4 H4 cenv fp pn) σw Ss W) (YG (gctx X A2 s4 H4 cenv fp pn) σw fp Ss ys W) n (.send .none) s''
/-- one item is asked for: either the end, or the next one -/
theorem ask_next {A : Around} {a : Addr} {g : Nat} {go : Obj} {i m : Nat} {r : List V} {H : Hp} {s : Shared} {gs : GenState} {pl : List (Addr × Obj)} {Q : Option Value → Shared → Prop} {E : Value → Shared → Prop}
    (hA2 : A2 = A.in1) (hh : A.handled = none) (hd : A.depth < recursionLimit) (hpn : pn = [(a, go)]) (hgen : ∀ h : Heap, h.get? a = some go → h.IsGen a g)
    (hsuf : r <:+ ys) (w : W i m r H) (hpl : pl.map (·.1) = Ss) (I : Inv (gctx X A2 s4 H4 cenv fp pn) pl σw H s) (hgs : s.gens[g]? = some gs) (hrest : Rest X A2 s4 H4 cenv fp pn σw Ss ys W r.length H s gs)
    (hend : ∀ H' s' i m pl', r = [] → pl'.map (·.1) = Ss → Inv (gctx X A2 s4 H4 cenv fp pn) pl' σw H' s' → W i m [] H' → Kept Ss s s' → Q none s')
    (hitem : ∀ y r' v H' s' i m gs' pl', r = y :: r' → RelV y v → pl'.map (·.1) = Ss → Inv (gctx X A2 s4 H4 cenv fp pn) pl' σw H' s' → W i m r' H' → Kept Ss s s' → s'.gens[g]? = some gs' →
      Rest X A2 s4 H4 cenv fp pn σw Ss ys W r'.length H' s' gs' → Q (some v) s') :
    wpAny (model X.prog X.w) A (pyNext (.ref a)) Q E s := by
  subst hA2 hpn
  obtain ⟨hgl, -⟩ := Array.getElem?_eq_some_iff.mp hgs
  have hg : s.heap.IsGen a g := hgen _ (I.pin (a, go) (List.mem_append_left _ (List.mem_singleton.mpr rfl))).1
  have bare0 : AllBare (s.setGen g .running).gens := allBare_setGen I.bare rfl
  have I0 : Inv (gctx X A.in1 s4 H4 cenv fp [(a, go)]) pl σw H (s.setGen g .running) := inv_gens I bare0
  have hgo := hrest (s.setGen g .running) pl hpl I0 fun b _ o e => e
  refine wpAny_gsz (n := g + 1) hgl (next_genG (F := FG (gctx X A.in1 s4 H4 cenv fp [(a, go)]) σw Ss W) (Er := fun _ _ => False) (n := r.length) hh I.nolimit hd hg hgs hgo (fun v s₁ gs' hbare hv hsz => ?_) (fun s₁ hp h' hk hsz => ?_) fun e s₁ he => he.elim)
  · obtain ⟨hkept, y, r', i', m', H', pl', hpl', hn, rv, I', hsuf', w', kap⟩ := hv
    cases hr : r with
    | nil =>
      rw [hr] at kap
      have z : False := kap s₁ pl' hpl' I' fun b _ o e => e
      exact z.elim
    | cons y0 r0 =>
      have e : y :: r' = r := suf_eq hsuf' hsuf (by rw [List.length_cons, ← hn, hr, List.length_cons]; omega)
      have e' := e.trans hr
      cases e'
      have hsz1 : g + 1 ≤ s₁.gens.size := by
        have q := setGen_size s₁ g gs'
        have q2 : g + 1 ≤ (s₁.setGen g gs').gens.size := by exact hsz
        omega
      refine hitem y r' v H' (s₁.setGen g gs') i' m' gs' pl' e.symm rv hpl' (inv_gens I' (allBare_setGen I'.bare hbare)) w' (fun b hb o eo => hkept b hb o eo) (setGen_at hsz1) fun s'' pl'' hp'' I'' hal => ?_
      have := kap s'' pl'' hp'' I'' hal
      rw [hr] at this
      exact this
  · obtain ⟨hn, hkept, pl', H', i', m', hpl', I', w'⟩ := hp
    have hr : r = [] := List.length_eq_zero_iff.mp hn
    have I2 : Inv (gctx X A.in1 s4 H4 cenv fp [(a, go)]) pl' σw H' { s₁.setGen g .finished with heap := h' } := by
      have J := inv_gens (I'.kept (h' := h') (t' := s₁.toks) hk) (g' := (s₁.setGen g .finished).gens) (allBare_setGen I'.bare rfl)
      exact J
    exact hend H' _ i' m' pl' hr hpl' I2 w' fun b hb o eo => hk _ _ (hkept b hb o eo)
/-- the loop of «all» -/
theorem all_loop {A : Around} {a : Addr} {g : Nat} {go : Obj} {R : Result → Shared → Prop}
    (hA2 : A2 = A.in1.in1) (hh : A.handled = none) (hd : A.depth < recursionLimit) (hpn : pn = [(a, go)]) (hgen : ∀ h : Heap, h.get? a = some go → h.IsGen a g) (hbl : ∀ y ∈ ys, ∃ b, y = V.bl b) :
    ∀ (r : List V) (i m : Nat) (H : Hp) (s : Shared) (gs : GenState), r <:+ ys → W i m r H → Inv (gctx X A2 s4 H4 cenv fp pn) [] σw H s → s.gens[g]? = some gs → Rest X A2 s4 H4 cenv fp pn σw [] ys W r.length H s gs →
      (∀ s' H' i m r', Inv (gctx X A2 s4 H4 cenv fp pn) [] σw H' s' → W i m r' H' → R (.ok (.ret (.bool (r.all fun y => decide (y = V.bl true))))) s') →
      codeAny (model X.prog X.w) A (.builtin "all.loop" ⟨[.ref a], []⟩) R s := by
  have nil_of : ∀ {l : List (Addr × Obj)}, l.map (·.1) = ([] : List Addr) → l = [] := fun {l} h => List.map_eq_nil_iff.mp h
  intro r
  induction r with
  | nil =>
    intro i m H s gs hsuf w I hgs hrest hR
    apply codeAny_builtin F.entry_all_loop
    rw [Around.under_plainId F.plain_all_loop]
    show wpAny _ A.in1 (Bind.bind (pyNext (.ref a)) _) _ _ s
    refine wpAny_bind (ask_next (A := A.in1) hA2 hh hd hpn hgen hsuf w rfl I hgs hrest (fun H' s' i m pl' _ hpl I' w' _ => ?_) fun y r' v H' s' i m gs' pl' e => by cases e)
    have := nil_of hpl
    subst this
    exact wpAny_bind (wpAny_rule (wpAny_pure (hR s' H' i m [] I' w')))
  | cons y r ih =>
    intro i m H s gs hsuf w I hgs hrest hR
    apply codeAny_builtin F.entry_all_loop
    rw [Around.under_plainId F.plain_all_loop]
    show wpAny _ A.in1 (Bind.bind (pyNext (.ref a)) _) _ _ s
    refine wpAny_bind (ask_next (A := A.in1) hA2 hh hd hpn hgen hsuf w rfl I hgs hrest (fun H' s' i m pl' e => by cases e) fun y' r' v H' s' i' m' gs' pl' e rv hpl I' w' _ hgs' hrest' => ?_)
    cases e
    have := nil_of hpl
    subst this
    obtain ⟨b, rfl⟩ := hbl y (hsuf.subset List.mem_cons_self)
    obtain rfl : v = Value.bool b := rv
    refine wpAny_bind (wpAny_holding (wpAny_truthy_bool (wpAny_bind (wpAny_letGo ?_))))
    cases b with
    | true =>
      simp only [if_true]
      refine wpAny_pure ⟨plainId_quiet F.plain_all_loop _, ih i' m' H' s' gs' ((List.suffix_cons _ _).trans hsuf) w' I' hgs' hrest' fun s'' H'' i'' m'' r'' I'' w'' => ?_⟩
      have := hR s'' H'' i'' m'' r'' I'' w''
      simpa using this
    | false =>
      simp only [if_false, Bool.false_eq_true]
      have := hR s' H' i' m' r I' w'
      exact wpAny_bind (wpAny_rule (wpAny_pure (by simpa using this)))
/-- all(elt for tg in iter if ..) and the like: the reading; Res: what the consumer wants of all that is handed out -/
def tGx (P : Addr) (wi : TI) (g : TG) (tt : TT) (te : TE) (vs : List Nat) (Res : List V → VK → Hp → Prop) : TE := fun σ H Q => wi σ H fun J H1 => TabG H1 P ∧ ∃ (ys : List V) (W : Nat → Nat → List V → Hp → Prop),
  (∀ H2, Tabbed P H1 H2 → ∃ m, W 0 m ys H2) ∧ Turns J g tt te (wipe σ vs) vs W ∧ ∀ i m r H3, W i m r H3 → Res ys Q H3
def rAll : List V → VK → Hp → Prop := fun ys Q H => (∀ y ∈ ys, ∃ b, y = V.bl b) ∧ Q (.bl (ys.all fun y => decide (y = V.bl true))) H
end
section
variable {X : Cx} {c P : Addr} {k : Nat} {elt tg iter : Expr} {ifs : List Expr} {scope : Scope} {own : List (Str × Nat)} {p pos gpos : Pos} {wi : TI} {g : TG} {tt : TT} {te : TE}
/-- a generator as the one argument of a built-in that is called by its name: Cons consumes it -/
theorem pe_gx {name : Str} {bname : String} {Res : List V → VK → Hp → Prop} (hr : Room (k + 1) X.A) (hN : X.N.Nodup) (hgl : Gl X name) (hm : X.mg name = none) (hbb : bootBuiltins name = some (.builtin bname)) (TB : TabB X.base X.mg c P) (hcode : X.env.code = .ref c)
    (nm : Nm X.N X.env.scope scope own) (hi : PI X tg iter wi)
    (hg : ∀ (A : Around) (s : Shared) (H : Hp) (C : Addr) (code : Value) (fp : List Addr) (pn : List (Addr × Obj)), Room k (A.deeper (genv X scope C code)) → PG (gctx X A s H (genv X scope C code) fp pn) tg g)
    (ht : ∀ (A : Around) (s : Shared) (H : Hp) (C : Addr) (code : Value) (fp : List Addr) (pn : List (Addr × Obj)), Room k (A.deeper (genv X scope C code)) → PTs (gctx X A s H (genv X scope C code) fp pn) ifs tt)
    (hel : ∀ (A : Around) (s : Shared) (H : Hp) (C : Addr) (code : Value) (fp : List Addr) (pn : List (Addr × Obj)), Room k (A.deeper (genv X scope C code)) → PE (gctx X A s H (genv X scope C code) fp pn) elt te)
    (hcons : ∀ (pins : List (Addr × Obj)) (σ : L2.St) (Q : VK) (H2 : Hp) (J : It) (fp : List Addr) (it : Addr) (tn : Nat → Heap → Prop) (s4 : Shared) (code : Value) (go : Obj) (s5 : Shared) (ys : List V) (W : Nat → Nat → List V → Hp → Prop),
      Born X pins σ H2 fp it tn (.GeneratorExp elt [⟨tg, iter, ifs, 0⟩] scope gpos) scope s4 code go s5 →
      (∀ (A : Around), A.handled = none → A.frames = X.A.frames → Inv (gctx X A s4 H2 (genv X scope s4.heap.objs.size code) fp [(s4.heap.objs.size + 1, go)]) [] (wipe σ (own.map (·.2))) H2 s5) →
      (∀ (A : Around) (pl : List (Addr × Obj)) (H : Hp) (s' : Shared), Inv (gctx X A s4 H2 (genv X scope s4.heap.objs.size code) fp [(s4.heap.objs.size + 1, go)]) pl (wipe σ (own.map (·.2))) H s' → Inv X pins σ H s') →
      (∀ (A : Around) (Ss : List Addr), Room k (A.deeper (genv X scope s4.heap.objs.size code)) → (∀ b ∈ Ss, b ∉ fp) → Rest X A s4 H2 (genv X scope s4.heap.objs.size code) fp [(s4.heap.objs.size + 1, go)] (wipe σ (own.map (·.2))) Ss ys W ys.length H2 s5
        (.fresh (.compStart (.GeneratorExp elt [⟨tg, iter, ifs, 0⟩] scope gpos) 0 (.ref it) .none (genv X scope s4.heap.objs.size code)))) →
      (∃ m, W 0 m ys H2) → (∀ i m r H3, W i m r H3 → Res ys Q H3) →
      wpAny (model X.prog X.w) X.A (call (.builtin bname) [.ref (s4.heap.objs.size + 1)]) (EP X pins σ Q) X.xe s5)
    (hs : ∀ v, genFold iter X.env v = pure v := by intro _; rfl)
    (he : starEach [.GeneratorExp elt [⟨tg, iter, ifs, 0⟩] scope gpos] X.env = (false, eval (.GeneratorExp elt [⟨tg, iter, ifs, 0⟩] scope gpos) X.env) :: starEach [] X.env := by rfl)
    (hn : name ≠ "__name__" := by decide) (hd : (name == ("__debug__" : Str)) = false := by decide) :
    PE X (.Call (.Name name p) [.GeneratorExp elt [⟨tg, iter, ifs, 0⟩] scope gpos] [] pos) (tGx P wi g tt te (own.map (·.2)) Res) := by
  constructor
  intro pins s σ H Q I h
  refine wpAny_Call_Name_kw (ld_blt I hgl hm hbb ?_ hn hd)
  refine PyProof.Rows.callWith_builtin1 ?_ he (by exact rfl)
  rw [he]
  show wpAny _ _ (spliced ((false, eval (.GeneratorExp elt [⟨tg, iter, ifs, 0⟩] scope gpos) X.env) :: backTo pos (starEach [] X.env))) _ _ s
  refine Calls.spliced_cons (gen_make (P := P) hr TB hcode nm hi hs I h fun J H1 H2 fp it tn s4 code go s5 hR hT T B => ?_)
  refine Calls.spliced_nil ?_
  obtain ⟨ys, W, hstart, hturn, hres⟩ := hR
  obtain ⟨m0, w0⟩ := hstart H2 hT
  refine hcons pins σ Q H2 J fp it tn s4 code go s5 ys W B (fun A hh hA => g_start B.inv nm hN hh hA B.fps B.keep B.ns B.obj B.dat B.os B.bare) (fun A pl H s' I' => ?_) (fun A Ss hrA hSs s'' pl'' hpl I'' hal => ?_) ⟨m0, w0⟩ hres
  · exact B.inv.call' (ch := fp) I'.os I'.base I'.hok I'.bare fun b hb => ⟨(B.fps b hb).1.2.2.2.1, (B.fps b hb).1.2.1, (B.fps b hb).1.2.2.2.2.1, (B.fps b hb).1.2.2.2.2.2⟩
  · have hpn : ∀ p ∈ [(s4.heap.objs.size + 1, go)], p.1 ∉ fp := fun p hp z => by
      have e : p = (s4.heap.objs.size + 1, go) := by simpa using hp
      rw [e] at z
      have := (B.fps _ z).2
      exact absurd this (by show ¬ (s4.heap.objs.size + 1 < s4.heap.objs.size); omega)
    have fr : ∀ b ∈ fp, H2 b = none := fun b hb => (B.fps b hb).1.1
    have st : tn 0 s''.heap := T.keep _ _ _ B.st fun b hb o e => hal b hb o e
    refine ⟨rfl, seg_start T st (seg_turns T nm.co hSs hpn (hg A s4 H2 _ code fp _ hrA) (ht A s4 H2 _ code fp _ hrA) (hel A s4 H2 _ code fp _ hrA) (fun σ2 e => ⟨fun j v q => ?_, ?_⟩) hturn m0 0 ys H2 s'' s'' pl'' w0 (List.suffix_refl _) hpl (fun p hp => (I''.pin p (List.mem_append_right _ hp)).1) I'' st fr)⟩
    · rw [← e] at q
      exact (wipe_some q).1
    · rw [← e, wipe_length]
end
section
variable {X : Cx} {c P : Addr} {k : Nat} {elt tg iter : Expr} {ifs : List Expr} {scope : Scope} {own : List (Str × Nat)} {p pos gpos : Pos} {wi : TI} {g : TG} {tt : TT} {te : TE}
theorem pe_all (hr : Room (k + 1) X.A) (hN : X.N.Nodup) (hgl : Gl X "all") (hm : X.mg "all" = none) (TB : TabB X.base X.mg c P) (hcode : X.env.code = .ref c)
    (nm : Nm X.N X.env.scope scope own) (hi : PI X tg iter wi)
    (hg : ∀ (A : Around) (s : Shared) (H : Hp) (C : Addr) (code : Value) (fp : List Addr) (pn : List (Addr × Obj)), Room k (A.deeper (genv X scope C code)) → PG (gctx X A s H (genv X scope C code) fp pn) tg g)
    (ht : ∀ (A : Around) (s : Shared) (H : Hp) (C : Addr) (code : Value) (fp : List Addr) (pn : List (Addr × Obj)), Room k (A.deeper (genv X scope C code)) → PTs (gctx X A s H (genv X scope C code) fp pn) ifs tt)
    (hel : ∀ (A : Around) (s : Shared) (H : Hp) (C : Addr) (code : Value) (fp : List Addr) (pn : List (Addr × Obj)), Room k (A.deeper (genv X scope C code)) → PE (gctx X A s H (genv X scope C code) fp pn) elt te)
    (hs : ∀ v, genFold iter X.env v = pure v := by intro _; rfl)
    (he : starEach [.GeneratorExp elt [⟨tg, iter, ifs, 0⟩] scope gpos] X.env = (false, eval (.GeneratorExp elt [⟨tg, iter, ifs, 0⟩] scope gpos) X.env) :: starEach [] X.env := by rfl) :
    PE X (.Call (.Name "all" p) [.GeneratorExp elt [⟨tg, iter, ifs, 0⟩] scope gpos] [] pos) (tGx P wi g tt te (own.map (·.2)) rAll) := by
  refine pe_gx (bname := "all") hr hN hgl hm (by decide +kernel) TB hcode nm hi hg ht hel (fun pins σ Q H2 J fp it tn s4 code go s5 ys W B start back rest w0 hres => ?_) hs he
  obtain ⟨m0, w0⟩ := w0
  have hr2 : Room k (X.A.in1.in1.deeper (genv X scope s4.heap.objs.size code)) :=
    ⟨hr.hd, by have := hr.dp; show X.A.depth + 1 + 3 * k + 5 < _; omega, by have := hr.un; show X.A.units + 1 + 1 + 3 + 16 * k + 200 < _; omega⟩
  apply call_function_tree F.kind_all F.plain_all F.entry_all (F.args_all1 _)
  unfold Builtin.«all»
  apply wpAny_bind (m := oneArg "all" _)
  refine wpAny_pure ?_
  refine wpAny_bind (wpAny_pyIter_gen (B.gen _ B.obj) ?_)
  refine wpAny_pure ⟨plainId_quiet F.plain_all_loop _, all_loop (A := X.A) rfl hr.hd (by have := hr.dp; omega) rfl B.gen (hres 0 m0 ys H2 w0).1 ys 0 m0 H2 s5 _ (List.suffix_refl _) w0 (start X.A.in1.in1 hr.hd rfl) B.fresh (rest _ [] hr2 fun b hb => by cases hb) fun s' H' i m r' I' w' => ?_⟩
  exact ⟨.bl _, H', back _ _ _ _ I', rfl, (hres i m r' H' w').2⟩
end
end Gx
namespace Gx
open PySem PySem.Spec PyProof.Rows L2 GxR GenW
section
variable {X : Cx} {A2 : Around} {s4 : Shared} {H4 : Hp} {cenv : Env} {fp Ss : List Addr} {pn : List (Addr × Obj)} {σw : L2.St} {ys : List V} {W : Nat → Nat → List V → Hp → Prop}
def maxV : Int → List V → Int
  | b, [] => b
  | b, .int z :: r => maxV (if b < z then z else b) r
  | b, _ :: r => maxV b r
def rMax : List V → VK → Hp → Prop := fun ys Q H => ∃ z r, ys = V.int z :: r ∧ (∀ y ∈ r, ∃ z, y = V.int z) ∧ Q (.int (maxV z r)) H
end
end Gx
namespace Gx
open PySem PySem.Spec PyProof.Rows L2 GxR GenW
theorem addI_ok {X : Cx} {pl : List (Addr × Obj)} {σ : L2.St} {H : Hp} {s : Shared} {E : Value → Shared → Prop} {D : Addr} {S : Int → Bool} {n : Nat} {y : Int} {t : Tok} {Q : Value → Shared → Prop} (I : Inv X pl σ H s) (hD : H D = some (SetO X.w D S n)) (room : n + 1 < scanBound)
    (h : ∀ s', Inv X pl σ (upd H D (SetO X.w D (fun j => S j || decide (j = y)) (if S y = true then n else n + 1))) s' → Q .none s') : wpAny (model X.prog X.w) X.A (call (.builtin "set.add") [.ref D, .int y t]) Q E s := by
  refine setR_add (setO_get I hD) room fun h' sb new => ?_
  obtain ⟨o, _, _, _, ho, _⟩ := id new
  exact h _ (I.write (e := D) (t' := s.toks + 1) (by rw [hD]; trivial) (.inl rfl) (fun b u hb hu => (sb.2 b hb).trans hu) ⟨o, ho⟩ (setO_new new))
section
variable (elt t0 i0 t1 i1 : Expr) (scope : Scope) (pos : Pos)
abbrev twoS : Expr := .SetComp elt [⟨t0, i0, [], 0⟩, ⟨t1, i1, [], 0⟩] scope pos
theorem outerTurn (it acc : Value) (cenv : Env) : compTurn (twoS elt t0 i0 t1 i1 scope pos) 0 it acc cenv = (do
      standAt i0.pos
      match ← pyNext it with
      | none => pure (.done .next)
      | some item =>
        letOwnedTupleGo t0 it item
        assign t0 cenv item
        let source ← eval i1 cenv
        standAt i1.pos
        let source ← foldedSetIterable i1 cenv source
        let _ ← runOwn (.compStart (twoS elt t0 i0 t1 i1 scope pos) 1 (← holding [source] (pyIter source)) acc cenv) cenv
        again (.compLoop (twoS elt t0 i0 t1 i1 scope pos) 0 it acc cenv)) := by rfl
theorem innerTurn (it acc : Value) (cenv : Env) : compTurn (twoS elt t0 i0 t1 i1 scope pos) 1 it acc cenv = (do
      standAt i1.pos
      match ← pyNext it with
      | none => pure (.done .next)
      | some item =>
        letOwnedTupleGo t1 it item
        assign t1 cenv item
        (do let made ← eval elt cenv; standAt elt.pos; let _ ← call (.builtin "set.add") [acc, made])
        again (.compLoop (twoS elt t0 i0 t1 i1 scope pos) 1 it acc cenv)) := by rfl
end
section
variable {prog : Program} {w : World} {A : Around} {R : Result → Shared → Prop} {s : Shared} {elt t0 i0 t1 i1 : Expr} {scope : Scope} {pos : Pos} {it acc : Value} {cenv : Env}
/-- the first walk's loop: J n is kept and n falls -/
theorem outer_loop (hs : ∀ x, foldedSetIterable i1 cenv x = pure x) (J : Nat → Shared → Prop)
    (turn : ∀ n s, J n s → wpAny (model prog w) A (pyNext it) (fun r s₁ => match r with
      | none => R (.ok .next) s₁
      | some v => wpAny (model prog w) A (letOwnedTupleGo t0 it v) (fun _ s₂ => wpAny (model prog w) A (assign t0 cenv v) (fun _ s₃ =>
          wpAny (model prog w) A (eval i1 cenv) (fun x s₄ => wpAny (model prog w) A (pyIter x) (fun it1 s₅ =>
              codeAny (model prog w) A (.compStart (twoS elt t0 i0 t1 i1 scope pos) 1 it1 acc cenv) (fun r s' => match r with
                | .ok _ => ∃ m, m < n ∧ J m s'
                | .error _ => False) s₅) (fun _ _ => False) s₄) (fun _ _ => False) s₃) (fun _ _ => False) s₂) (fun _ _ => False) s₁) (fun _ _ => False) s)
    (n : Nat) (h : J n s) : codeAny (model prog w) A (.compLoop (twoS elt t0 i0 t1 i1 scope pos) 0 it acc cenv) R s := by
  refine codeAny_loop rfl J (fun n s hI => ?_) n h
  show wpAny _ A ((compTurn (twoS elt t0 i0 t1 i1 scope pos) 0 it acc cenv).onRaise (fun x => do noteFrame x cenv; theTreesLotGoes x)) _ _ s
  refine wpAny_noted ?_
  rw [outerTurn]
  refine wpAny_bind (wpAny_standAt (wpAny_bind (thnF (turn n s hI) fun r s₁ h₁ => ?_)))
  cases r with
  | none => exact wpAny_pure h₁
  | some v =>
    refine wpAny_bind (thnF h₁ fun _ s₂ h₂ => wpAny_bind (thnF h₂ fun _ s₃ h₃ => wpAny_bind (thnF h₃ fun x s₄ h₄ => wpAny_bind (wpAny_standAt (wpAny_bind (wpAny_of_eq (hs x)
      (wpAny_bind (wpAny_holding (thnF h₄ fun it1 s₅ h₅ => wpAny_bind (wpAny_runOwn (by
        rw [Around.mark_none]
        exact codeAny_mono h₅ (fun r s' hr => by
          cases r with
          | error e => exact hr.elim
          | ok f => first
            | exact wpAny_pure (.intro rfl hr)
            | exact wpAny_bind (wpAny_pure (wpAny_pure (.intro rfl hr)))))))))))))))
/-- the second walk's loop: each item is put into the set -/
theorem inner_loop (J : Nat → Shared → Prop)
    (turn : ∀ n s, J n s → wpAny (model prog w) A (pyNext it) (fun r s₁ => match r with
      | none => R (.ok .next) s₁
      | some v => wpAny (model prog w) A (letOwnedTupleGo t1 it v) (fun _ s₂ => wpAny (model prog w) A (assign t1 cenv v) (fun _ s₃ =>
          wpAny (model prog w) A (eval elt cenv) (fun x s₄ =>
              wpAny (model prog w) A (call (.builtin "set.add") [acc, x]) (fun _ s₅ => ∃ m, m < n ∧ J m s₅) (fun _ _ => False) s₄) (fun _ _ => False) s₃) (fun _ _ => False) s₂) (fun _ _ => False) s₁) (fun _ _ => False) s)
    (n : Nat) (h : J n s) : codeAny (model prog w) A (.compLoop (twoS elt t0 i0 t1 i1 scope pos) 1 it acc cenv) R s := by
  refine codeAny_loop rfl J (fun n s hI => ?_) n h
  show wpAny _ A ((compTurn (twoS elt t0 i0 t1 i1 scope pos) 1 it acc cenv).onRaise (fun x => do noteFrame x cenv; theTreesLotGoes x)) _ _ s
  refine wpAny_noted ?_
  rw [innerTurn]
  refine wpAny_bind (wpAny_standAt (wpAny_bind (thnF (turn n s hI) fun r s₁ h₁ => ?_)))
  cases r with
  | none => exact wpAny_pure h₁
  | some v =>
    refine wpAny_bind (thnF h₁ fun _ s₂ h₂ => wpAny_bind (thnF h₂ fun _ s₃ h₃ => ?_))
    exact wpAny_bind (wpAny_bind (thnF h₃ fun x s₄ h₄ => wpAny_bind (wpAny_standAt (wpAny_bind (thnF h₄ fun _ s₅ h₅ => wpAny_pure (wpAny_pure ⟨rfl, h₅⟩))))))
/-- ahead of the second walk's loop -/
theorem inner_start (h0 : codeAny (model prog w) A (.compLoop (twoS elt t0 i0 t1 i1 scope pos) 1 it acc cenv) R s)
    (h : wpAny (model prog w) A (pyIter it) (fun it' s' => codeAny (model prog w) A (.compLoop (twoS elt t0 i0 t1 i1 scope pos) 1 it' acc cenv) R s') (fun _ _ => False) s) :
    codeAny (model prog w) A (.compStart (twoS elt t0 i0 t1 i1 scope pos) 1 it acc cenv) R s := by
  refine codeAny_of_tree ?_
  show wpAny _ _ ((compStart (twoS elt t0 i0 t1 i1 scope pos) 1 it acc cenv).onRaise (fun x => do noteFrame x cenv; standAt theWindowsPlace)) _ _ s
  refine wpAny_notedAt ?_
  unfold compStart
  show wpAny _ _ (Bind.bind ask _) _ _ s
  apply wpAny_bind
  refine wpAny_askSetting ?_
  apply wpAny_ite
  have h' := thnF (E := fun x s' => notedBy (model prog w) A cenv (fun x s' => R (.error x) s') x s') h fun it' s' z => z
  split
  · first
      | exact wpAny_bind (wpAny_pure (wpAny_pure (.intro rfl h0)))
      | exact wpAny_pure (.intro rfl h0)
  · first
      | exact wpAny_bind (wpAny_rule (wpAny_bind (wpAny_standAt (wpAny_bind (thnF h fun it' s' z => wpAny_pure (.intro rfl z))))))
      | (refine wpAny_bind (wpAny_rule ?_); show wpAny _ _ (standAt i1.pos >>= _) _ _ s; exact wpAny_bind (wpAny_standAt (wpAny_bind (thnF h fun it' s' z => wpAny_pure (.intro rfl z)))))
end
/-! ### a walk within a block -/
/-- where a walk stands between two turns -/
def Mid (Y : Cx) (pl : List (Addr × Obj)) (σ : L2.St) (fp : List Addr) (tn : Nat → Heap → Prop) (W : Nat → Nat → Hp → Prop) (n : Nat) (s : Shared) : Prop :=
  ∃ i H, Inv Y pl σ H s ∧ tn i s.heap ∧ (∀ b ∈ fp, H b = none) ∧ W i n H
/-- what is always so of a walk's own objects, whatever is tracked -/
def Off (Y : Cx) (pl : List (Addr × Obj)) (fp : List Addr) : Prop := ∀ H', (∀ b ∈ fp, H' b = none) → ∀ b ∈ fp, FpOk Y pl H' b
section
variable {Y : Cx} {pl : List (Addr × Obj)} {σ : L2.St} {tg : Expr} {J : It} {fp : List Addr} {it : Addr} {tn : Nat → Heap → Prop}
/-- a turn that pinned the walk's objects has left them alone -/
theorem mid_of (T : Turn Y.prog Y.w Y.K tg J fp it tn) {s s' : Shared} {ρ : L2.St} {H : Hp} {W : Nat → Nat → Hp → Prop} {i n : Nat} (t : tn i s.heap) (I : Inv Y (pl ++ pinsAt fp s.heap) ρ H s') (hl : σ.length = ρ.length)
    (hk : ∀ (j : Nat) v, σ[j]? = some (some v) → ρ[j]? = some (some v)) (w : W i n H) : Mid Y pl σ fp tn W n s' := by
  have held : ∀ b o, b ∈ fp → s.heap.get? b = some o → s'.heap.get? b = some o ∧ H b = none := fun b o hb e =>
    have q := I.pin (b, o) (List.mem_append.mpr (.inr (List.mem_append.mpr (.inr (mem_pinsAt hb e)))))
    ⟨q.1, q.2.1⟩
  refine ⟨i, H, I.unpinned.weak hl hk, T.keep i _ _ t fun b hb o e => (held b o hb e).1, fun b hb => ?_, w⟩
  obtain ⟨o, e, -⟩ := T.obj i _ t b hb
  exact (held b o hb e).2
/-- one turn: the walk is over, or its next item is stored -/
theorem turn_go {g : TG} (T : Turn Y.prog Y.w Y.K tg J fp it tn) (hc : Y.calm = true) (hx : Y.xe = fun _ _ => False) (hg : PG Y tg g) (F : Off Y pl fp) {s : Shared} {H : Hp} {i : Nat} {Stop Go : Shared → Prop}
    (I : Inv Y pl σ H s) (t : tn i s.heap) (n : ∀ b ∈ fp, H b = none)
    (alt : (J.stop i H ∧ ∀ s', Inv Y pl σ H s' → Stop s') ∨
      (J.go i H ∧ ∀ x H', J.yld i H x H' → ∃ q : L2.St → Hp → Prop, g x σ H' q ∧ ∀ ρ H2 (s1 s2 : Shared), tn (i + 1) s1.heap → Inv Y (pl ++ pinsAt fp s1.heap) ρ H2 s2 → q ρ H2 → Go s2)) :
    wpAny (model Y.prog Y.w) Y.A (pyNext (.ref it)) (fun r s1 => match r with
      | none => Stop s1
      | some v => wpAny (model Y.prog Y.w) Y.A (letOwnedTupleGo tg (.ref it) v) (fun _ s2 => wpAny (model Y.prog Y.w) Y.A (assign tg Y.env v) (fun _ s3 => Go s3) (fun _ _ => False) s2) (fun _ _ => False) s1) (fun _ _ => False) s := by
  rcases alt with ⟨stop, fin⟩ | ⟨go, next⟩
  · refine wpAny_mono (T.done Y rfl rfl rfl hc i pl s σ H (fun _ _ => False) I (F H n) t stop) (fun r s1 h => ?_) fun _ _ z => z
    obtain ⟨rfl, I1⟩ := h
    exact fin s1 I1
  · refine wpAny_mono (T.item Y rfl rfl rfl hc i pl s σ H (fun _ _ => False) I (F H n) t go) (fun r s1 h => ?_) fun _ _ z => z
    obtain ⟨u, rfl, h⟩ := h
    refine wpAny_mono h (fun _ s2 h2 => ?_) fun _ _ z => z
    obtain ⟨x, H', I2, rx, y, t2, n2⟩ := h2
    obtain ⟨q, hq, k⟩ := next x H' y
    have a := hg.run _ s2 σ H' x u q (I2.pinned (F H' n2) (T.obj _ _ t2)) rx hq
    rw [hx] at a
    exact wpAny_mono a (fun _ s3 h3 => by obtain ⟨ρ, H3, I3, q3⟩ := h3; exact k ρ H3 s2 s3 t2 I3 q3) fun _ _ z => z
end
/-- the second walk J1 has come: its items go into the set at D; N when it is over -/
abbrev Fills (w : World) (D : Addr) (g1 : TG) (te : TE) (ρ : L2.St) (vs1 : List Nat) (N : Hp → Prop) (J1 : It) (H4 : Hp) : Prop :=
  ∃ W1 : Nat → Nat → Hp → Prop, (∃ m, W1 0 m H4) ∧ ∀ j k H, W1 j k H →
    (J1.stop j H ∧ N H) ∨ (J1.go j H ∧ ∃ Nx1 : Hp → Prop, (∀ H', Nx1 H' → ∃ k', k' < k ∧ W1 (j + 1) k' H') ∧ ∀ x H', J1.yld j H x H' → g1 x (wipe ρ vs1) H' fun σ3 H5 => wipe σ3 vs1 = wipe ρ vs1 ∧
      te σ3 H5 fun y H7 => ∃ z S n, y = V.int z ∧ H7 D = some (SetO w D S n) ∧ n + 1 < scanBound ∧ Nx1 (upd H7 D (SetO w D (fun j => S j || decide (j = z)) (if S z = true then n else n + 1))))
/-- the first walk J has come: D is the new set; Q when it is over -/
abbrev Walks2 (w : World) (D : Addr) (g : TG) (wi1 : TI) (g1 : TG) (te : TE) (σ : L2.St) (vs vs1 : List Nat) (Q : Hp → Prop) (J : It) (H1 : Hp) : Prop :=
  ∃ W : Nat → Nat → Hp → Prop, (∃ m, W 0 m H1) ∧ ∀ i m H, W i m H →
    (J.stop i H ∧ Q H) ∨ (J.go i H ∧ ∃ Nx : Hp → Prop, (∀ H', Nx H' → ∃ m', m' < m ∧ W (i + 1) m' H') ∧ ∀ x H', J.yld i H x H' → g x (wipe σ vs) H' fun σ2 H2 => wipe σ2 vs = wipe σ vs ∧
      wi1 σ2 H2 fun J1 H4 => Fills w D g1 te σ2 vs1 Nx J1 H4)
/-- {elt for tg in iter for tg1 in iter1}, its items ints: D the new set -/
def tSc2 (w : World) (wi : TI) (g : TG) (wi1 : TI) (g1 : TG) (te : TE) (vs vs1 : List Nat) : TE := fun σ H Q => wi σ H fun J H1 => ∀ D, H1 D = none →
  Walks2 w D g wi1 g1 te σ vs vs1 (fun H' => Q (.ref D) H') J (upd H1 D (SetO w D (fun _ => false) 0))
section
variable {Y : Cx} {pl : List (Addr × Obj)} {elt tg iter tg1 iter1 : Expr} {scope : Scope} {pos : Pos} {g g1 : TG} {wi1 : TI} {te : TE} {D : Addr} {J : It} {fp : List Addr} {it : Addr} {tn : Nat → Heap → Prop}
theorem fills_ok (T : Turn Y.prog Y.w Y.K tg1 J fp it tn) (hc : Y.calm = true) (hx : Y.xe = fun _ _ => False) (hg1 : PG Y tg1 g1) (he : PE Y elt te) (F : Off Y pl fp) {ρ : L2.St} {vs1 : List Nat} {s : Shared} {H : Hp} {N : Hp → Prop} {Done : Shared → Prop}
    (I : Inv Y pl ρ H s) (t : tn 0 s.heap) (n : ∀ b ∈ fp, H b = none) (h : Fills Y.w D g1 te ρ vs1 N J H) (fin : ∀ H' s', Inv Y pl (wipe ρ vs1) H' s' → N H' → Done s') :
    codeAny (model Y.prog Y.w) Y.A (.compStart (twoS elt tg iter tg1 iter1 scope pos) 1 (.ref it) (.ref D) Y.env) (fun r s' => match r with
      | .ok _ => Done s'
      | .error _ => False) s := by
  obtain ⟨W1, ⟨m1, w1⟩, turn⟩ := h
  have lp : codeAny (model Y.prog Y.w) Y.A (.compLoop (twoS elt tg iter tg1 iter1 scope pos) 1 (.ref it) (.ref D) Y.env) (fun r s' => match r with
      | .ok _ => Done s'
      | .error _ => False) s := by
    refine inner_loop (Mid Y pl (wipe ρ vs1) fp tn W1) (fun k s1 h1 => ?_) m1 ⟨0, H, I.weak (wipe_length _ _) (fun j v e => (wipe_some e).1), t, n, w1⟩
    obtain ⟨j, H1, I1, t1, n1, x1⟩ := h1
    refine turn_go T hc hx hg1 F I1 t1 n1 ?_
    rcases turn j k H1 x1 with ⟨stop, nx⟩ | ⟨go, Nx, less, step⟩
    · exact .inl ⟨stop, fun s' I' => fin H1 s' I' nx⟩
    · refine .inr ⟨go, fun x H2 y => ⟨_, step x H2 y, fun ρ2 H3 s2 s3 t2 I3 q3 => ?_⟩⟩
      have a := he.run _ s3 ρ2 H3 _ I3 q3.2
      rw [hx] at a
      refine wpAny_mono a (fun u s4 h4 => ?_) fun _ _ z => z
      obtain ⟨v, H4, I4, rv, z, S, c, rfl, at', room, nx⟩ := h4
      obtain ⟨tz, rfl⟩ := rv
      refine addI_ok I4 at' room fun s5 I5 => ?_
      obtain ⟨k', hk, w'⟩ := less _ nx
      exact ⟨k', hk, mid_of T t2 I5 (by rw [← q3.1, wipe_length]) (fun j v e => (wipe_some (by rw [q3.1]; exact e)).1) w'⟩
  exact inner_start lp (T.self Y.A 0 _ _ _ t lp)
theorem walks2_ok (T : Turn Y.prog Y.w Y.K tg J fp it tn) (hc : Y.calm = true) (hx : Y.xe = fun _ _ => False) (hg : PG Y tg g) (hi1 : PI Y tg1 iter1 wi1) (hg1 : PG Y tg1 g1) (he : PE Y elt te) (F : Off Y [] fp)
    (hs1 : ∀ x, foldedSetIterable iter1 Y.env x = pure x) {σ : L2.St} {vs vs1 : List Nat} (hv : ∀ i ∈ vs1, i ∈ vs) {s : Shared} {H : Hp} {Q : Hp → Prop} {R : Result → Shared → Prop}
    (I : Inv Y [] (wipe σ vs) H s) (t : tn 0 s.heap) (n : ∀ b ∈ fp, H b = none) (h : Walks2 Y.w D g wi1 g1 te σ vs vs1 Q J H) (fin : ∀ H' s', Inv Y [] (wipe σ vs) H' s' → Q H' → R (.ok .next) s') :
    codeAny (model Y.prog Y.w) Y.A (.compLoop (twoS elt tg iter tg1 iter1 scope pos) 0 (.ref it) (.ref D) Y.env) R s := by
  obtain ⟨W, ⟨n0, w0⟩, turn⟩ := h
  refine outer_loop hs1 (Mid Y [] (wipe σ vs) fp tn W) (fun m s1 h1 => ?_) n0 ⟨0, H, I, t, n, w0⟩
  obtain ⟨i, H1, I1, t1, n1, x1⟩ := h1
  refine turn_go T hc hx hg F I1 t1 n1 ?_
  rcases turn i m H1 x1 with ⟨stop, nx⟩ | ⟨go, Nx, less, step⟩
  · exact .inl ⟨stop, fun s' I' => fin H1 s' I' nx⟩
  · refine .inr ⟨go, fun x H2 y => ⟨_, step x H2 y, fun ρ H3 s2 s3 t2 I3 q3 => ?_⟩⟩
    have a := hi1.run _ s3 ρ H3 _ I3 q3.2
    rw [hx] at a
    refine wpAny_mono a (fun u s4 h4 => wpAny_mono h4 (fun v s5 h5 => ?_) fun _ _ z => z) fun _ _ z => z
    obtain ⟨it1, fp1, tn1, J1, H5, rfl, I5, T1, t5, f5, fl⟩ := h5
    refine fills_ok T1 hc hx hg1 he (fun H' no b hb => ⟨no b hb, (f5 b hb).2⟩) I5 t5 (fun b hb => (f5 b hb).1) fl fun H6 s6 I6 nx => ?_
    obtain ⟨m', hm, w'⟩ := less H6 nx
    refine ⟨m', hm, mid_of T t2 I6 (by rw [← q3.1, wipe_length, wipe_length]) (fun j v e => ?_) w'⟩
    rw [← q3.1] at e
    have e' := wipe_some e
    rw [wipe_out fun z => e'.2 (hv j z)]
    exact e'.1
end
/-! ### the whole -/
abbrev obS (w : World) : Obj := { cls := .type "set", dict := none, data := .set #[] 0 (.fresh 0 0 (!w.params.followText "set-order")) }
abbrev withS (w : World) (s : Shared) : Shared := { s with heap := s.heap.push (obS w) }
section
variable {X : Cx} {pl : List (Addr × Obj)} {σ : L2.St} {H : Hp} {s : Shared} {tg : Expr} {J : It} {fp : List Addr} {it : Addr} {tn : Nat → Heap → Prop}
/-- the empty set is laid behind all else -/
theorem set_laid (I : Inv X pl σ H s) (T : Turn X.prog X.w X.K tg J fp it tn) (t : tn 0 s.heap) (f : ∀ b ∈ fp, FpOk X pl H b) {D : Addr} (hD : s.heap.objs.size = D) :
    Inv X pl σ (upd H D (SetO X.w D (fun _ => false) 0)) (withS X.w s) ∧ tn 0 (withS X.w s).heap ∧ ∀ b ∈ fp, FpOk X pl (upd H D (SetO X.w D (fun _ => false) 0)) b ∧ b < (withS X.w s).heap.objs.size := by
  refine ⟨I.laid (t' := s.toks) (fun b o => Heap.get?_push_of_some _) (Nat.le_of_eq hD) (by subst hD; exact setO_new (setR_fresh X.w)), T.keep _ _ _ t fun b _ o => Heap.get?_push_of_some _, fun b hb => ?_⟩
  obtain ⟨o, e, -⟩ := T.obj _ _ t b hb
  have less := Heap.lt_size e
  refine ⟨⟨(upd_ne (Nat.ne_of_lt (hD ▸ less))).trans (f b hb).1, (f b hb).2⟩, ?_⟩
  rw [Heap.size_push]
  exact Nat.lt_succ_of_lt less
end
theorem pe_sc2 {X : Cx} {elt tg iter tg1 iter1 : Expr} {scope : Scope} {own : List (Str × Nat)} {vs1 : List Nat} {pos : Pos} {wi wi1 : TI} {g g1 : TG} {te : TE}
    (hc : X.calm = true) (hN : X.N.Nodup) (hi : PI X tg iter wi) (ok : BlkOk X.N X.env.scope scope own) (hv : ∀ i ∈ vs1, i ∈ own.map (·.2))
    (hg : ∀ s H C cl fp, PG (X.blk s H scope (compEnvC scope cl C X.env) fp) tg g) (he : ∀ s H C cl fp, PE (X.blk s H scope (compEnvC scope cl C X.env) fp) elt te)
    (hi1 : ∀ s H C cl fp, PI (X.blk s H scope (compEnvC scope cl C X.env) fp) tg1 iter1 wi1) (hg1 : ∀ s H C cl fp, PG (X.blk s H scope (compEnvC scope cl C X.env) fp) tg1 g1)
    (hs : ∀ x, foldedSetIterable iter X.env x = pure x := by intro _; rfl) (hs1 : ∀ env x, foldedSetIterable iter1 env x = pure x := by intro _ _; rfl) :
    PE X (twoS elt tg iter tg1 iter1 scope pos) (tSc2 X.w wi g wi1 g1 te (own.map (·.2)) vs1) := by
  constructor
  intro pl s σ H Q I h
  have free : ∀ y ∈ scope.names, y.2 = .free → ∃ c, X.env.cells.lookup y.1 = some c := fun y hy e => (ok.free y hy e).elim (fun q => I.ok.has _ (.inl q)) fun q => I.ok.has _ (.inr q)
  rw [PpSet.eval_SetComp]
  refine wpAny_comprehension_free (use := none) rfl hs (closure_ok free) ok.kind (fun y hy e => by rw [ok.uniq y hy, e]) (thn (hi.run pl s σ H _ I h) fun v s1 h1 => thn h1 fun u s2 h2 => PpSet.newSet_ok (newEnv_comp ?_))
  obtain ⟨it, fp, tn, J, H2, rfl, I2, T, t2, f2, q⟩ := h2
  obtain ⟨D, hD⟩ : ∃ D, s2.heap.objs.size = D := ⟨_, rfl⟩
  obtain ⟨I3, t3, f3⟩ := set_laid I2 T t2 f2 hD
  have q3 := q D (I2.hok.fresh (Nat.le_of_eq hD))
  rw [hD]
  change codeAny _ _ (.compStart (twoS elt tg iter tg1 iter1 scope pos) 0 (.ref it) (.ref D) (compEnvC scope (cellsFrom ((withS X.w s2).heap.objs.size + 1) scope.names (cloFrom X.env.cells scope.names [])) (withS X.w s2).heap.objs.size X.env)) (compPost (model X.prog X.w) X.A X.xe none (EP X pl σ Q) (.ref D) (withS X.w s2).heap.objs.size) { withS X.w s2 with heap := pushCells ((withS X.w s2).heap.push { cls := .type "dict", data := .dict #[] }) scope.names }
  generalize withS X.w s2 = s3 at I3 t3 f3 ⊢
  generalize upd H2 D (SetO X.w D (fun _ => false) 0) = H3 at I3 f3 q3
  have I4 := block_start I3 ok hN fun b hb => f3 b hb
  have t4 := T.keep 0 _ (pushCells (s3.heap.push { cls := .type "dict", data := .dict #[] }) scope.names) t3 fun b _ o e => pushCells_keeps _ _ _ _ (Heap.get?_push_of_some _ e)
  have a0 := hg s3 H3 s3.heap.objs.size (cellsFrom (s3.heap.objs.size + 1) scope.names (cloFrom X.env.cells scope.names [])) fp
  have a1 := he s3 H3 s3.heap.objs.size (cellsFrom (s3.heap.objs.size + 1) scope.names (cloFrom X.env.cells scope.names [])) fp
  have a2 := hi1 s3 H3 s3.heap.objs.size (cellsFrom (s3.heap.objs.size + 1) scope.names (cloFrom X.env.cells scope.names [])) fp
  have a3 := hg1 s3 H3 s3.heap.objs.size (cellsFrom (s3.heap.objs.size + 1) scope.names (cloFrom X.env.cells scope.names [])) fp
  have place : (compEnvC scope (cellsFrom (s3.heap.objs.size + 1) scope.names (cloFrom X.env.cells scope.names [])) s3.heap.objs.size X.env).locals = s3.heap.objs.size := rfl
  generalize compEnvC scope (cellsFrom (s3.heap.objs.size + 1) scope.names (cloFrom X.env.cells scope.names [])) s3.heap.objs.size X.env = ce at I4 a0 a1 a2 a3 place ⊢
  have lp : codeAny (model X.prog X.w) X.A (.compLoop (twoS elt tg iter tg1 iter1 scope pos) 0 (.ref it) (.ref D) ce) (compPost (model X.prog X.w) X.A X.xe none (EP X pl σ Q) (.ref D) s3.heap.objs.size)
      { s3 with heap := pushCells (s3.heap.push { cls := .type "dict", data := .dict #[] }) scope.names } := by
    refine walks2_ok (Y := X.blk s3 H3 scope ce fp) T hc rfl a0 a2 a3 a1 (fun H' no b hb => ⟨no b hb, (I4.ok.exf b hb).1, I4.ok.exfs b hb, .inl hb, fun x c e => (I4.ok.exf b hb).2 x c e, fun p hp => by simp [Cx.blk] at hp⟩) (hs1 ce) hv I4 t4 (fun b hb => (f3 b hb).1.1) q3 fun H6 s6 I6 fin => ?_
    have I7 : Inv X pl σ H6 s6 := I3.call' (ch := fp) I6.os I6.base I6.hok I6.bare fun b hb =>
      have z := (f3 b hb).1
      ⟨z.2.2.2.1, z.2.1, z.2.2.2.2.1, z.2.2.2.2.2⟩
    have nC : H6 s3.heap.objs.size = none := place ▸ (show H6 ce.locals = none from I6.free)
    obtain ⟨m, hn, -⟩ := I6.loc
    obtain ⟨c0, c1, -, c3, c4, c5⟩ := I3.fpOk (Nat.le_refl _) nC
    exact ⟨m, place ▸ (show s6.heap.Ns ce.locals m from hn), fun h'' sb => ⟨.ref D, H6, I7.turned (t' := s6.toks) (fun b o hb e => (sb.2 b hb).trans e) c0 c1 c3 c4 c5, rfl, fin⟩⟩
  exact PpSet.codeAny_compStart_set lp (T.self X.A 0 _ _ _ t4 lp)
end Gx
namespace Pf
open PySem PySem.Spec PyProof.Rows L2 GxR GenW Gx
/-- data: what never changes from the time on at which it is a datum -/
inductive D where
  | non | bl (b : Bool) | int (i : Int) | str (x : Str) | lst (xs : List D) | tup (xs : List D) | scr (ns : List Int) | rng (lo hi : Int)
  deriving Inhabited
/-- things of one's own, which may still change -/
inductive Ow where
  | l (xs : List D) | d (ks : List (Key × D))
/-- what a slot holds: nothing that is known, a datum, a thing of one's own -/
inductive Sl where
  | no | im (d : D) | ow (o : Ow)
def Sl.own : Sl → Bool
  | .ow _ => true
  | _ => false
/-- all is as it was, but tables may have grown -/
def Old (H H' : Hp) : Prop := ∀ a o, H a = some o → H' a = some o ∨ ((∃ ps, o = HO.tbl ps) ∧ ∃ ps', H' a = some (.tbl ps'))
theorem Old.refl (H : Hp) : Old H H := fun _ _ h => .inl h
theorem Old.trans {H H1 H2 : Hp} (a : Old H H1) (b : Old H1 H2) : Old H H2 := fun c o h => by
  rcases a c o h with h1 | ⟨⟨ps, rfl⟩, ps', h1⟩
  · exact b c o h1
  · rcases b c _ h1 with h2 | ⟨_, ps2, h2⟩
    · exact .inr ⟨⟨ps, rfl⟩, ps', h2⟩
    · exact .inr ⟨⟨ps, rfl⟩, ps2, h2⟩
theorem Old.none {H H' : Hp} (h : Old H H') {a : Addr} (e : H' a = none) : H a = none := by
  cases q : H a with
  | none => rfl
  | some o =>
    rcases h a o q with z | ⟨_, _, z⟩ <;> (rw [e] at z; cases z)
theorem Old.at {H H' : Hp} (h : Old H H') {a : Addr} {o : HO} (e : H a = some o) (n : ∀ ps, o ≠ .tbl ps) : H' a = some o := by
  rcases h a o e with z | ⟨⟨ps, rfl⟩, _⟩
  · exact z
  · exact absurd rfl (n ps)
def Tb (T : List Addr) (H : Hp) : Prop := ∀ P ∈ T, TabG H P
def NoT (B : Hp) : Prop := ∀ a ps, B a ≠ some (.tbl ps)
/-- a tuple whose object has no dict of its own -/
def SqU (K : PySem.W.Frag) (B : Hp) (a : Addr) (vs : List V) : Prop := SqT K B a vs ∧ ∃ (ob : Obj) (u : HO), B a = some (.frz ob u) ∧ ob.dict = none
theorem SqU.new {K : PySem.W.Frag} {B : Hp} {p : Addr} {ob : Obj} {vs : List V} (h : ob.dict = none) : SqU K (upd B p (.frz ob (.tup vs))) p vs := ⟨.inl (.inr ⟨ob, upd_same⟩), ob, _, upd_same, h⟩
mutual
inductive Dq (K : PySem.W.Frag) (B : Hp) : V → D → Prop where
  | non : Dq K B .non .non
  | bl (b : Bool) : Dq K B (.bl b) (.bl b)
  | int (i : Int) : Dq K B (.int i) (.int i)
  | str (x : Str) : Dq K B (.str x) (.str x)
  | lst {a : Addr} {vs : List V} {ds : List D} : B a = some (.lst vs) → DqAll K B vs ds → Dq K B (.ref a) (.lst ds)
  | tup {a : Addr} {vs : List V} {ds : List D} : SqU K B a vs → DqAll K B vs ds → Dq K B (.ref a) (.tup ds)
  | scr {a : Addr} {ns : List Int} : SqL K B a (ns.map V.int) → Dq K B (.ref a) (.scr ns)
  | rng {a : Addr} {lo hi : Int} : B a = some (.rng lo hi) → Dq K B (.ref a) (.rng lo hi)
inductive DqAll (K : PySem.W.Frag) (B : Hp) : List V → List D → Prop where
  | nil : DqAll K B [] []
  | cons {v : V} {vs : List V} {d : D} {ds : List D} : Dq K B v d → DqAll K B vs ds → DqAll K B (v :: vs) (d :: ds)
end
theorem same_seqT {K : PySem.W.Frag} {B B' : Hp} (h : Same B B') {a : Addr} {xs : List V} (s : SqT K B a xs) : SqT K B' a xs := by
  rcases s with (s | ⟨o, s⟩) | s
  · exact .inl (.inl (h _ _ s))
  · exact .inl (.inr ⟨o, h _ _ s⟩)
  · exact .inr s
theorem same_seqL {K : PySem.W.Frag} {B B' : Hp} (h : Same B B') {a : Addr} {xs : List V} (s : SqL K B a xs) : SqL K B' a xs := by
  rcases s with (s | ⟨o, s⟩) | s
  · exact .inl (.inl (h _ _ s))
  · exact .inl (.inr ⟨o, h _ _ s⟩)
  · exact .inr s
theorem same_seqU {K : PySem.W.Frag} {B B' : Hp} (h : Same B B') {a : Addr} {xs : List V} (s : SqU K B a xs) : SqU K B' a xs := by
  obtain ⟨s1, ob, u, s2, s3⟩ := s
  exact ⟨same_seqT h s1, ob, u, h _ _ s2, s3⟩
theorem same_tup {K : PySem.W.Frag} {B B' : Hp} (h : Same B B') {a : Addr} {xs : List V} (s : SqU K B a xs) : SqT K B' a xs := same_seqT h s.1
mutual
theorem Dq.mono {K : PySem.W.Frag} {B B' : Hp} (h : Same B B') : ∀ {v : V} {d : D}, Dq K B v d → Dq K B' v d
  | _, _, .non => .non
  | _, _, .bl b => .bl b
  | _, _, .int i => .int i
  | _, _, .str x => .str x
  | _, _, .lst s a => .lst (h _ _ s) (DqAll.mono h a)
  | _, _, .tup s a => .tup (same_seqU h s) (DqAll.mono h a)
  | _, _, .scr s => .scr (same_seqL h s)
  | _, _, .rng s => .rng (h _ _ s)
theorem DqAll.mono {K : PySem.W.Frag} {B B' : Hp} (h : Same B B') : ∀ {vs : List V} {ds : List D}, DqAll K B vs ds → DqAll K B' vs ds
  | _, _, .nil => .nil
  | _, _, .cons a r => .cons (Dq.mono h a) (DqAll.mono h r)
end
/-- the same as the kit's own data, where it is such -/
def D.py : D → Option PyData
  | .non => some .none
  | .bl b => some (.bool b)
  | .int i => some (.int i)
  | .str x => some (.str x)
  | .lst xs => (pys xs).map .list
  | .tup xs => (pys xs).map .tuple
  | .scr _ => none
  | .rng _ _ => none
where pys : List D → Option (List PyData)
  | [] => some []
  | d :: ds => match D.py d, pys ds with
    | some x, some xs => some (x :: xs)
    | _, _ => none
mutual
theorem Dq.dp {K : PySem.W.Frag} {B : Hp} : ∀ {v : V} {d : D} {p : PyData}, Dq K B v d → d.py = some p → Dp K B v p
  | _, _, _, .non, e => by cases e; exact .non
  | _, _, _, .bl b, e => by cases e; exact .bl b
  | _, _, _, .int b, e => by cases e; exact .int b
  | _, _, _, .str b, e => by cases e; exact .str b
  | _, _, _, .lst (ds := ds) s a, e => by
    rw [D.py] at e
    cases q : D.py.pys ds with
    | none => (rw [q] at e; cases e)
    | some ps =>
      rw [q] at e
      cases e
      exact .lst (SqL.of s) (DqAll.dp a q)
  | _, _, _, .tup (ds := ds) s a, e => by
    rw [D.py] at e
    cases q : D.py.pys ds with
    | none => (rw [q] at e; cases e)
    | some ps =>
      rw [q] at e
      cases e
      exact .tup s.1 (DqAll.dp a q)
  | _, _, _, .scr _, e => by cases e
  | _, _, _, .rng _, e => by cases e
theorem DqAll.dp {K : PySem.W.Frag} {B : Hp} : ∀ {vs : List V} {ds : List D} {ps : List PyData}, DqAll K B vs ds → D.py.pys ds = some ps → DpAll K B vs ps
  | _, _, _, .nil, e => by cases e; exact .nil
  | _, _, _, .cons (d := d) (ds := ds) a r, e => by
    rw [D.py.pys] at e
    cases q : D.py d with
    | none => (rw [q] at e; cases e)
    | some x =>
      cases q2 : D.py.pys ds with
      | none => rw [q, q2] at e; cases e
      | some xs =>
        rw [q, q2] at e
        cases e
        exact .cons (Dq.dp a q) (DqAll.dp r q2)
end
theorem DqAll.length {K : PySem.W.Frag} {B : Hp} : ∀ {vs : List V} {ds : List D}, DqAll K B vs ds → vs.length = ds.length
  | _, _, .nil => rfl
  | _, _, .cons _ r => by rw [List.length_cons, List.length_cons, DqAll.length r]
theorem DqAll.get {K : PySem.W.Frag} {B : Hp} : ∀ {vs : List V} {ds : List D} {i : Nat} {d : D}, DqAll K B vs ds → ds[i]? = some d → ∃ v, vs[i]? = some v ∧ Dq K B v d
  | _, _, _, _, .nil, e => (by simp at e)
  | _, _, 0, _, .cons a _, e => by
    simp at e
    subst e
    exact ⟨_, rfl, a⟩
  | _, _, i + 1, _, .cons _ r, e => by
    simp at e
    obtain ⟨v, h1, h2⟩ := DqAll.get r e
    exact ⟨v, by simpa using h1, h2⟩
theorem DqAll.append {K : PySem.W.Frag} {B : Hp} : ∀ {vs us : List V} {ds es : List D}, DqAll K B vs ds → DqAll K B us es → DqAll K B (vs ++ us) (ds ++ es)
  | _, _, _, _, .nil, s => s
  | _, _, _, _, .cons a r, s => .cons a (DqAll.append r s)
theorem DqAll.take {K : PySem.W.Frag} {B : Hp} : ∀ {vs : List V} {ds : List D} (n : Nat), DqAll K B vs ds → DqAll K B (vs.take n) (ds.take n)
  | _, _, 0, _ => .nil
  | _, _, _ + 1, .nil => .nil
  | _, _, n + 1, .cons a r => .cons a (DqAll.take n r)
theorem DqAll.drop {K : PySem.W.Frag} {B : Hp} : ∀ {vs : List V} {ds : List D} (n : Nat), DqAll K B vs ds → DqAll K B (vs.drop n) (ds.drop n)
  | _, _, 0, r => r
  | _, _, _ + 1, .nil => .nil
  | _, _, n + 1, .cons _ r => DqAll.drop n r
theorem DqAll.set {K : PySem.W.Frag} {B : Hp} {v : V} {d : D} (h : Dq K B v d) : ∀ {vs : List V} {ds : List D} (n : Nat), DqAll K B vs ds → DqAll K B (vs.set n v) (ds.set n d)
  | _, _, _, .nil => .nil
  | _, _, 0, .cons _ r => .cons h r
  | _, _, n + 1, .cons a r => .cons a (DqAll.set h n r)
theorem DqAll.dropLast {K : PySem.W.Frag} {B : Hp} {vs : List V} {ds : List D} (h : DqAll K B vs ds) : DqAll K B vs.dropLast ds.dropLast := by
  rw [List.dropLast_eq_take, List.dropLast_eq_take, h.length]
  exact h.take _
theorem DqAll.ints {K : PySem.W.Frag} {B : Hp} : ∀ (ns : List Int), DqAll K B (ns.map V.int) (ns.map D.int)
  | [] => .nil
  | n :: ns => .cons (.int n) (DqAll.ints ns)
/-! ### slots -/
def OwOk (K : PySem.W.Frag) (B : Hp) : HO → Ow → Prop
  | .lst vs, .l xs => DqAll K B vs xs
  | .dK kvs, .d ks => kvs.map Prod.fst = ks.map Prod.fst ∧ DqAll K B (kvs.map Prod.snd) (ks.map Prod.snd)
  | _, _ => False
theorem OwOk.mono {K : PySem.W.Frag} {B B' : Hp} (h : Same B B') : ∀ {o : HO} {w : Ow}, OwOk K B o w → OwOk K B' o w
  | .lst _, .l _, q => DqAll.mono h q
  | .dK _, .d _, q => ⟨q.1, DqAll.mono h q.2⟩
  | .lst _, .d _, q => q.elim
  | .dK _, .l _, q => q.elim
  | .tup _, _, q => q.elim
  | .dT _, _, q => q.elim
  | .set _ _, _, q => q.elim
  | .ins _ _ _, _, q => q.elim
  | .own _, _, q => q.elim
  | .xd _, _, q => q.elim
  | .met _ _, _, q => q.elim
  | .rng _ _, _, q => q.elim
  | .frz _ _, _, q => q.elim
  | .tbl _, _, q => q.elim
  | .ext _, _, q => q.elim
theorem OwOk.nt {K : PySem.W.Frag} {B : Hp} {o : HO} {w : Ow} (h : OwOk K B o w) : ∀ ps, o ≠ .tbl ps := fun ps e => by
  subst e
  cases w <;> exact h.elim
theorem OwOk.l {K : PySem.W.Frag} {B : Hp} {o : HO} {xs : List D} (h : OwOk K B o (.l xs)) : ∃ vs, o = .lst vs ∧ DqAll K B vs xs := by
  cases o <;> first | exact ⟨_, rfl, h⟩ | exact h.elim
theorem OwOk.d {K : PySem.W.Frag} {B : Hp} {o : HO} {ks : List (Key × D)} (h : OwOk K B o (.d ks)) : ∃ kvs, o = .dK kvs ∧ kvs.map Prod.fst = ks.map Prod.fst ∧ DqAll K B (kvs.map Prod.snd) (ks.map Prod.snd) := by
  cases o <;> first | exact ⟨_, rfl, h⟩ | exact h.elim
def SlOk (K : PySem.W.Frag) (H0 B H : Hp) : Sl → Option (Option V) → Prop
  | .no, _ => True
  | .im d, s => ∃ v, s = some (some v) ∧ Dq K B v d
  | .ow w, s => ∃ p o, s = some (some (.ref p)) ∧ H0 p = none ∧ B p = none ∧ H p = some o ∧ OwOk K B o w
/-- a is the place of an own list -/
def OwnA (env : List Sl) (σ : L2.St) (a : Addr) : Prop := ∃ (i : Nat) (e : Sl), env[i]? = some e ∧ e.own = true ∧ σ[i]? = some (some (V.ref a))
structure Se where
  T : List Addr
  H0 : Hp
  B0 : Hp
structure Rel (K : PySem.W.Frag) (S : Se) (B : Hp) (env : List Sl) (σ : L2.St) (H : Hp) : Prop where
  old : Old S.H0 H
  tab : Tb S.T H
  b0 : Same S.B0 B
  bh : Same B H
  nt : NoT B
  new : ∀ a o, B a = some o → S.B0 a = some o ∨ S.H0 a = none
  len : env.length = σ.length
  sl : ∀ (i : Nat) (e : Sl), env[i]? = some e → SlOk K S.H0 B H e σ[i]?
  sep : ∀ (i j : Nat) (p : Addr) (e e' : Sl), env[i]? = some e → env[j]? = some e' → e.own = true → e'.own = true → σ[i]? = some (some (.ref p)) → σ[j]? = some (some (.ref p)) → i = j
/-- from B, H to B', H' while the own lists of env may turn -/
structure Ext (env env' : List Sl) (σ : L2.St) (B H B' H' : Hp) : Prop where
  sub : ∀ a, OwnA env' σ a → OwnA env σ a
  same : Same B B'
  new : ∀ a o, B' a = some o → B a = some o ∨ H a = none ∨ OwnA env σ a
  kept : ∀ a o, H a = some o → ¬ OwnA env σ a → H' a = some o ∨ ((∃ ps, o = HO.tbl ps) ∧ ∃ ps', H' a = some (.tbl ps'))
  live : ∀ a, H' a = none → H a = none
section
variable {K : PySem.W.Frag} {S : Se} {B H B1 H1 B2 H2 : Hp} {env env1 env2 : List Sl} {σ : L2.St}
theorem Ext.refl : Ext env env σ B H B H := ⟨fun _ h => h, Same.refl B, fun _ _ h => .inl h, fun _ _ h _ => .inl h, fun _ h => h⟩
theorem Ext.trans (a : Ext env env1 σ B H B1 H1) (b : Ext env1 env2 σ B1 H1 B2 H2) : Ext env env2 σ B H B2 H2 := by
  refine ⟨fun c h => a.sub c (b.sub c h), a.same.trans b.same, fun c o h => ?_, fun c o h n => ?_, fun c h => a.live c (b.live c h)⟩
  · rcases b.new c o h with z | z | z
    · exact a.new c o z
    · by_cases hw : OwnA env σ c
      · exact .inr (.inr hw)
      · cases q : H c with
        | none => exact .inr (.inl rfl)
        | some u => rcases a.kept c u q hw with y | ⟨_, _, y⟩ <;> (rw [z] at y; cases y)
    · exact .inr (.inr (a.sub c z))
  · have n1 : ¬ OwnA env1 σ c := fun z => n (a.sub c z)
    rcases a.kept c o h n with z | ⟨⟨ps, rfl⟩, ps', z⟩
    · exact b.kept c o z n1
    · rcases b.kept c _ z n1 with y | ⟨_, ps2, y⟩
      · exact .inr ⟨⟨ps, rfl⟩, ps', y⟩
      · exact .inr ⟨⟨ps, rfl⟩, ps2, y⟩
theorem Ext.at (a : Ext env env1 σ B H B1 H1) {p : Addr} {o : HO} (e : H p = some o) (n : ¬ OwnA env σ p) (nt : ∀ ps, o ≠ .tbl ps) : H1 p = some o := by
  rcases a.kept p o e n with z | ⟨⟨ps, rfl⟩, _⟩
  · exact z
  · exact absurd rfl (nt ps)
/-- nothing of one's own turns -/
theorem Rel.step (R : Rel K S B env σ H) (o : Old H H1) (t : Tb S.T H1) (sm : Same B B1) (bh : Same B1 H1) (nt : NoT B1) (nw : ∀ a o, B1 a = some o → B a = some o ∨ H a = none) :
    Rel K S B1 env σ H1 ∧ Ext env env σ B H B1 H1 := by
  refine ⟨⟨R.old.trans o, t, R.b0.trans sm, bh, nt, fun a u h => ?_, R.len, fun i e h => ?_, R.sep⟩, ⟨fun _ h => h, sm, fun a u h => (nw a u h).elim .inl fun z => .inr (.inl z), fun a u h _ => o a u h, fun a h => o.none h⟩⟩
  · rcases nw a u h with z | z
    · exact R.new a u z
    · exact .inr (R.old.none z)
  · have q := R.sl i e h
    cases e with
    | no => trivial
    | im d =>
      obtain ⟨v, e1, e2⟩ := q
      exact ⟨v, e1, Dq.mono sm e2⟩
    | ow xs =>
      obtain ⟨p, vs, e1, e2, e3, e4, e5⟩ := q
      refine ⟨p, vs, e1, e2, ?_, o.at e4 e5.nt, e5.mono sm⟩
      cases z : B1 p with
      | none => rfl
      | some u =>
        rcases nw p u z with y | y
        · rw [e3] at y; cases y
        · rw [e4] at y; cases y
theorem Rel.ownB (R : Rel K S B env σ H) {a : Addr} (h : OwnA env σ a) : S.H0 a = none ∧ B a = none ∧ ∃ o w, H a = some o ∧ OwOk K B o w := by
  obtain ⟨i, e, h1, h2, h3⟩ := h
  have q := R.sl i e h1
  cases e with
  | no => cases h2
  | im d => cases h2
  | ow xs =>
    obtain ⟨p, vs, e1, e2, e3, e4, e5⟩ := q
    rw [h3] at e1
    cases e1
    exact ⟨e2, e3, vs, _, e4, e5⟩
/-- something new is laid, and it never changes -/
theorem Rel.alloc (R : Rel K S B env σ H) {p : Addr} {o : HO} (hn : H p = none) (nt : ∀ ps, o ≠ .tbl ps) : Rel K S (upd B p o) env σ (upd H p o) ∧ Ext env env σ B H (upd B p o) (upd H p o) := by
  have bn : B p = none := R.bh.free hn
  refine R.step (fun a u h => .inl (by rw [upd_ne (ne_of_none h hn)]; exact h)) (fun P hP => ?_) (fun a u h => by rw [upd_ne (ne_of_none h bn)]; exact h) (fun a u h => ?_) (fun a ps h => ?_) fun a u h => ?_
  · obtain ⟨ps, h1, h2⟩ := R.tab P hP
    exact ⟨ps, by rw [upd_ne (ne_of_none h1 hn)]; exact h1, h2⟩
  · by_cases z : a = p
    · subst z; rw [upd_same] at h ⊢; exact h
    · rw [upd_ne z] at h ⊢; exact R.bh a u h
  · by_cases z : a = p
    · subst z; rw [upd_same] at h; exact nt ps (Option.some.inj h)
    · rw [upd_ne z] at h; exact R.nt a ps h
  · by_cases z : a = p
    · subst z; exact .inr hn
    · rw [upd_ne z] at h; exact .inl h
/-- something new is laid that may still change -/
theorem Rel.lay (R : Rel K S B env σ H) {p : Addr} {o : HO} (hn : H p = none) : Rel K S B env σ (upd H p o) ∧ Ext env env σ B H B (upd H p o) := by
  refine R.step (fun a u h => .inl (by rw [upd_ne (ne_of_none h hn)]; exact h)) (fun P hP => ?_) (Same.refl B) (fun a u h => ?_) R.nt fun a u h => .inl h
  · obtain ⟨ps, h1, h2⟩ := R.tab P hP
    exact ⟨ps, by rw [upd_ne (ne_of_none h1 hn)]; exact h1, h2⟩
  · rw [upd_ne (ne_of_none (R.bh a u h) hn)]
    exact R.bh a u h
/-- a list that is no slot's is turned -/
theorem Rel.turn (R : Rel K S B env σ H) {p : Addr} {u0 o : HO} (h0 : S.H0 p = none) (hb : B p = none) (hp : H p = some u0) (nt : ∀ ps, u0 ≠ .tbl ps) (nw : ¬ OwnA env σ p) : Rel K S B env σ (upd H p o) := by
  refine ⟨fun a u h => ?_, fun P hP => ?_, R.b0, fun a u h => ?_, R.nt, R.new, R.len, fun i e h => ?_, R.sep⟩
  · have z : a ≠ p := ne_of_none h h0
    rw [upd_ne z]
    exact R.old a u h
  · obtain ⟨ps, h1, h2⟩ := R.tab P hP
    have z : P ≠ p := ne_of h1 hp (by intro q; exact nt _ q.symm)
    exact ⟨ps, by rw [upd_ne z]; exact h1, h2⟩
  · have z : a ≠ p := ne_of_none h hb
    rw [upd_ne z]
    exact R.bh a u h
  · have q := R.sl i e h
    cases e with
    | no => trivial
    | im d => exact q
    | ow xs =>
      obtain ⟨p', vs', e1, e2, e3, e4, e5⟩ := q
      have z : p' ≠ p := fun y => nw ⟨i, _, h, rfl, by rw [e1, y]⟩
      exact ⟨p', vs', e1, e2, e3, by rw [upd_ne z]; exact e4, e5⟩
/-- what is laid never changes from here on -/
theorem Rel.keep (R : Rel K S B env σ H) {p : Addr} {o : HO} (h0 : S.H0 p = none) (hb : B p = none) (hp : H p = some o) (nt : ∀ ps, o ≠ .tbl ps) (nw : ¬ OwnA env σ p) : Rel K S (upd B p o) env σ H := by
  have sm : Same B (upd B p o) := fun a u h => by rw [upd_ne (ne_of_none h hb)]; exact h
  refine ⟨R.old, R.tab, R.b0.trans sm, fun a u h => ?_, fun a ps h => ?_, fun a u h => ?_, R.len, fun i e h => ?_, R.sep⟩
  · by_cases z : a = p
    · subst z; rw [upd_same] at h; rw [hp]; exact h
    · rw [upd_ne z] at h; exact R.bh a u h
  · by_cases z : a = p
    · subst z; rw [upd_same] at h; exact nt ps (Option.some.inj h)
    · rw [upd_ne z] at h; exact R.nt a ps h
  · by_cases z : a = p
    · subst z; exact .inr h0
    · rw [upd_ne z] at h; exact R.new a u h
  · have q := R.sl i e h
    cases e with
    | no => trivial
    | im d =>
      obtain ⟨v, e1, e2⟩ := q
      exact ⟨v, e1, Dq.mono sm e2⟩
    | ow xs =>
      obtain ⟨p', vs', e1, e2, e3, e4, e5⟩ := q
      have z : p' ≠ p := fun y => nw ⟨i, _, h, rfl, by rw [e1, y]⟩
      exact ⟨p', vs', e1, e2, by rw [upd_ne z]; exact e3, e4, e5.mono sm⟩
theorem env_set {env : List Sl} {i j : Nat} {x e : Sl} (h : (env.set i x)[j]? = some e) : (j = i ∧ e = x) ∨ (j ≠ i ∧ env[j]? = some e) := by
  by_cases z : j = i
  · subst z
    left
    have hl : j < env.length := by
      have := (List.getElem?_eq_some_iff.mp h).1
      simpa using this
    rw [List.getElem?_set_self hl] at h
    exact ⟨rfl, (Option.some.inj h).symm⟩
  · rw [List.getElem?_set_ne (Ne.symm z)] at h
    exact .inr ⟨z, h⟩
/-- slot i is forgotten -/
theorem Rel.forget (R : Rel K S B env σ H) (i : Nat) : Rel K S B (env.set i .no) σ H := by
  refine ⟨R.old, R.tab, R.b0, R.bh, R.nt, R.new, by rw [List.length_set]; exact R.len, fun j e h => ?_, fun j k p e e' h1 h2 o1 o2 => ?_⟩
  · rcases env_set h with ⟨rfl, rfl⟩ | ⟨_, h⟩
    · trivial
    · exact R.sl j e h
  · rcases env_set h1 with ⟨rfl, rfl⟩ | ⟨_, h1⟩
    · cases o1
    · rcases env_set h2 with ⟨rfl, rfl⟩ | ⟨_, h2⟩
      · cases o2
      · exact R.sep j k p e e' h1 h2 o1 o2
/-- an own list becomes a datum -/
theorem Rel.freeze (R : Rel K S B env σ H) {i : Nat} {xs : List D} (hi : env[i]? = some (.ow (.l xs))) :
    ∃ p vs, σ[i]? = some (some (.ref p)) ∧ H p = some (.lst vs) ∧ Dq K (upd B p (.lst vs)) (.ref p) (.lst xs) ∧ Rel K S (upd B p (.lst vs)) (env.set i (.im (.lst xs))) σ H ∧ Ext env (env.set i (.im (.lst xs))) σ B H (upd B p (.lst vs)) H := by
  obtain ⟨p, o, e1, e2, e3, e4, e5⟩ := R.sl i _ hi
  obtain ⟨vs, rfl, e5⟩ := e5.l
  have sm : Same B (upd B p (.lst vs)) := fun a u h => by rw [upd_ne (ne_of_none h e3)]; exact h
  have R1 := R.forget i
  have nw : ¬ OwnA (env.set i .no) σ p := fun ⟨j, e, h1, h2, h3⟩ => by
    rcases env_set h1 with ⟨rfl, rfl⟩ | ⟨hne, h1⟩
    · cases h2
    · exact hne (R.sep j i p e _ h1 hi h2 rfl h3 e1)
  have R2 := R1.keep e2 e3 e4 (fun ps z => by cases z) nw
  have dp : Dq K (upd B p (.lst vs)) (.ref p) (.lst xs) := .lst upd_same (DqAll.mono sm e5)
  have hl : i < env.length := (List.getElem?_eq_some_iff.mp hi).1
  refine ⟨p, vs, e1, e4, dp, ⟨R2.old, R2.tab, R2.b0, R2.bh, R2.nt, R2.new, by rw [List.length_set]; exact R.len, fun j e h => ?_, fun j k q e e' h1 h2 o1 o2 => ?_⟩, ⟨fun a ⟨j, e, h1, h2, h3⟩ => ?_, sm, fun a u h => ?_, fun a u h _ => .inl h, fun a h => h⟩⟩
  · rcases env_set h with ⟨rfl, rfl⟩ | ⟨hne, h⟩
    · exact ⟨_, e1, dp⟩
    · exact R2.sl j e (by rw [List.getElem?_set_ne (Ne.symm hne)]; exact h)
  · rcases env_set h1 with ⟨rfl, rfl⟩ | ⟨_, h1⟩
    · cases o1
    · rcases env_set h2 with ⟨rfl, rfl⟩ | ⟨_, h2⟩
      · cases o2
      · exact R.sep j k q e e' h1 h2 o1 o2
  · rcases env_set h1 with ⟨rfl, rfl⟩ | ⟨_, h1⟩
    · cases h2
    · exact ⟨j, e, h1, h2, h3⟩
  · by_cases z : a = p
    · subst z
      exact .inr (.inr ⟨i, _, hi, rfl, e1⟩)
    · rw [upd_ne z] at h
      exact .inl h
/-- an own list is changed -/
theorem Rel.mut (R : Rel K S B env σ H) {i : Nat} {xs ys : Ow} {p : Addr} {us : HO} (hi : env[i]? = some (.ow xs)) (hp : σ[i]? = some (some (.ref p))) (hd : OwOk K B us ys) :
    Rel K S B (env.set i (.ow ys)) σ (upd H p us) ∧ Ext env (env.set i (.ow ys)) σ B H B (upd H p us) := by
  obtain ⟨p', vs, e1, e2, e3, e4, e5⟩ := R.sl i _ hi
  rw [hp] at e1
  cases e1
  have R1 := R.forget i
  have nw : ¬ OwnA (env.set i .no) σ p := fun ⟨j, e, h1, h2, h3⟩ => by
    rcases env_set h1 with ⟨rfl, rfl⟩ | ⟨hne, h1⟩
    · cases h2
    · exact hne (R.sep j i p e _ h1 hi h2 rfl h3 hp)
  have R2 := R1.turn (o := us) e2 e3 e4 e5.nt nw
  refine ⟨⟨R2.old, R2.tab, R2.b0, R2.bh, R2.nt, R2.new, by rw [List.length_set]; exact R.len, fun j e h => ?_, fun j k q e e' h1 h2 o1 o2 => ?_⟩, ⟨fun a ⟨j, e, h1, h2, h3⟩ => ?_, Same.refl B, fun a u h => .inl h, fun a u h n => ?_, fun a h => ?_⟩⟩
  · rcases env_set h with ⟨rfl, rfl⟩ | ⟨hne, h⟩
    · exact ⟨p, us, hp, e2, e3, upd_same, hd⟩
    · exact R2.sl j e (by rw [List.getElem?_set_ne (Ne.symm hne)]; exact h)
  · have c1 : ∃ e0, env[j]? = some e0 ∧ e0.own = true := by
      rcases env_set h1 with ⟨rfl, rfl⟩ | ⟨_, h1⟩
      · exact ⟨_, hi, rfl⟩
      · exact ⟨e, h1, o1⟩
    have c2 : ∃ e0, env[k]? = some e0 ∧ e0.own = true := by
      rcases env_set h2 with ⟨rfl, rfl⟩ | ⟨_, h2⟩
      · exact ⟨_, hi, rfl⟩
      · exact ⟨e', h2, o2⟩
    obtain ⟨x1, y1, z1⟩ := c1
    obtain ⟨x2, y2, z2⟩ := c2
    exact R.sep j k q x1 x2 y1 y2 z1 z2
  · rcases env_set h1 with ⟨rfl, rfl⟩ | ⟨_, h1⟩
    · exact ⟨_, _, hi, rfl, h3⟩
    · exact ⟨j, e, h1, h2, h3⟩
  · have z : a ≠ p := fun y => n (by rw [y]; exact ⟨i, _, hi, rfl, hp⟩)
    exact .inl (by rw [upd_ne z]; exact h)
  · have z : a ≠ p := fun y => by rw [y, upd_same] at h; cases h
    rw [upd_ne z] at h
    exact h
/-- a name is given a datum -/
theorem Rel.setIm (R : Rel K S B env σ H) {v : V} {d : D} (i : Nat) (hd : Dq K B v d) : Rel K S B (env.set i (.im d)) (σ.set i (some v)) H := by
  have σne : ∀ {j : Nat}, j ≠ i → (σ.set i (some v))[j]? = σ[j]? := fun {j} h => List.getElem?_set_ne (Ne.symm h)
  refine ⟨R.old, R.tab, R.b0, R.bh, R.nt, R.new, by rw [List.length_set, List.length_set]; exact R.len, fun j e h => ?_, fun j k q e e' h1 h2 o1 o2 s1 s2 => ?_⟩
  · rcases env_set h with ⟨rfl, rfl⟩ | ⟨hne, h⟩
    · have hl : j < σ.length := by
        rw [← R.len]
        have := (List.getElem?_eq_some_iff.mp h).1
        simpa using this
      exact ⟨v, List.getElem?_set_self hl, hd⟩
    · rw [σne hne]
      exact R.sl j e h
  · rcases env_set h1 with ⟨rfl, rfl⟩ | ⟨n1, h1⟩
    · cases o1
    · rcases env_set h2 with ⟨rfl, rfl⟩ | ⟨n2, h2⟩
      · cases o2
      · rw [σne n1] at s1
        rw [σne n2] at s2
        exact R.sep j k q e e' h1 h2 o1 o2 s1 s2
/-- a name is given a list of its own -/
theorem Rel.setOw (R : Rel K S B env σ H) {p : Addr} {vs : HO} {xs : Ow} (i : Nat) (h0 : S.H0 p = none) (hb : B p = none) (hp : H p = some vs) (hd : OwOk K B vs xs) (nw : ¬ OwnA env σ p) :
    Rel K S B (env.set i (.ow xs)) (σ.set i (some (.ref p))) H := by
  have σne : ∀ {j : Nat}, j ≠ i → (σ.set i (some (.ref p)))[j]? = σ[j]? := fun {j} h => List.getElem?_set_ne (Ne.symm h)
  refine ⟨R.old, R.tab, R.b0, R.bh, R.nt, R.new, by rw [List.length_set, List.length_set]; exact R.len, fun j e h => ?_, fun j k q e e' h1 h2 o1 o2 s1 s2 => ?_⟩
  · rcases env_set h with ⟨rfl, rfl⟩ | ⟨hne, h⟩
    · have hl : j < σ.length := by
        rw [← R.len]
        have := (List.getElem?_eq_some_iff.mp h).1
        simpa using this
      exact ⟨p, vs, List.getElem?_set_self hl, h0, hb, hp, hd⟩
    · rw [σne hne]
      exact R.sl j e h
  · rcases env_set h1 with ⟨rfl, rfl⟩ | ⟨n1, h1'⟩
    · rcases env_set h2 with ⟨rfl, rfl⟩ | ⟨n2, h2'⟩
      · rfl
      · exfalso
        have hl : j < σ.length := by
          rw [← R.len]
          have := (List.getElem?_eq_some_iff.mp h1).1
          simpa using this
        rw [List.getElem?_set_self hl] at s1
        cases s1
        rw [σne n2] at s2
        exact nw ⟨k, e', h2', o2, s2⟩
    · rcases env_set h2 with ⟨rfl, rfl⟩ | ⟨n2, h2'⟩
      · exfalso
        have hl : k < σ.length := by
          rw [← R.len]
          have := (List.getElem?_eq_some_iff.mp h2).1
          simpa using this
        rw [List.getElem?_set_self hl] at s2
        cases s2
        rw [σne n1] at s1
        exact nw ⟨j, e, h1', o1, s1⟩
      · rw [σne n1] at s1
        rw [σne n2] at s2
        exact R.sep j k q e e' h1' h2' o1 o2 s1 s2
end
end Pf
namespace Pf
open PySem PyProof.Rows L2 PySem.Spec
/-! ### new tuples, known by their object (which has no dict) -/
/-- Q of a new tuple of these -/
def NewT (H : Hp) (xs : List V) (Q : VK) : Prop := ∀ (p : Addr) (ob : Obj), H p = none → ob.dict = none → Q (.ref p) (upd H p (.frz ob (.tup xs)))
section
variable {X : Cx}
/-- what is known of it where it was laid -/
theorem obj_new {P : Program} {w : World} {H : Hp} {h : Heap} {xs : List V} {us : List Value} {n : Nat} (few : xs.length ≤ sizeLine) (r : Vals xs us) :
    ObjOk P w H (h.push { cls := .type "tuple", data := .seq us.toArray n }) h.objs.size (.frz { cls := .type "tuple", data := .seq us.toArray n } (.tup xs)) :=
  have e := Heap.get?_push_size h (o := { cls := .type "tuple", data := .seq us.toArray n }) rfl
  ⟨e, few, us, r, _, e, rfl, _, rfl⟩
theorem inv_new {pins : List (Addr × Obj)} {σ : L2.St} {H : Hp} {s : Shared} {xs : List V} {us : List Value} {Q : VK} {n t : Nat} (I : Inv X pins σ H s) (few : xs.length ≤ sizeLine) (r : Vals xs us) (q : NewT H xs Q) :
    ∃ x H', Inv X pins σ H' { s with heap := s.heap.push { cls := .type "tuple", data := .seq us.toArray n }, toks := t } ∧ RelV x (.ref s.heap.objs.size) ∧ Q x H' :=
  ⟨.ref s.heap.objs.size, _, I.laid (t' := t) (fun _ _ e => Heap.get?_push_of_some _ e) (Nat.le_refl _) (obj_new few r), rfl, q _ _ (I.hok.fresh (Nat.le_refl _)) rfl⟩
theorem pe_tupF {es : List Expr} {t : TA} {pos : Pos} {c : Nat} (h : PA X es t) : PE X (.Tuple es c pos) fun σ H Q => t σ H fun xs H1 => xs.length ≤ sizeLine ∧ NewT H1 xs Q := by
  constructor
  intro pins s σ H Q I hq
  refine wpAny_Tuple_spliced (thn (h.run pos pins s σ H _ I hq) fun us s1 h1 => ?_)
  obtain ⟨xs, H1, I1, r, few, q⟩ := h1
  exact ⟨by rw [← r.length]; exact few, inv_new I1 few r q⟩
theorem cr_tupF : CallR X (.type "tuple") fun vs H Q => ∃ p ys, vs = [.ref p] ∧ ((SqL X.K H p ys ∧ NewT H ys Q) ∨ (SqT X.K H p ys ∧ Q (.ref p) H)) := by
  intro _ st σ H given us Q inv rel told
  obtain ⟨p, ys, rfl, told⟩ := told
  obtain ⟨one, rfl, ru⟩ := vals1 rel
  cases ru
  rcases told with ⟨sq, q⟩ | ⟨sq, q⟩
  · obtain ⟨its, r', pl, few⟩ := inv.list sq
    have len := r'.length
    refine call_tuple_list pl.isList (fun h1 up => ?_) (by simp only [List.size_toArray]; omega)
    exact inv_new (inv.kept (t' := st.toks) up) few r' q
  · obtain ⟨its, _, pl, _⟩ := inv.tuple sq
    exact call_tuple_same pl ⟨V.ref p, H, inv, rfl, q⟩
theorem or_catF : OpR X (binaryOp .Add) fun x y H Q => ∃ a b xs ys, x = .ref a ∧ y = .ref b ∧ SqT X.K H a xs ∧ SqT X.K H b ys ∧ xs.length + ys.length ≤ sizeLine ∧
    (xs = [] → Q (.ref b) H) ∧ (xs ≠ [] → ys = [] → Q (.ref a) H) ∧ (xs ≠ [] → ys ≠ [] → NewT H (xs ++ ys) Q) := by
  intro _ st σ H x y v u Q inv rx ry told
  obtain ⟨a, b, xs, ys, rfl, rfl, sa, sb, few, q0, q1, q2⟩ := told
  cases rx
  cases ry
  obtain ⟨us, r1, p1, _⟩ := inv.tuple sa
  obtain ⟨ws, r2, p2, _⟩ := inv.tuple sb
  by_cases e : xs = []
  · subst e
    cases r1
    exact cat_tup0 p1 p2 ⟨V.ref b, H, inv, rfl, q0 rfl⟩
  · refine HT.cat_tup p1 p2 (fun z => e (r1.nil_iff.mp z)) (fun z => ⟨V.ref a, H, inv, rfl, q1 e (r2.nil_iff.mp z)⟩) (fun z => ?_) (by rw [← r1.length, ← r2.length]; exact few)
    exact inv_new inv (by rw [List.length_append]; exact few) (r1.append r2) (q2 e fun w => z (r2.nil_iff.mpr w))
theorem sl_tupF : SlR X fun x lo hi H Q => ∃ a xs, x = .ref a ∧ SqT X.K H a xs ∧ ¬ (HT.sIx xs.length 0 lo = 0 ∧ HT.sIx xs.length xs.length hi = xs.length) ∧ NewT H (cutV xs lo hi) Q := by
  intro _ st σ H x v vl vu lo hi sl Q inv rx hs pl pu told
  obtain ⟨a, xs, rfl, sa, part, q⟩ := told
  cases rx
  obtain ⟨us, r, ht, few⟩ := inv.tuple sa
  have len : us.toArray.size = xs.length := (List.size_toArray (as := us)).trans r.length.symm
  have at_ := PyProof.Rows.slot_tuple_getitem.lookup
  refine ⟨"tuple", _, at_, ht.typeIs, ?_⟩
  refine HT.getItem_tuple_cut ht hs pl pu (by rw [len]; exact part) ?_ (by rw [len]; exact few)
  rw [len]
  exact inv_new inv (Nat.le_trans (cutV_length xs lo hi) few) ((r.drop _).take _) q
end
end Pf
namespace Pf
open PySem PySem.Spec PyProof.Rows L2 GxR GenW Gx
/-! ### what a piece of the program makes of the slots -/
structure Exn where
  cls : Str
  fs : List (Str × D) := []
inductive Rs (α : Type) where
  | ok (a : α) (env : List Sl) | ex (x : Exn) | bad
def Rs.bind {α β : Type} (r : Rs α) (f : α → List Sl → Rs β) : Rs β :=
  match r with
  | .ok a e => f a e
  | .ex x => .ex x
  | .bad => .bad
def Rs.map {α β : Type} (r : Rs α) (f : α → β) : Rs β := r.bind fun a e => .ok (f a) e
/-- nothing may be raised here -/
def Rs.calm {α : Type} : Rs α → Rs α
  | .ok a e => .ok a e
  | .ex _ => .bad
  | .bad => .bad
def Rs.opt {α : Type} (o : Option α) (e : List Sl) : Rs α :=
  match o with
  | some a => .ok a e
  | none => .bad
/-- what is asked of an error that leaves -/
structure Xw where
  E : XK
  xc : Str → Option Value
def XOk (K : PySem.W.Frag) (S : Se) (M : Xw) (x : Exn) : Prop := ∃ C, M.xc x.cls = some C ∧
  (x.fs = [] → ∀ H', Old S.H0 H' → Tb S.T H' → M.E C none H') ∧
  (x.fs ≠ [] → ∀ H' B' d vs, Old S.H0 H' → Tb S.T H' → Same B' H' → H' d = some (.xd ((x.fs.map Prod.fst).zip vs)) → DqAll K B' vs (x.fs.map Prod.snd) → M.E C (some d) H')
def Xw.calm (M : Xw) : Xw := ⟨fun _ _ _ => False, M.xc⟩
def Post {α : Type} (K : PySem.W.Frag) (S : Se) (M : Xw) (σ : L2.St) (B H : Hp) (env : List Sl) (r : Rs α) (k : α → List Sl → Hp → Hp → Prop) : Prop :=
  match r with
  | .ok a e => ∀ B' H', Rel K S B' e σ H' → Ext env e σ B H B' H' → k a e B' H'
  | .ex x => XOk K S M x
  | .bad => False
section
variable {K : PySem.W.Frag} {S : Se} {M : Xw} {σ : L2.St} {B H : Hp} {env : List Sl} {α β : Type}
theorem Post.bind {r : Rs α} {f : α → List Sl → Rs β} {k : β → List Sl → Hp → Hp → Prop} (h : Post K S M σ B H env (r.bind f) k) :
    Post K S M σ B H env r fun a e B1 H1 => Post K S M σ B1 H1 e (f a e) k := by
  cases r with
  | bad => exact h
  | ex x => exact h
  | ok a e =>
    intro B1 H1 R1 X1
    have h' : Post K S M σ B H env (f a e) k := h
    revert h'
    cases f a e with
    | bad => exact fun h => h
    | ex x => exact fun h => h
    | ok b e2 => exact fun h B2 H2 R2 X2 => h B2 H2 R2 (X1.trans X2)
theorem Post.mono {r : Rs α} {k k' : α → List Sl → Hp → Hp → Prop} (h : Post K S M σ B H env r k)
    (m : ∀ a e B' H', Rel K S B' e σ H' → Ext env e σ B H B' H' → k a e B' H' → k' a e B' H') : Post K S M σ B H env r k' := by
  cases r with
  | bad => exact h
  | ex x => exact h
  | ok a e => exact fun B' H' R X => m a e B' H' R X (h B' H' R X)
theorem Post.ok {a : α} {k : α → List Sl → Hp → Hp → Prop} (h : Post K S M σ B H env (.ok a env) k) (R : Rel K S B env σ H) : k a env B H := h B H R Ext.refl
theorem Post.calm {r : Rs α} {k : α → List Sl → Hp → Hp → Prop} (h : Post K S M σ B H env r.calm k) : ∀ {M' : Xw}, Post K S M' σ B H env r k := by
  cases r with
  | bad => exact h
  | ex x => exact False.elim h
  | ok a e => exact h
end
/-! ### readings -/
def semE (K : PySem.W.Frag) (S : Se) (M : Xw) (f : List Sl → Rs D) : TE := fun σ H Q =>
  ∃ B env, Rel K S B env σ H ∧ Post K S M σ B H env (f env) fun d _ B' H' => ∀ v, Dq K B' v d → Q v H'
def semT (K : PySem.W.Frag) (S : Se) (M : Xw) (f : List Sl → Rs Bool) : TT := fun σ H Q =>
  ∃ B env, Rel K S B env σ H ∧ Post K S M σ B H env (f env) fun b _ B' H' => Q b H'
def semA (K : PySem.W.Frag) (S : Se) (M : Xw) (f : List Sl → Rs (List D)) : TA := fun σ H Q =>
  ∃ B env, Rel K S B env σ H ∧ Post K S M σ B H env (f env) fun ds _ B' H' => ∀ vs, DqAll K B' vs ds → Q vs H'
/-- a list that is new, and no one's -/
def Fresh (S : Se) (B : Hp) (env : List Sl) (σ : L2.St) (H : Hp) (p : Addr) (o : HO) : Prop := S.H0 p = none ∧ B p = none ∧ H p = some o ∧ ¬ OwnA env σ p
def semN (K : PySem.W.Frag) (S : Se) (M : Xw) (f : List Sl → Rs Ow) : TE := fun σ H Q =>
  ∃ B env, Rel K S B env σ H ∧ Post K S M σ B H env (f env) fun w e B' H' => ∀ p o, H p = none → Fresh S B' e σ H' p o → OwOk K B' o w → Q (.ref p) H'
/-- statements -/
inductive Ro where
  | nx (env : List Sl) | rt (d : D) | bk (env : List Sl) | ct (env : List Sl) | ex (x : Exn) | bad
def PostS (K : PySem.W.Frag) (S : Se) (M : Xw) (B : Hp) (r : Ro) (D0 : Ends) : Prop :=
  match r with
  | .nx e => ∀ B' H' σ', Rel K S B' e σ' H' → Same B B' → D0.nx σ' H'
  | .bk e => ∀ B' H' σ', Rel K S B' e σ' H' → Same B B' → D0.bk σ' H'
  | .ct e => ∀ B' H' σ', Rel K S B' e σ' H' → Same B B' → D0.ct σ' H'
  | .rt d => ∀ B' H' v, Rel K S B' [] [] H' → Same B B' → Dq K B' v d → D0.rt v H'
  | .ex x => XOk K S M x
  | .bad => False
def semS (K : PySem.W.Frag) (S : Se) (M : Xw) (f : List Sl → Ro) : TS := fun D0 σ H =>
  ∃ B env, Rel K S B env σ H ∧ PostS K S M B (f env) D0
structure PV (X : Cx) (S : Se) (M : Xw) (e : Expr) (f : List Sl → Rs D) : Prop where
  pe : PE X e (semE X.K S M f)
structure PN (X : Cx) (S : Se) (M : Xw) (e : Expr) (f : List Sl → Rs Ow) : Prop where
  pe : PE X e (semN X.K S M f)
structure PB (X : Cx) (S : Se) (M : Xw) (e : Expr) (f : List Sl → Rs Bool) : Prop where
  pt : PT X e (semT X.K S M f)
structure PAs (X : Cx) (S : Se) (M : Xw) (es : List Expr) (f : List Sl → Rs (List D)) : Prop where
  pa : PA X es (semA X.K S M f)
structure PX (X : Cx) (S : Se) (M : Xw) (st : Stmt) (f : List Sl → Ro) : Prop where
  ps : PS X st (semS X.K S M f)
structure PXs (X : Cx) (S : Se) (M : Xw) (st : List Stmt) (f : List Sl → Ro) : Prop where
  ps : PSs X st (semS X.K S M f)
section
variable {X : Cx} {S : Se} {M : Xw}
theorem peI {e : Expr} {t t' : TE} (h : PE X e t) (m : ∀ σ H Q, t' σ H Q → t σ H Q) : PE X e t' := ⟨fun p s σ H Q i q => h.run p s σ H Q i (m σ H Q q)⟩
theorem ptI {e : Expr} {t t' : TT} (h : PT X e t) (m : ∀ σ H Q, t' σ H Q → t σ H Q) : PT X e t' := ⟨fun p s σ H Q i q => h.run p s σ H Q i (m σ H Q q)⟩
theorem paI {e : List Expr} {t t' : TA} (h : PA X e t) (m : ∀ σ H Q, t' σ H Q → t σ H Q) : PA X e t' := ⟨fun o p s σ H Q i q => h.run o p s σ H Q i (m σ H Q q)⟩
theorem psI {e : Stmt} {t t' : TS} (h : PS X e t) (m : ∀ D σ H, t' D σ H → t D σ H) : PS X e t' := ⟨fun p s σ H D i q => h.run p s σ H D i (m D σ H q)⟩
theorem pssI {e : List Stmt} {t t' : TS} (h : PSs X e t) (m : ∀ D σ H, t' D σ H → t D σ H) : PSs X e t' := ⟨fun p s σ H D i q => h.run p s σ H D i (m D σ H q)⟩
/-! ### names, constants -/
/-- the datum of a slot; a list of one's own is one from here on -/
def rdN (i : Nat) (env : List Sl) : Rs D :=
  match env[i]? with
  | some (.im d) => .ok d env
  | some (.ow (.l xs)) => .ok (.lst xs) (env.set i (.im (.lst xs)))
  | _ => .bad
theorem pv_name {x : Str} {i : Nat} {pos : Pos} (hN : X.N[i]? = some x) (hv : Vis X.env.scope x) (h1 : (x == Str.ofString "__debug__") = false := by rfl) (h2 : (x == Str.ofString "__classdict__") = false := by rfl) :
    PV X S M (.Name x pos) (rdN i) := ⟨peI (pe_var hN hv h1 h2) (by
  rintro σ H Q ⟨B, env, R, P⟩
  unfold rdN at P
  split at P
  · rename_i d hd
    obtain ⟨v, e1, e2⟩ := R.sl i _ hd
    exact ⟨v, e1, P.ok R v e2⟩
  · rename_i xs hx
    obtain ⟨p, vs, e1, e2, e3, R', E'⟩ := R.freeze hx
    exact ⟨_, e1, P _ _ R' E' _ e3⟩
  · exact P.elim)⟩
theorem pv_const {e : Expr} {v : V} {d : D} (h : PE X e (tC v)) (hd : ∀ B, Dq X.K B v d) : PV X S M e (fun env => .ok d env) :=
  ⟨peI h (by rintro σ H Q ⟨B, env, R, P⟩; exact P.ok R v (hd B))⟩
theorem pv_int {i : Int} {j : Nat} {pos : Pos} : PV X S M (.Constant (.int i) j pos) (fun env => .ok (.int i) env) := pv_const pe_int fun _ => .int i
theorem pv_str {i : Str} {j : Nat} {pos : Pos} : PV X S M (.Constant (.str i) j pos) (fun env => .ok (.str i) env) := pv_const pe_str fun _ => .str i
theorem pv_bl {i : Bool} {j : Nat} {pos : Pos} : PV X S M (.Constant (.bool i) j pos) (fun env => .ok (.bl i) env) := pv_const pe_bl fun _ => .bl i
theorem pv_non {j : Nat} {pos : Pos} : PV X S M (.Constant .none j pos) (fun env => .ok .non env) := pv_const pe_non fun _ => .non
/-! ### operators -/
/-- from B, H on only new things -/
structure Grow (K : PySem.W.Frag) (S : Se) (B H B' H' : Hp) : Prop where
  old : Old H H'
  tab : Tb S.T H'
  same : Same B B'
  bh : Same B' H'
  nt : NoT B'
  new : ∀ a o, B' a = some o → B a = some o ∨ H a = none
theorem Grow.rel {B H B' H' : Hp} {env : List Sl} {σ : L2.St} (g : Grow X.K S B H B' H') (R : Rel X.K S B env σ H) : Rel X.K S B' env σ H' ∧ Ext env env σ B H B' H' :=
  R.step g.old g.tab g.same g.bh g.nt g.new
theorem Grow.refl {B H : Hp} (tab : Tb S.T H) (bh : Same B H) (nt : NoT B) : Grow X.K S B H B H := ⟨Old.refl H, tab, Same.refl B, bh, nt, fun _ _ h => .inl h⟩
theorem Grow.alloc {B H : Hp} {p : Addr} {o : HO} (tab : Tb S.T H) (bh : Same B H) (nt : NoT B) (hn : H p = none) (no : ∀ ps, o ≠ .tbl ps) : Grow X.K S B H (upd B p o) (upd H p o) := by
  have bn : B p = none := bh.free hn
  refine ⟨fun a u h => .inl (by rw [upd_ne (ne_of_none h hn)]; exact h), fun P hP => ?_, fun a u h => by rw [upd_ne (ne_of_none h bn)]; exact h, fun a u h => ?_, fun a ps h => ?_, fun a u h => ?_⟩
  · obtain ⟨ps, h1, h2⟩ := tab P hP
    exact ⟨ps, by rw [upd_ne (ne_of_none h1 hn)]; exact h1, h2⟩
  · by_cases z : a = p
    · subst z; rw [upd_same] at h ⊢; exact h
    · rw [upd_ne z] at h ⊢; exact bh a u h
  · by_cases z : a = p
    · subst z; rw [upd_same] at h; exact no ps (Option.some.inj h)
    · rw [upd_ne z] at h; exact nt a ps h
  · by_cases z : a = p
    · subst z; exact .inr hn
    · rw [upd_ne z] at h; exact .inl h
/-- a wish of a value d: for each value that is it, in a heap that has only grown -/
def Wish (K : PySem.W.Frag) (S : Se) (B H : Hp) (d : D) (Q : VK) : Prop := ∀ v B' H', Grow K S B H B' H' → Dq K B' v d → Q v H'
structure Sit (K : PySem.W.Frag) (S : Se) (B H : Hp) : Prop where
  tab : Tb S.T H
  bh : Same B H
  nt : NoT B
theorem Rel.sit {K : PySem.W.Frag} {B H : Hp} {env : List Sl} {σ : L2.St} (R : Rel K S B env σ H) : Sit K S B H := ⟨R.tab, R.bh, R.nt⟩
theorem Wish.now {B H : Hp} {d : D} {Q : VK} {v : V} (s : Sit X.K S B H) (w : Wish X.K S B H d Q) (h : Dq X.K B v d) : Q v H := w v B H (.refl s.tab s.bh s.nt) h
theorem Post.wish {B H : Hp} {d : D} {Q : VK} {env : List Sl} {σ : L2.St} (R : Rel X.K S B env σ H) (P : Post X.K S M σ B H env (.ok d env) fun d _ B' H' => ∀ v, Dq X.K B' v d → Q v H') : Wish X.K S B H d Q :=
  fun v B' H' g h => P B' H' (g.rel R).1 (g.rel R).2 v h
/-- an operator on values, as data -/
structure OpD (X : Cx) (S : Se) (op : Value → Value → Sem Value) (c : D → D → Option D) : Prop where
  ex : ∃ r, OpR X op r ∧ ∀ B H x y d e z Q, Sit X.K S B H → Dq X.K B x d → Dq X.K B y e → c d e = some z → Wish X.K S B H z Q → r x y H Q
def f2 (f g : List Sl → Rs D) (c : D → D → Option D) (env : List Sl) : Rs D :=
  (f env).bind fun d e => (g e).bind fun d2 e2 => .opt (c d d2) e2
theorem sem2 {r : R2} {f g : List Sl → Rs D} {c : D → D → Option D}
    (h : ∀ B H x y d e z Q, Sit X.K S B H → Dq X.K B x d → Dq X.K B y e → c d e = some z → Wish X.K S B H z Q → r x y H Q) :
    ∀ σ H Q, semE X.K S M (f2 f g c) σ H Q → tOp r (semE X.K S M f) (semE X.K S M g) σ H Q := by
  rintro σ H Q ⟨B, env, R, P⟩
  refine ⟨B, env, R, (Post.bind P).mono fun d e B1 H1 R1 X1 P1 x hx => ⟨B1, e, R1, (Post.bind P1).mono fun d2 e2 B2 H2 R2 X2 P2 y hy => ?_⟩⟩
  cases q : c d d2 with
  | none => rw [q] at P2; exact P2.elim
  | some z =>
    rw [q] at P2
    exact h B2 H2 x y d d2 z Q R2.sit (hx.mono X2.same) hy q (Post.wish R2 P2)
theorem pv_op {a b : Expr} {op : Operator} {pos : Pos} {f g : List Sl → Rs D} {c : D → D → Option D} (o : OpD X S (binaryOp op) c) (ha : PV X S M a f) (hb : PV X S M b g) :
    PV X S M (.BinOp a op b pos) (f2 f g c) := by
  obtain ⟨r, h1, h2⟩ := o.ex
  exact ⟨peI (pe_op h1 ha.pe hb.pe) (sem2 h2)⟩
theorem pv_cmp {a b : Expr} {op : CmpOp} {pos : Pos} {f g : List Sl → Rs D} {c : D → D → Option D} (o : OpD X S (compareOp op) c) (hm : behindInMarks op b = false) (ha : PV X S M a f) (hb : PV X S M b g) :
    PV X S M (.Compare a [op] [b] pos) (f2 f g c) := by
  obtain ⟨r, h1, h2⟩ := o.ex
  exact ⟨peI (pe_cmpR h1 ha.pe hb.pe hm) (sem2 h2)⟩
end
end Pf
namespace Pf
open PySem PySem.Spec PyProof.Rows L2 GxR GenW Gx
section
variable {X : Cx} {S : Se} {M : Xw}
/-! ### truth, tests -/
def D.asB : D → Option Bool
  | .bl b => some b
  | _ => none
theorem dq_bl {B : Hp} {v : V} {d : D} {b : Bool} (h : Dq X.K B v d) (e : d.asB = some b) : v = .bl b := by
  cases h <;> first | (cases e; rfl) | cases e
def fNot (f : List Sl → Rs D) (env : List Sl) : Rs D := (f env).bind fun d e => Rs.opt (d.asB.map fun b => .bl (!b)) e
theorem pv_not {a : Expr} {pos : Pos} {f : List Sl → Rs D} (ha : PV X S M a f) : PV X S M (.UnaryOp .Not a pos) (fNot f) := ⟨peI (pe_not ha.pe) (by
  rintro σ H Q ⟨B, env, R, P⟩
  refine ⟨B, env, R, (Post.bind P).mono fun d e B1 H1 R1 X1 P1 x hx => ?_⟩
  cases q : d.asB with
  | none => rw [q] at P1; exact P1.elim
  | some b =>
    rw [q] at P1
    exact ⟨b, dq_bl hx q, P1.ok R1 _ (.bl _)⟩)⟩
def fAnd (f g : List Sl → Rs D) (env : List Sl) : Rs D := (f env).bind fun d e => (Rs.opt d.asB e).bind fun b e => if b = true then g e else .ok (.bl false) e
def fOr (f g : List Sl → Rs D) (env : List Sl) : Rs D := (f env).bind fun d e => (Rs.opt d.asB e).bind fun b e => if b = true then .ok (.bl true) e else g e
theorem pv_one {a : Expr} {pos : Pos} {op : BoolOp} {f : List Sl → Rs D} (ha : PV X S M a f) : PV X S M (.BoolOp op [a] pos) f := ⟨pe_one ha.pe⟩
theorem pv_and {a b : Expr} {pos : Pos} {rest : List Expr} {f g : List Sl → Rs D} (ha : PV X S M a f) (hb : PV X S M (.BoolOp .And (b :: rest) pos) g) : PV X S M (.BoolOp .And (a :: b :: rest) pos) (fAnd f g) := ⟨peI (pe_and ha.pe hb.pe) (by
  rintro σ H Q ⟨B, env, R, P⟩
  refine ⟨B, env, R, (Post.bind P).mono fun d e B1 H1 R1 X1 P1 x hx => ?_⟩
  cases q : d.asB with
  | none => rw [q] at P1; exact P1.elim
  | some b =>
    rw [q] at P1
    refine ⟨b, dq_bl hx q, ?_⟩
    have P2 : Post X.K S M σ B1 H1 e (if b = true then g e else .ok (.bl false) e) _ := P1
    cases b with
    | true => exact ⟨B1, e, R1, P2⟩
    | false => exact P2.ok R1 _ (.bl _))⟩
/-- truth of a datum -/
def D.tru : D → Option Bool
  | .non => some false
  | .bl b => some b
  | .int i => some (i != 0)
  | .str y => if y.length ≤ sizeLine then some ((y.length : Int) != 0) else none
  | .lst xs => some !xs.isEmpty
  | .tup xs => some !xs.isEmpty
  | _ => none
theorem dqall_isEmpty {K : PySem.W.Frag} {B : Hp} {vs : List V} {ds : List D} (h : DqAll K B vs ds) : vs.isEmpty = ds.isEmpty := by
  cases h <;> rfl
theorem dq_tru {B H : Hp} {v : V} {d : D} {b : Bool} (bh : Same B H) (h : Dq X.K B v d) (e : d.tru = some b) : TruV X.K v H b := by
  cases h with
  | non => cases e; rfl
  | bl b => cases e; rfl
  | int i => cases e; rfl
  | str y =>
    rw [D.tru] at e
    split at e
    · rename_i hl
      cases e
      exact ⟨hl, rfl⟩
    · cases e
  | lst h1 h2 =>
    cases e
    exact .inl ⟨_, SqL.of (bh _ _ h1), by rw [dqall_isEmpty h2]⟩
  | tup h1 h2 =>
    cases e
    exact .inr (.inl ⟨_, same_tup bh h1, by rw [dqall_isEmpty h2]⟩)
  | scr _ => cases e
  | rng _ => cases e
def fTru (f : List Sl → Rs D) (env : List Sl) : Rs Bool := (f env).bind fun d e => Rs.opt d.tru e
theorem pb_tru {a : Expr} {f : List Sl → Rs D} (ha : PV X S M a f) (he : ∀ whole, PySem.isTrue a X.env whole = (do let v ← whole; standAt a.pos; holding [v] (truthy v)) := by intro _; rfl) : PB X S M a (fTru f) := ⟨ptI (pt_truth ha.pe he) (by
  rintro σ H Q ⟨B, env, R, P⟩
  refine ⟨B, env, R, (Post.bind P).mono fun d e B1 H1 R1 X1 P1 x hx => ?_⟩
  cases q : d.tru with
  | none => rw [q] at P1; exact P1.elim
  | some b =>
    rw [q] at P1
    exact ⟨b, dq_tru R1.bh hx q, P1.ok R1⟩)⟩
def fAsB (f : List Sl → Rs D) (env : List Sl) : Rs Bool := (f env).bind fun d e => Rs.opt d.asB e
theorem semT_of {t : TE} {f : List Sl → Rs D} (ht : ∀ σ H Q, semE X.K S M f σ H Q → t σ H Q) : ∀ σ H Q, semT X.K S M (fAsB f) σ H Q → tTest t σ H Q := by
  rintro σ H Q ⟨B, env, R, P⟩
  refine ht σ H _ ⟨B, env, R, (Post.bind P).mono fun d e B1 H1 R1 X1 P1 x hx => ?_⟩
  cases q : d.asB with
  | none => rw [q] at P1; exact P1.elim
  | some b =>
    rw [q] at P1
    exact ⟨b, dq_bl hx q, P1.ok R1⟩
theorem pb_cmp {a b : Expr} {op : CmpOp} {pos : Pos} {f g : List Sl → Rs D} {c : D → D → Option D} (o : OpD X S (compareOp op) c) (hm : behindInMarks op b = false) (ha : PV X S M a f) (hb : PV X S M b g) :
    PB X S M (.Compare a [op] [b] pos) (fAsB (f2 f g c)) := by
  obtain ⟨r, h1, h2⟩ := o.ex
  exact ⟨ptI (pt_cmpR h1 ha.pe hb.pe hm) (semT_of (sem2 h2))⟩
/-- a < b < c -/
def fChain (f g h : List Sl → Rs D) (c1 c2 : D → D → Option D) (env : List Sl) : Rs D :=
  (f env).bind fun d e => (g e).bind fun d2 e => (Rs.opt ((c1 d d2).bind D.asB) e).bind fun k e =>
    if k = true then (h e).bind fun d3 e => Rs.opt (c2 d2 d3) e else .ok (.bl false) e
theorem sem_chain {r r' : R2} {f g h : List Sl → Rs D} {c1 c2 : D → D → Option D}
    (h1 : ∀ B H x y d e z Q, Sit X.K S B H → Dq X.K B x d → Dq X.K B y e → c1 d e = some z → Wish X.K S B H z Q → r x y H Q)
    (h2 : ∀ B H x y d e z Q, Sit X.K S B H → Dq X.K B x d → Dq X.K B y e → c2 d e = some z → Wish X.K S B H z Q → r' x y H Q) :
    ∀ σ H Q, semE X.K S M (fChain f g h c1 c2) σ H Q → tChain r r' (semE X.K S M f) (semE X.K S M g) (semE X.K S M h) σ H Q := by
  rintro σ H Q ⟨B, env, R, P⟩
  refine ⟨B, env, R, (Post.bind P).mono fun d e B1 H1 R1 X1 P1 x hx => ⟨B1, e, R1, (Post.bind P1).mono fun d2 e2 B2 H2 R2 X2 P2 y hy => ?_⟩⟩
  cases q : c1 d d2 with
  | none => rw [q] at P2; exact P2.elim
  | some z =>
    cases q2 : z.asB with
    | none => rw [q, Option.bind_some, q2] at P2; exact P2.elim
    | some k =>
      rw [q, Option.bind_some, q2] at P2
      have P3 : Post X.K S M σ B2 H2 e2 (if k = true then (h e2).bind fun d3 e => Rs.opt (c2 d2 d3) e else .ok (.bl false) e2) _ := P2
      refine h1 B2 H2 x y d d2 z _ R2.sit (hx.mono X2.same) hy q fun v B3 H3 g3 hv => ⟨k, dq_bl hv q2, ?_⟩
      have R3 := (g3.rel R2).1
      have X3 := (g3.rel R2).2
      cases k with
      | false =>
        rw [if_neg (by simp)] at P3 ⊢
        exact P3 B3 H3 R3 X3 _ (.bl _)
      | true =>
        rw [if_pos rfl] at P3 ⊢
        have P4 : Post X.K S M σ B3 H3 e2 ((h e2).bind fun d3 e => Rs.opt (c2 d2 d3) e) (fun d _ B' H' => ∀ v, Dq X.K B' v d → Q v H') := by
          revert P3
          cases ((h e2).bind fun d3 e => Rs.opt (c2 d2 d3) e) with
          | bad => exact fun h => h
          | ex x => exact fun h => h
          | ok b e3 => exact fun h B4 H4 R4 X4 => h B4 H4 R4 (X3.trans X4)
        refine ⟨B3, e2, R3, (Post.bind P4).mono fun d3 e3 B4 H4 R4 X4 P5 w hw => ?_⟩
        cases q5 : c2 d2 d3 with
        | none => rw [q5] at P5; exact P5.elim
        | some z5 =>
          rw [q5] at P5
          exact h2 B4 H4 y w d2 d3 z5 Q R4.sit ((hy.mono g3.same).mono X4.same) hw q5 (Post.wish R4 P5)
theorem pv_chain {a b c : Expr} {op op' : CmpOp} {pos : Pos} {f g h : List Sl → Rs D} {c1 c2 : D → D → Option D} (o : OpD X S (compareOp op) c1) (o' : OpD X S (compareOp op') c2)
    (ha : PV X S M a f) (hb : PV X S M b g) (hc : PV X S M c h) (hl : lastMarks [op, op'] [b, c] = false := by rfl) :
    PV X S M (.Compare a [op, op'] [b, c] pos) (fChain f g h c1 c2) := by
  obtain ⟨r, h1, h2⟩ := o.ex
  obtain ⟨r', h1', h2'⟩ := o'.ex
  exact ⟨peI (pe_chain h1 h1' ha.pe hb.pe hc.pe hl) (sem_chain h2 h2')⟩
theorem pb_chain {a b c : Expr} {op op' : CmpOp} {pos : Pos} {f g h : List Sl → Rs D} {c1 c2 : D → D → Option D} (o : OpD X S (compareOp op) c1) (o' : OpD X S (compareOp op') c2)
    (ha : PV X S M a f) (hb : PV X S M b g) (hc : PV X S M c h) (hl : lastMarks [op, op'] [b, c] = false := by rfl) :
    PB X S M (.Compare a [op, op'] [b, c] pos) (fAsB (fChain f g h c1 c2)) := by
  obtain ⟨r, h1, h2⟩ := o.ex
  obtain ⟨r', h1', h2'⟩ := o'.ex
  exact ⟨ptI (pt_chain h1 h1' ha.pe hb.pe hc.pe hl) (semT_of (sem_chain h2 h2'))⟩
def bNot (f : List Sl → Rs Bool) (env : List Sl) : Rs Bool := (f env).bind fun b e => .ok (!b) e
theorem pb_not {a : Expr} {pos : Pos} {f : List Sl → Rs Bool} (ha : PB X S M a f) : PB X S M (.UnaryOp .Not a pos) (bNot f) := ⟨ptI (pt_not ha.pt) (by
  rintro σ H Q ⟨B, env, R, P⟩
  exact ⟨B, env, R, (Post.bind P).mono fun d e B1 H1 R1 X1 P1 => P1.ok R1⟩)⟩
structure PBw (X : Cx) (S : Se) (M : Xw) (e : Expr) (f : List Sl → Rs Bool) : Prop where
  pw : PW X e (semT X.K S M f)
theorem pwI {e : Expr} {t t' : TT} (h : PW X e t) (m : ∀ σ H Q, t' σ H Q → t σ H Q) : PW X e t' := ⟨fun w p s σ H Q i q => h.run w p s σ H Q i (m σ H Q q)⟩
theorem pb_bo {e : Expr} {f : List Sl → Rs Bool} (h : PBw X S M e f) : PB X S M e f := ⟨h.pw.pt⟩
theorem pw_a1 {a : Expr} {pos : Pos} {f : List Sl → Rs Bool} (ha : PB X S M a f) : PBw X S M (.BoolOp .And [a] pos) f := ⟨pw_and1 ha.pt⟩
theorem pw_o1 {a : Expr} {pos : Pos} {f : List Sl → Rs Bool} (ha : PB X S M a f) : PBw X S M (.BoolOp .Or [a] pos) f := ⟨pw_or1 ha.pt⟩
def bAnd (f g : List Sl → Rs Bool) (env : List Sl) : Rs Bool := (f env).bind fun b e => if b = true then g e else .ok false e
def bOr (f g : List Sl → Rs Bool) (env : List Sl) : Rs Bool := (f env).bind fun b e => if b = true then .ok true e else g e
theorem pw_a {a b : Expr} {pos : Pos} {rest : List Expr} {f g : List Sl → Rs Bool} (ha : PB X S M a f) (hb : PBw X S M (.BoolOp .And (b :: rest) pos) g) : PBw X S M (.BoolOp .And (a :: b :: rest) pos) (bAnd f g) := ⟨pwI (pw_and ha.pt hb.pw) (by
  rintro σ H Q ⟨B, env, R, P⟩
  refine ⟨B, env, R, (Post.bind P).mono fun c e B1 H1 R1 X1 P1 => ?_⟩
  cases c with
  | true => exact ⟨B1, e, R1, P1⟩
  | false => exact P1.ok R1)⟩
theorem pw_o {a b : Expr} {pos : Pos} {rest : List Expr} {f g : List Sl → Rs Bool} (ha : PB X S M a f) (hb : PBw X S M (.BoolOp .Or (b :: rest) pos) g) : PBw X S M (.BoolOp .Or (a :: b :: rest) pos) (bOr f g) := ⟨pwI (pw_or ha.pt hb.pw) (by
  rintro σ H Q ⟨B, env, R, P⟩
  refine ⟨B, env, R, (Post.bind P).mono fun c e B1 H1 R1 X1 P1 => ?_⟩
  cases c with
  | true => exact P1.ok R1
  | false => exact ⟨B1, e, R1, P1⟩)⟩
def fIf (c : List Sl → Rs Bool) (f g : List Sl → Rs D) (env : List Sl) : Rs D := (c env).bind fun b e => if b = true then f e else g e
theorem pv_if {c a b : Expr} {pos : Pos} {t : List Sl → Rs Bool} {f g : List Sl → Rs D} (hc : PB X S M c t) (ha : PV X S M a f) (hb : PV X S M b g) : PV X S M (.IfExp c a b pos) (fIf t f g) := ⟨peI (pe_ifExp hc.pt ha.pe hb.pe) (by
  rintro σ H Q ⟨B, env, R, P⟩
  refine ⟨B, env, R, (Post.bind P).mono fun c e B1 H1 R1 X1 P1 => ?_⟩
  cases c with
  | true => exact ⟨B1, e, R1, P1⟩
  | false => exact ⟨B1, e, R1, P1⟩)⟩
/-! ### arguments, displays -/
def fCons (f : List Sl → Rs D) (g : List Sl → Rs (List D)) (env : List Sl) : Rs (List D) := (f env).bind fun d e => (g e).bind fun ds e => .ok (d :: ds) e
theorem pas_nil : PAs X S M [] (fun env => .ok [] env) := ⟨paI pa_nil (by
  rintro σ H Q ⟨B, env, R, P⟩
  exact P.ok R [] .nil)⟩
theorem pas_cons {e : Expr} {es : List Expr} {f : List Sl → Rs D} {g : List Sl → Rs (List D)} (h : PV X S M e f) (hs : PAs X S M es g)
    (h1 : starEach (e :: es) X.env = (false, eval e X.env) :: starEach es X.env := by rfl) : PAs X S M (e :: es) (fCons f g) := ⟨paI (pa_cons h.pe hs.pa h1) (by
  rintro σ H Q ⟨B, env, R, P⟩
  refine ⟨B, env, R, (Post.bind P).mono fun d e B1 H1 R1 X1 P1 x hx => ⟨B1, e, R1, (Post.bind P1).mono fun ds e2 B2 H2 R2 X2 P2 xs hxs => ?_⟩⟩
  exact P2.ok R2 _ (.cons (hx.mono X2.same) hxs))⟩
def fTup (f : List Sl → Rs (List D)) (env : List Sl) : Rs D := (f env).bind fun ds e => if ds.length ≤ sizeLine then .ok (.tup ds) e else .bad
theorem pv_tup {es : List Expr} {pos : Pos} {x1 : Nat} {f : List Sl → Rs (List D)} (h : PAs X S M es f) : PV X S M (.Tuple es x1 pos) (fTup f) := ⟨peI (pe_tupF h.pa) (by
  rintro σ H Q ⟨B, env, R, P⟩
  refine ⟨B, env, R, (Post.bind P).mono fun ds e B1 H1 R1 X1 P1 xs hxs => ?_⟩
  split at P1
  · rename_i hl
    refine ⟨by rw [hxs.length]; exact hl, fun p ob hp hd => ?_⟩
    obtain ⟨R2, X2⟩ := R1.alloc (o := .frz ob (.tup xs)) hp (fun ps h => by cases h)
    exact P1 _ _ R2 X2 _ (.tup (SqU.new hd) (hxs.mono X2.same))
  · exact P1.elim)⟩
/-- a new list -/
def fLst (f : List Sl → Rs (List D)) (env : List Sl) : Rs Ow := (f env).bind fun ds e => if ds.length ≤ sizeLine then .ok (.l ds) e else .bad
theorem Fresh.new {B H : Hp} {env : List Sl} {σ : L2.St} {o : HO} {p : Addr} (R : Rel X.K S B env σ H) (hp : H p = none) : Rel X.K S B env σ (upd H p o) ∧ Ext env env σ B H B (upd H p o) ∧ Fresh S B env σ (upd H p o) p o := by
  obtain ⟨R2, X2⟩ := R.lay (o := o) hp
  refine ⟨R2, X2, R.old.none hp, R.bh.free hp, upd_same, fun ow => ?_⟩
  obtain ⟨_, _, o', w, h1, _⟩ := R.ownB ow
  rw [hp] at h1
  cases h1
theorem pn_lst {es : List Expr} {pos : Pos} {f : List Sl → Rs (List D)} (h : PAs X S M es f) : PN X S M (.List es pos) (fLst f) := ⟨peI (pe_lst h.pa) (by
  rintro σ H Q ⟨B, env, R, P⟩
  refine ⟨B, env, R, (Post.bind P).mono fun ds e B1 H1 R1 X1 P1 xs hxs => ?_⟩
  split at P1
  · rename_i hl
    refine ⟨by rw [hxs.length]; exact hl, fun p hp => ?_⟩
    obtain ⟨R2, X2, F⟩ := Fresh.new (o := .lst xs) R1 hp
    exact P1 _ _ R2 X2 p _ (X1.live p hp) F hxs
  · exact P1.elim)⟩
/-- a new list as a datum -/
def fFrz (f : List Sl → Rs Ow) (env : List Sl) : Rs D := (f env).bind fun w e => match w with | .l xs => .ok (.lst xs) e | .d _ => .bad
theorem Fresh.freeze {B H : Hp} {env : List Sl} {σ : L2.St} {vs : List V} {xs : List D} {p : Addr} (R : Rel X.K S B env σ H) (F : Fresh S B env σ H p (.lst vs)) (h : DqAll X.K B vs xs) :
    Rel X.K S (upd B p (.lst vs)) env σ H ∧ Same B (upd B p (.lst vs)) ∧ Dq X.K (upd B p (.lst vs)) (.ref p) (.lst xs) := by
  have sm : Same B (upd B p (.lst vs)) := fun a u h => by rw [upd_ne (ne_of_none h F.2.1)]; exact h
  exact ⟨R.keep F.1 F.2.1 F.2.2.1 (fun ps h => by cases h) F.2.2.2, sm, .lst upd_same (h.mono sm)⟩
theorem Post.frz {r : Rs Ow} {B H : Hp} {env : List Sl} {σ : L2.St} {Q : VK} (P : Post X.K S M σ B H env (r.bind fun w e => match w with | .l xs => .ok (.lst xs) e | .d _ => .bad) fun d _ B' H' => ∀ v, Dq X.K B' v d → Q v H') :
    Post X.K S M σ B H env r fun w e B' H' => ∀ p o, H p = none → Fresh S B' e σ H' p o → OwOk X.K B' o w → Q (.ref p) H' := by
  cases r with
  | bad => exact P
  | ex x => exact P
  | ok w e =>
    intro B1 H1 R1 X1 p o hn F ho
    cases w with
    | d ks => exact P.elim
    | l xs =>
      obtain ⟨vs, rfl, hd⟩ := ho.l
      obtain ⟨R2, sm, dq⟩ := F.freeze R1 hd
      refine P _ _ R2 ⟨X1.sub, X1.same.trans sm, fun a u h => ?_, X1.kept, X1.live⟩ _ dq
      by_cases z : a = p
      · subst z; exact .inr (.inl hn)
      · rw [upd_ne z] at h; exact X1.new a u h
theorem pv_of {e : Expr} {f : List Sl → Rs Ow} (h : PN X S M e f) : PV X S M e (fFrz f) := ⟨peI h.pe (by
  rintro σ H Q ⟨B, env, R, P⟩
  exact ⟨B, env, R, Post.frz P⟩)⟩
end
end Pf
namespace Pf
open PySem PySem.Spec PyProof.Rows L2 GxR GenW Gx
section
variable {X : Cx} {S : Se} {M : Xw}
/-! ### subscripts -/
theorem atI_dq {K : PySem.W.Frag} {B : Hp} {vs : List V} {ds : List D} (h : DqAll K B vs ds) {i : Int} {d : D} (e : atI ds i = some d) : ∃ v, atI vs i = some v ∧ Dq K B v d := by
  unfold atI at e ⊢
  rw [h.length]
  cases q : ixN ds.length i with
  | none => (rw [q] at e; cases e)
  | some j =>
    rw [q] at e
    exact h.get e
theorem atI_map {ns : List Int} {i n : Int} (e : atI ns i = some n) : atI (ns.map V.int) i = some (V.int n) := by
  unfold atI at e ⊢
  rw [List.length_map]
  cases q : ixN ns.length i with
  | none => (rw [q] at e; cases e)
  | some j =>
    rw [q] at e
    rw [Option.bind_some] at e ⊢
    rw [List.getElem?_map, e]
    rfl
/-- a datum at a place -/
def ixD : D → D → Option D
  | .lst xs, .int i => atI xs i
  | .tup xs, .int i => atI xs i
  | .scr ns, .int i => (atI ns i).map .int
  | .str z, .int i => if 0 ≤ i ∧ i < 2 ^ 63 ∧ i < z.length then (z.cps[i.toNat]?).map fun c => .str ⟨#[c]⟩ else none
  | _, _ => none
theorem peOr {e : Expr} {t t1 t2 : TE} (h1 : PE X e t1) (h2 : PE X e t2) (h : ∀ σ H Q, t σ H Q → t1 σ H Q ∨ t2 σ H Q) : PE X e t :=
  ⟨fun p s σ H Q i q => (h σ H Q q).elim (fun z => h1.run p s σ H Q i z) fun z => h2.run p s σ H Q i z⟩
theorem ixD_ref {B H : Hp} {x y : V} {d e z : D} {Q : VK} (s : Sit X.K S B H) (hx : Dq X.K B x d) (hy : Dq X.K B y e) (hc : ixD d e = some z) (ns : ∀ t, d ≠ .str t) (w : Wish X.K S B H z Q) :
    rIxL X.K x y H Q ∨ rIxT X.K x y H Q := by
  revert hc
  cases hx with
  | lst h1 h2 =>
    cases hy <;> intro hc <;> first | cases hc | skip
    obtain ⟨v, e1, e2⟩ := atI_dq h2 hc
    exact .inl ⟨_, _, _, v, rfl, rfl, SqL.of (s.bh _ _ h1), e1, w.now s e2⟩
  | tup h1 h2 =>
    cases hy <;> intro hc <;> first | cases hc | skip
    obtain ⟨v, e1, e2⟩ := atI_dq h2 hc
    exact .inr ⟨_, _, _, v, rfl, rfl, same_tup s.bh h1, e1, w.now s e2⟩
  | @scr a ks h1 =>
    cases hy <;> intro hc <;> first | cases hc | skip
    rename_i i
    have hc : (atI ks i).map D.int = some z := hc
    cases q : atI ks i with
    | none => rw [q] at hc; cases hc
    | some n =>
      rw [q] at hc
      cases hc
      exact .inl ⟨_, _, _, _, rfl, rfl, same_seqL s.bh h1, atI_map q, w.now s (.int n)⟩
  | str t => exact absurd rfl (ns t)
  | _ => intro hc; cases hy <;> cases hc
theorem opd_ix : ∃ r, IxR X r ∧ ∀ B H x y d e z Q, Sit X.K S B H → Dq X.K B x d → Dq X.K B y e → (match d with | .str _ => none | _ => ixD d e) = some z → Wish X.K S B H z Q → r x y H Q :=
  ⟨_, IxR.or ix_list ix_tup, fun B H x y d e z Q s hx hy hc w => ixD_ref s hx hy (d := d) (by cases d <;> first | exact hc | cases hc) (fun t h => by subst h; cases hc) w⟩
def fIx (f g : List Sl → Rs D) : List Sl → Rs D := f2 f g ixD
theorem pv_ix {a b : Expr} {pos : Pos} {f g : List Sl → Rs D} (ha : PV X S M a f) (hb : PV X S M b g) (h1 : PlainIx b := by exact fun _ _ => rfl) (h2 : PlainIxT b := by exact fun _ _ => rfl) :
    PV X S M (.Subscript a b pos) (fIx f g) := by
  obtain ⟨r, hr, hc⟩ := opd_ix (X := X) (S := S)
  refine ⟨peOr (pe_ix hr ha.pe hb.pe h1) (pe_item_str ha.pe hb.pe h2) fun σ H Q => ?_⟩
  rintro ⟨B, env, R, P⟩
  have key : ∀ (c : D → D → Option D), (∀ d e, f env = .ok d e → c d = ixD d) → Post X.K S M σ B H env (f2 f g c env) (fun d _ B' H' => ∀ v, Dq X.K B' v d → Q v H') := by
    intro c hcd
    have P' : Post X.K S M σ B H env (f2 f g ixD env) _ := P
    revert P'
    unfold f2
    cases q : f env with
    | bad => exact fun h => h
    | ex x => exact fun h => h
    | ok d e =>
      show Post X.K S M σ B H env ((g e).bind fun d2 e2 => .opt (ixD d d2) e2) _ → Post X.K S M σ B H env ((g e).bind fun d2 e2 => .opt (c d d2) e2) _
      rw [hcd d e q]
      exact fun h => h
  by_cases hs : ∃ t e, f env = .ok (.str t) e
  · right
    obtain ⟨t, e, hs⟩ := hs
    refine sem2 (c := fun d e => match d with | .str _ => ixD d e | _ => none) (fun B H x y d e z Q s hx hy hc w => ?_) σ H Q ⟨B, env, R, key _ fun d e' h => ?_⟩
    · cases hx <;> first | cases hc | skip
      rename_i t
      cases hy <;> first | cases hc | skip
      rename_i i
      have hc : (if 0 ≤ i ∧ i < 2 ^ 63 ∧ i < t.length then (t.cps[i.toNat]?).map fun c => D.str ⟨#[c]⟩ else none) = some z := hc
      split at hc
      · rename_i hi
        cases q : t.cps[i.toNat]? with
        | none => rw [q] at hc; cases hc
        | some c =>
          rw [q] at hc
          cases hc
          exact ⟨t, i, c, rfl, rfl, hi.1, hi.2.1, hi.2.2, q, w.now s (.str _)⟩
      · cases hc
    · rw [hs] at h
      cases h
      rfl
  · left
    refine sem2 (c := fun d e => match d with | .str _ => none | _ => ixD d e) hc σ H Q ⟨B, env, R, key _ fun d e' h => ?_⟩
    cases d with
    | str t => exact absurd ⟨t, e', h⟩ hs
    | _ => rfl
/-- what a slot holds, while it stays one's own -/
def pkN (i : Nat) (env : List Sl) : Bool :=
  match env[i]? with
  | some (.im _) => true
  | some (.ow _) => true
  | _ => false
theorem pkN_v {B H : Hp} {env : List Sl} {σ : L2.St} {i : Nat} (R : Rel X.K S B env σ H) (h : pkN i env = true) : ∃ v, σ[i]? = some (some v) := by
  unfold pkN at h
  split at h
  · rename_i d hd
    obtain ⟨v, e1, _⟩ := R.sl i _ hd
    exact ⟨v, e1⟩
  · rename_i w hd
    obtain ⟨p, o, e1, _⟩ := R.sl i _ hd
    exact ⟨_, e1⟩
  · cases h
/-- an item of a list in a slot -/
def fIxN (i : Nat) (g : List Sl → Rs D) (env : List Sl) : Rs D :=
  if pkN i env = true then (g env).bind fun k e => match e[i]? with
    | some (.im (.lst xs)) => Rs.opt (ixD (.lst xs) k) e
    | some (.im (.tup xs)) => Rs.opt (ixD (.tup xs) k) e
    | some (.im (.scr xs)) => Rs.opt (ixD (.scr xs) k) e
    | some (.ow (.l xs)) => Rs.opt (ixD (.lst xs) k) e
    | _ => .bad
  else .bad
theorem pv_ixN {x : Str} {i : Nat} {b : Expr} {pos p1 : Pos} {g : List Sl → Rs D} (hN : X.N[i]? = some x) (hv : Vis X.env.scope x) (hb : PV X S M b g) (h1 : PlainIx b := by exact fun _ _ => rfl)
    (hd1 : (x == Str.ofString "__debug__") = false := by rfl) (hd2 : (x == Str.ofString "__classdict__") = false := by rfl) :
    PV X S M (.Subscript (.Name x p1) b pos) (fIxN i g) := ⟨peI (pe_ix (IxR.or ix_list ix_tup) (pe_var hN hv hd1 hd2) hb.pe h1) (by
  rintro σ H Q ⟨B, env, R, P⟩
  unfold fIxN at P
  split at P
  · rename_i hk
    obtain ⟨v, hv⟩ := pkN_v R hk
    refine ⟨v, hv, B, env, R, (Post.bind P).mono fun k e B1 H1 R1 X1 P1 y hy => ?_⟩
    have fin : ∀ d, (∀ t, d ≠ .str t) → Dq X.K B1 v d → Post X.K S M σ B1 H1 e (Rs.opt (ixD d k) e) (fun d _ B' H' => ∀ v, Dq X.K B' v d → Q v H') → rIxL X.K v y H1 Q ∨ rIxT X.K v y H1 Q := by
      intro d ns hd P2
      cases q : ixD d k with
      | none => rw [q] at P2; exact P2.elim
      | some z =>
        rw [q] at P2
        exact ixD_ref R1.sit hd hy q ns (Post.wish R1 P2)
    split at P1
    · rename_i xs hx
      obtain ⟨v', e1, e2⟩ := R1.sl i _ hx
      rw [hv] at e1; cases e1
      exact fin _ (fun t h => by cases h) e2 P1
    · rename_i xs hx
      obtain ⟨v', e1, e2⟩ := R1.sl i _ hx
      rw [hv] at e1; cases e1
      exact fin _ (fun t h => by cases h) e2 P1
    · rename_i xs hx
      obtain ⟨v', e1, e2⟩ := R1.sl i _ hx
      rw [hv] at e1; cases e1
      exact fin _ (fun t h => by cases h) e2 P1
    · rename_i xs hx
      obtain ⟨p, o, e1, _, _, e4, e5⟩ := R1.sl i _ hx
      rw [hv] at e1; cases e1
      obtain ⟨vs, rfl, e5⟩ := e5.l
      cases q : ixD (.lst xs) k with
      | none => rw [q] at P1; exact P1.elim
      | some z =>
        rw [q] at P1
        cases hy <;> first | cases q | skip
        obtain ⟨u, e6, e7⟩ := atI_dq e5 q
        exact .inl ⟨_, _, _, u, rfl, rfl, SqL.of e4, e6, P1.ok R1 u e7⟩
    · exact P1.elim
  · exact P.elim)⟩
/-! ### slices -/
def cutD (xs : List D) (lo hi : Option Int) : List D :=
  (xs.drop (HT.sIx xs.length 0 lo)).take (HT.sIx xs.length xs.length hi - HT.sIx xs.length 0 lo)
theorem cut_dq {K : PySem.W.Frag} {B : Hp} {vs : List V} {ds : List D} (h : DqAll K B vs ds) (lo hi : Option Int) : DqAll K B (cutV vs lo hi) (cutD ds lo hi) := by
  unfold cutV cutD
  rw [h.length]
  exact (h.drop _).take _
structure PQ (X : Cx) (S : Se) (M : Xw) (o : Option Expr) (f : List Sl → Rs (Option Int)) : Prop where
  po : PO X o fun σ H Q => ∃ B env, Rel X.K S B env σ H ∧ Post X.K S M σ B H env (f env) fun b _ B' H' => Q b H'
theorem poI {o : Option Expr} {t t' : TO} (h : PO X o t) (m : ∀ σ H Q, t' σ H Q → t σ H Q) : PO X o t' := ⟨fun p s σ H Q i q => h.run p s σ H Q i (m σ H Q q)⟩
theorem pq_no : PQ X S M none (fun env => .ok none env) := ⟨poI po_none (by rintro σ H Q ⟨B, env, R, P⟩; exact P.ok R)⟩
def fPart (f : List Sl → Rs D) (env : List Sl) : Rs (Option Int) := (f env).bind fun d e => match d with | .int i => .ok (some i) e | _ => .bad
theorem pq_yes {e : Expr} {f : List Sl → Rs D} (h : PV X S M e f) : PQ X S M (some e) (fPart f) := ⟨poI (po_some h.pe) (by
  rintro σ H Q ⟨B, env, R, P⟩
  refine ⟨B, env, R, (Post.bind P).mono fun d e B1 H1 R1 X1 P1 x hx => ?_⟩
  cases hx <;> first | exact P1.elim | skip
  exact ⟨_, rfl, P1.ok R1⟩)⟩
theorem cutD_whole {xs : List D} {lo hi : Option Int} (h : HT.sIx xs.length 0 lo = 0 ∧ HT.sIx xs.length xs.length hi = xs.length) : cutD xs lo hi = xs := by
  unfold cutD
  rw [h.1, h.2, List.drop_zero, Nat.sub_zero, List.take_length]
def slD (lo hi : Option Int) : D → Option D
  | .lst xs => some (.lst (cutD xs lo hi))
  | .scr ns => some (.lst (cutD (ns.map .int) lo hi))
  | .tup xs => some (.tup (cutD xs lo hi))
  | _ => none
def fSl (f : List Sl → Rs D) (l h : List Sl → Rs (Option Int)) (env : List Sl) : Rs D :=
  (f env).bind fun d e => (l e).bind fun lo e => (h e).bind fun hi e => Rs.opt (slD lo hi d) e
theorem pv_sl {a : Expr} {lo hi : Option Expr} {pos p2 : Pos} {f : List Sl → Rs D} {l h : List Sl → Rs (Option Int)} (ha : PV X S M a f) (hl : PQ X S M lo l) (hh : PQ X S M hi h) :
    PV X S M (.Subscript a (.Slice lo hi none p2) pos) (fSl f l h) := ⟨peI (pe_slice (SlR.or (SlR.or sl_list sl_tupF) sl_tupA) ha.pe hl.po hh.po) (by
  rintro σ H Q ⟨B, env, R, P⟩
  refine ⟨B, env, R, (Post.bind P).mono fun d e B1 H1 R1 X1 P1 x hx => ⟨B1, e, R1, (Post.bind P1).mono fun lo e2 B2 H2 R2 X2 P2 => ⟨B2, e2, R2, (Post.bind P2).mono fun hi e3 B3 H3 R3 X3 P3 => ?_⟩⟩⟩
  have hx := (hx.mono X2.same).mono X3.same
  cases hx <;> first | exact P3.elim | skip
  · rename_i vs ds h1 h2
    refine .inl (.inl ⟨_, vs, rfl, SqL.of (R3.bh _ _ h1), fun p hp => ?_⟩)
    obtain ⟨R4, X4⟩ := R3.alloc (o := .lst (cutV vs lo hi)) hp (fun ps h => by cases h)
    exact P3 _ _ R4 X4 _ (.lst upd_same ((cut_dq h2 lo hi).mono X4.same))
  · rename_i vs ds h1 h2
    have P3 : Post X.K S M σ B3 H3 e3 (Rs.opt (some (D.tup (cutD ds lo hi))) e3) _ := P3
    by_cases hn : HT.sIx ds.length 0 lo = 0 ∧ HT.sIx ds.length ds.length hi = ds.length
    · refine .inr ⟨_, vs, rfl, same_tup R3.bh h1, fun _ => ?_, fun k => absurd (by rw [h2.length]; exact hn) k⟩
      rw [cutD_whole hn] at P3
      exact P3.ok R3 _ (.tup h1 h2)
    · refine .inl (.inr ⟨_, vs, rfl, same_tup R3.bh h1, by rw [h2.length]; exact hn, fun p ob hp hd => ?_⟩)
      obtain ⟨R4, X4⟩ := R3.alloc (o := .frz ob (.tup (cutV vs lo hi))) hp (fun ps h => by cases h)
      exact P3 _ _ R4 X4 _ (.tup (SqU.new hd) ((cut_dq h2 lo hi).mono X4.same))
  · rename_i ns h1
    refine .inl (.inl ⟨_, ns.map V.int, rfl, same_seqL R3.bh h1, fun p hp => ?_⟩)
    obtain ⟨R4, X4⟩ := R3.alloc (o := .lst (cutV (ns.map V.int) lo hi)) hp (fun ps h => by cases h)
    exact P3 _ _ R4 X4 _ (.lst upd_same ((cut_dq (DqAll.ints ns) lo hi).mono X4.same)))⟩
/-! ### targets -/
/-- but for the slots of L nothing has changed -/
def Off (L : List Nat) (σ σ' : L2.St) : Prop := σ'.length = σ.length ∧ ∀ j, j ∉ L → σ'[j]? = σ[j]?
theorem Off.refl {L : List Nat} {σ : L2.St} : Off L σ σ := ⟨rfl, fun _ _ => rfl⟩
theorem Off.trans {L L' : List Nat} {σ σ1 σ2 : L2.St} (a : Off L σ σ1) (b : Off L' σ1 σ2) : Off (L ++ L') σ σ2 :=
  ⟨b.1.trans a.1, fun j h => by rw [b.2 j (fun z => h (List.mem_append.mpr (.inr z))), a.2 j (fun z => h (List.mem_append.mpr (.inl z)))]⟩
theorem Off.set {i : Nat} {σ : L2.St} {x : Option V} : Off [i] σ (σ.set i x) :=
  ⟨by rw [List.length_set], fun j h => by rw [List.getElem?_set_ne (fun z => h (by rw [z]; exact List.mem_singleton.mpr rfl))]⟩
theorem wipe_len (σ : L2.St) : ∀ L : List Nat, (wipe σ L).length = σ.length
  | [] => rfl
  | i :: L => by rw [show wipe σ (i :: L) = (wipe σ L).set i none from rfl, List.length_set, wipe_len σ L]
theorem wipe_out (σ : L2.St) : ∀ (L : List Nat) (j : Nat), j ∉ L → (wipe σ L)[j]? = σ[j]?
  | [], j, _ => rfl
  | i :: L, j, h => by
    rw [show wipe σ (i :: L) = (wipe σ L).set i none from rfl, List.getElem?_set_ne (fun z => h (by rw [z]; exact List.mem_cons_self)), wipe_out σ L j (fun z => h (List.mem_cons_of_mem _ z))]
theorem wipe_in (σ : L2.St) : ∀ (L : List Nat) (j : Nat), j ∈ L → j < σ.length → (wipe σ L)[j]? = some none
  | i :: L, j, h, hl => by
    rw [show wipe σ (i :: L) = (wipe σ L).set i none from rfl]
    by_cases z : i = j
    · subst z
      rw [List.getElem?_set_self (by rw [wipe_len]; exact hl)]
    · rw [List.getElem?_set_ne z]
      exact wipe_in σ L j ((List.mem_cons.mp h).resolve_left (fun y => z y.symm)) hl
theorem wipe_off {σ σ2 : L2.St} {L vs : List Nat} (h : Off L (wipe σ vs) σ2) (hs : ∀ i ∈ L, i ∈ vs) : wipe σ2 vs = wipe σ vs := by
  apply List.ext_getElem?
  intro j
  have hl : σ2.length = σ.length := by rw [h.1, wipe_len]
  by_cases hj : j ∈ vs
  · by_cases hb : j < σ.length
    · rw [wipe_in _ _ _ hj (by rw [hl]; exact hb), wipe_in _ _ _ hj hb]
    · rw [List.getElem?_eq_none (by rw [wipe_len, hl]; omega), List.getElem?_eq_none (by rw [wipe_len]; omega)]
  · rw [wipe_out _ _ _ hj, h.2 j (fun z => hj (hs j z))]
structure PTg (X : Cx) (S : Se) (tg : Expr) (g : D → List Sl → Option (List Sl)) (L : List Nat) : Prop where
  pg : PG X tg fun v σ H Q => ∃ B env d e, Rel X.K S B env σ H ∧ Dq X.K B v d ∧ g d env = some e ∧ ∀ σ', Rel X.K S B e σ' H → (∀ a, OwnA e σ' a → OwnA env σ a) → Off L σ σ' → Q σ' H
structure PTgs (X : Cx) (S : Se) (tg : List Expr) (g : List D → List Sl → Option (List Sl)) (L : List Nat) : Prop where
  pgs : PGs X tg fun vs σ H Q => ∃ B env ds e, Rel X.K S B env σ H ∧ DqAll X.K B vs ds ∧ g ds env = some e ∧ ∀ σ', Rel X.K S B e σ' H → (∀ a, OwnA e σ' a → OwnA env σ a) → Off L σ σ' → Q σ' H
theorem pgI {e : Expr} {t t' : TG} (h : PG X e t) (m : ∀ v σ H Q, t' v σ H Q → t v σ H Q) : PG X e t' := ⟨fun p s σ H v u Q i r q => h.run p s σ H v u Q i r (m _ σ H Q q)⟩
def gNm (i : Nat) (d : D) (env : List Sl) : Option (List Sl) := some (env.set i (.im d))
theorem ownA_set {env : List Sl} {σ : L2.St} {i : Nat} {d : D} {v : V} {a : Addr} (h : OwnA (env.set i (.im d)) (σ.set i (some v)) a) : OwnA env σ a := by
  obtain ⟨j, e, h1, h2, h3⟩ := h
  rcases env_set h1 with ⟨rfl, rfl⟩ | ⟨hne, h1⟩
  · cases h2
  · rw [List.getElem?_set_ne (Ne.symm hne)] at h3
    exact ⟨j, e, h1, h2, h3⟩
theorem ptg_name {x : Str} {i : Nat} {pos : Pos} (hN : X.N.Nodup) (hi : X.N[i]? = some x) (hx : L2.Loc X.env.scope x)
    (hf : X.fn x = true ∨ X.env.scope.names.lookup x = some .local := by exact .inl rfl) : PTg X S (.Name x pos) (gNm i) [i] := ⟨pgI (pg_name hN hi hx hf) (by
  rintro v σ H Q ⟨B, env, d, e, R, hd, he, k⟩
  cases he
  exact k _ (R.setIm i hd) (fun a h => ownA_set h) Off.set)⟩
def gsC (g : D → List Sl → Option (List Sl)) (h : List D → List Sl → Option (List Sl)) : List D → List Sl → Option (List Sl)
  | d :: ds, env => (g d env).bind fun e => h ds e
  | [], _ => none
def gsN : List D → List Sl → Option (List Sl)
  | [], env => some env
  | _ :: _, _ => none
theorem ptgs_nil : PTgs X S [] gsN [] := ⟨⟨fun p s σ H vs us Q i r q => by
  obtain ⟨B, env, ds, e, R, hd, he, k⟩ := q
  refine (pgs_nil (X := X)).run p s σ H vs us Q i r ?_
  cases hd with
  | nil => cases he; exact ⟨rfl, k _ R (fun _ h => h) Off.refl⟩
  | cons _ _ => cases he⟩⟩
theorem ptgs_cons {t : Expr} {ts : List Expr} {g : D → List Sl → Option (List Sl)} {h : List D → List Sl → Option (List Sl)} {L L' : List Nat} (hg : PTg X S t g L) (hh : PTgs X S ts h L')
    (h1 : (assignEach (t :: ts) X.env).map (·.2) = assign t X.env :: (assignEach ts X.env).map (·.2) := by rfl) : PTgs X S (t :: ts) (gsC g h) (L ++ L') := ⟨⟨fun p s σ H vs us Q i r q => by
  refine (pgs_cons hg.pg hh.pgs h1).run p s σ H vs us Q i r ?_
  obtain ⟨B, env, ds, e, R, hd, he, k⟩ := q
  cases hd with
  | nil => cases he
  | @cons v vs d ds hd1 hd2 =>
    have he : (g d env).bind (fun e => h ds e) = some e := he
    cases q : g d env with
    | none => rw [q] at he; cases he
    | some e1 =>
      rw [q] at he
      exact ⟨v, vs, rfl, B, env, d, e1, R, hd1, q, fun σ1 R1 o1 f1 => ⟨B, e1, ds, e, R1, hd2, he, fun σ2 R2 o2 f2 => k σ2 R2 (fun a h => o1 a (o2 a h)) (f1.trans f2)⟩⟩⟩⟩
def gTu (n : Nat) (h : List D → List Sl → Option (List Sl)) : D → List Sl → Option (List Sl)
  | .tup ds, env => if ds.length = n then h ds env else none
  | _, _ => none
theorem ptg_tup {es : List Expr} {pos : Pos} {k n : Nat} {h : List D → List Sl → Option (List Sl)} {L : List Nat} (hc : X.calm = true) (hh : PTgs X S es h L)
    (h1 : (assignEach es X.env).length = n := by rfl) (h2 : (assignEach es X.env).findIdx? (·.1) = none := by rfl) : PTg X S (.Tuple es k pos) (gTu n h) L := ⟨pgI (pg_tup hc hh.pgs h1 h2) (by
  rintro v σ H Q ⟨B, env, d, e, R, hd, he, k⟩
  cases hd <;> first | cases he | skip
  rename_i vs ds a1 a2
  have he : (if ds.length = n then h ds env else none) = some e := he
  split at he
  · rename_i hn
    exact ⟨_, vs, rfl, same_tup R.bh a1, by rw [a2.length]; exact hn, B, env, ds, e, R, a2, he, k⟩
  · cases he)⟩
end
end Pf
namespace Pf
open PySem PySem.Spec PyProof.Rows L2 GxR GenW Gx
def Rs.ro {α : Type} (r : Rs α) (k : α → List Sl → Ro) : Ro :=
  match r with
  | .ok a e => k a e
  | .ex x => .ex x
  | .bad => .bad
def Ro.seq (r : Ro) (g : List Sl → Ro) : Ro :=
  match r with
  | .nx e => g e
  | r => r
section
variable {X : Cx} {S : Se} {M : Xw}
theorem PostS.mono {B B1 : Hp} {r : Ro} {D0 : Ends} (h : PostS X.K S M B r D0) (sm : Same B B1) : PostS X.K S M B1 r D0 := by
  cases r with
  | nx e => exact fun B' H' σ' R s => h B' H' σ' R (sm.trans s)
  | bk e => exact fun B' H' σ' R s => h B' H' σ' R (sm.trans s)
  | ct e => exact fun B' H' σ' R s => h B' H' σ' R (sm.trans s)
  | rt d => exact fun B' H' v R s => h B' H' v R (sm.trans s)
  | ex x => exact h
  | bad => exact h
theorem PostS.of {α : Type} {σ : L2.St} {B H : Hp} {env : List Sl} {r : Rs α} {k : α → List Sl → Ro} {D0 : Ends} (h : PostS X.K S M B (r.ro k) D0) :
    Post X.K S M σ B H env r fun a e B1 _ => PostS X.K S M B1 (k a e) D0 := by
  cases r with
  | ok a e => exact fun B1 H1 R1 X1 => PostS.mono h X1.same
  | ex x => exact h
  | bad => exact h
theorem PostS.seq {B : Hp} {r : Ro} {g : List Sl → Ro} {D0 : Ends} (h : PostS X.K S M B (r.seq g) D0) :
    PostS X.K S M B r { nx := semS X.K S M g D0, rt := D0.rt, bk := D0.bk, ct := D0.ct } := by
  cases r with
  | nx e => exact fun B' H' σ' R s => ⟨B', e, R, PostS.mono h s⟩
  | bk e => exact h
  | ct e => exact h
  | rt d => exact h
  | ex x => exact h
  | bad => exact h
theorem PostS.imp {B : Hp} {r : Ro} {D0 D1 : Ends} (h : PostS X.K S M B r D0) (h1 : ∀ σ H, D0.nx σ H → D1.nx σ H) (h2 : ∀ v H, D0.rt v H → D1.rt v H) (h3 : ∀ σ H, D0.bk σ H → D1.bk σ H) (h4 : ∀ σ H, D0.ct σ H → D1.ct σ H) :
    PostS X.K S M B r D1 := by
  cases r with
  | nx e => exact fun B' H' σ' R s => h1 _ _ (h B' H' σ' R s)
  | bk e => exact fun B' H' σ' R s => h3 _ _ (h B' H' σ' R s)
  | ct e => exact fun B' H' σ' R s => h4 _ _ (h B' H' σ' R s)
  | rt d => exact fun B' H' v R s q => h2 _ _ (h B' H' v R s q)
  | ex x => exact h
  | bad => exact h
theorem Rel.bare {K : PySem.W.Frag} {B H : Hp} {env : List Sl} {σ : L2.St} (R : Rel K S B env σ H) : Rel K S B [] [] H :=
  ⟨R.old, R.tab, R.b0, R.bh, R.nt, R.new, rfl, fun i e h => by simp at h, fun i j p e e' h => by simp at h⟩
/-! ### blocks -/
theorem pxs_nil : PXs X S M [] .nx := ⟨pssI pss_nil (by rintro D0 σ H ⟨B, env, R, P⟩; exact P B H σ R (Same.refl B))⟩
theorem pxs_cons {st : Stmt} {rest : List Stmt} {f g : List Sl → Ro} (h : PX X S M st f) (hs : PXs X S M rest g) : PXs X S M (st :: rest) (fun env => (f env).seq g) :=
  ⟨pssI (pss_cons h.ps hs.ps) (by rintro D0 σ H ⟨B, env, R, P⟩; exact ⟨B, env, R, PostS.seq P⟩)⟩
theorem pxs_one {st : Stmt} {f : List Sl → Ro} (h : PX X S M st f) : PXs X S M [st] f := ⟨pss_one h.ps⟩
theorem px_ret {e : Expr} {pos : Pos} {f : List Sl → Rs D} (h : PV X S M e f) : PX X S M (.Return (some e) pos) (fun env => (f env).ro fun d _ => .rt d) := ⟨psI (ps_ret h.pe) (by
  rintro D0 σ H ⟨B, env, R, P⟩
  exact ⟨B, env, R, (PostS.of P).mono fun d e B1 H1 R1 X1 P1 v hv => P1 B1 H1 v R1.bare (Same.refl _) hv⟩)⟩
theorem px_expr {e : Expr} {pos : Pos} {f : List Sl → Rs D} (h : PV X S M e f) (hs : swapsWith e none pos.line X.env = pure false := by rfl) : PX X S M (.Expr e pos) (fun env => (f env).ro fun _ e => .nx e) := ⟨psI (ps_expr h.pe hs) (by
  rintro D0 σ H ⟨B, env, R, P⟩
  exact ⟨B, env, R, (PostS.of P).mono fun d e B1 H1 R1 X1 P1 v hv => P1 B1 H1 σ R1 (Same.refl _)⟩)⟩
theorem px_if {c : Expr} {a b : List Stmt} {pos : Pos} {t : List Sl → Rs Bool} {f g : List Sl → Ro} (hc : PB X S M c t) (ha : PXs X S M a f) (hb : PXs X S M b g) :
    PX X S M (.If c a b pos) (fun env => (t env).ro fun k e => if k = true then f e else g e) := ⟨psI (ps_if hc.pt ha.ps hb.ps) (by
  rintro D0 σ H ⟨B, env, R, P⟩
  refine ⟨B, env, R, (PostS.of P).mono fun k e B1 H1 R1 X1 P1 => ?_⟩
  cases k with
  | true => exact ⟨B1, e, R1, P1⟩
  | false => exact ⟨B1, e, R1, P1⟩)⟩
/-- x = e, a datum -/
theorem px_set {x : Str} {i : Nat} {e : Expr} {pos pos' : Pos} {f : List Sl → Rs D} (hN : X.N.Nodup) (hi : X.N[i]? = some x) (hx : L2.Loc X.env.scope x) (h : PV X S M e f)
    (hs : swapsWith e (some (.Name x pos')) pos.line X.env = pure false := by rfl) (hf : X.fn x = true ∨ X.env.scope.names.lookup x = some .local := by exact .inl rfl) :
    PX X S M (.Assign [.Name x pos'] e pos) (fun env => (f env).ro fun d e => .nx (e.set i (.im d))) := ⟨psI (ps_set hN hi hx h.pe hs hf) (by
  rintro D0 σ H ⟨B, env, R, P⟩
  exact ⟨B, env, R, (PostS.of P).mono fun d e B1 H1 R1 X1 P1 v hv => P1 B1 H1 _ (R1.setIm i hv) (Same.refl _)⟩)⟩
/-- x = e, a new thing of one's own -/
theorem px_setO {x : Str} {i : Nat} {e : Expr} {pos pos' : Pos} {f : List Sl → Rs Ow} (hN : X.N.Nodup) (hi : X.N[i]? = some x) (hx : L2.Loc X.env.scope x) (h : PN X S M e f)
    (hs : swapsWith e (some (.Name x pos')) pos.line X.env = pure false := by rfl) (hf : X.fn x = true ∨ X.env.scope.names.lookup x = some .local := by exact .inl rfl) :
    PX X S M (.Assign [.Name x pos'] e pos) (fun env => (f env).ro fun w e => .nx (e.set i (.ow w))) := ⟨psI (ps_set hN hi hx h.pe hs hf) (by
  rintro D0 σ H ⟨B, env, R, P⟩
  exact ⟨B, env, R, (PostS.of P).mono fun w e B1 H1 R1 X1 P1 p o _ F ho => P1 B1 H1 _ (R1.setOw i F.1 F.2.1 F.2.2.1 ho F.2.2.2) (Same.refl _)⟩)⟩
/-- a, b = e -/
theorem px_asg {tg e : Expr} {pos : Pos} {f : List Sl → Rs D} {g : D → List Sl → Option (List Sl)} (h : PV X S M e f) {L : List Nat} (hg : PTg X S tg g L)
    (h1 : swapsWithSole [tg] e pos.line X.env = pure false := by rfl) (h2 : swappedStores [tg] e X.env = pure none := by rfl) (h3 : (assignEach [tg] X.env).map (·.2) = [assign tg X.env] := by rfl) :
    PX X S M (.Assign [tg] e pos) (fun env => (f env).ro fun d e => match g d e with | some e' => .nx e' | none => .bad) := ⟨psI (ps_asg h.pe hg.pg h1 h2 h3) (by
  rintro D0 σ H ⟨B, env, R, P⟩
  refine ⟨B, env, R, (PostS.of P).mono fun d e B1 H1 R1 X1 P1 v hv => ?_⟩
  cases q : g d e with
  | none => rw [q] at P1; exact P1.elim
  | some e' =>
    rw [q] at P1
    exact ⟨B1, e, d, e', R1, hv, q, fun σ' R2 _ _ => P1 B1 H1 σ' R2 (Same.refl _)⟩)⟩
/-! ### x op= e -/
structure IpD (X : Cx) (S : Se) (op : Operator) (c : D → D → Option D) : Prop where
  ex : ∃ r, PIp X op r ∧ ∀ B H x y d e z Q, Sit X.K S B H → Dq X.K B x d → Dq X.K B y e → c d e = some z → Wish X.K S B H z Q → r x y H Q
def fAug (i : Nat) (f : List Sl → Rs D) (c : D → D → Option D) (env : List Sl) : Ro :=
  match env[i]? with
  | some (.im a) => (f env).ro fun d e => match c a d with | some z => .nx (e.set i (.im z)) | none => .bad
  | _ => .bad
theorem px_aug {x : Str} {i : Nat} {e : Expr} {op : Operator} {pos pos' : Pos} {f : List Sl → Rs D} {c : D → D → Option D} (hN : X.N.Nodup) (hi : X.N[i]? = some x) (hx : L2.Loc X.env.scope x) (h : PV X S M e f) (o : IpD X S op c)
    (hf : X.fn x = true ∨ X.env.scope.names.lookup x = some .local := by exact .inl rfl) : PX X S M (.AugAssign (.Name x pos') op e pos) (fAug i f c) := by
  obtain ⟨r, o1, o2⟩ := o.ex
  refine ⟨psI (ps_aug hN hi hx h.pe o1 hf) ?_⟩
  rintro D0 σ H ⟨B, env, R, P⟩
  unfold fAug at P
  split at P
  · rename_i a ha
    obtain ⟨v, e1, e2⟩ := R.sl i _ ha
    refine ⟨v, e1, B, env, R, (PostS.of P).mono fun d e B1 H1 R1 X1 P1 y hy => ?_⟩
    cases q : c a d with
    | none => rw [q] at P1; exact P1.elim
    | some z =>
      rw [q] at P1
      exact o2 B1 H1 v y a d z _ R1.sit (e2.mono X1.same) hy q fun u B2 H2 g2 hu => P1 B2 H2 _ ((g2.rel R1).1.setIm i hu) (g2.rel R1).2.same
  · exact P.elim
/-! ### own lists: append, pop, extend, items -/
def fApp (i : Nat) (f : List Sl → Rs D) (env : List Sl) : Rs D :=
  match env[i]? with
  | some (.ow (.l _)) => (f env).bind fun d e => match e[i]? with
    | some (.ow (.l xs)) => if xs.length < sizeLine then .ok .non (e.set i (.ow (.l (xs ++ [d])))) else .bad
    | _ => .bad
  | _ => .bad
theorem ow_v {B H : Hp} {env : List Sl} {σ : L2.St} {i : Nat} {xs : List D} (R : Rel X.K S B env σ H) (h : env[i]? = some (.ow (.l xs))) : ∃ p vs, σ[i]? = some (some (.ref p)) ∧ H p = some (.lst vs) ∧ DqAll X.K B vs xs := by
  obtain ⟨p, o, e1, _, _, e4, e5⟩ := R.sl i _ h
  obtain ⟨vs, rfl, e6⟩ := e5.l
  exact ⟨p, vs, e1, e4, e6⟩
theorem pv_app {x : Str} {i : Nat} {e : Expr} {pos apos p1 : Pos} {f : List Sl → Rs D} (hN : X.N[i]? = some x) (hv : Vis X.env.scope x) (h : PV X S M e f)
    (hd1 : (x == Str.ofString "__debug__") = false := by rfl) (hd2 : (x == Str.ofString "__classdict__") = false := by rfl)
    (q1 : attributeBase (.Name x p1) "append" X.env (eval (.Name x p1) X.env) = eval (.Name x p1) X.env := by rfl)
    (q2 : (((backTo pos (starEach [e] X.env)).all (fun x => !x.1) && (backToKw pos (keywordEach [] X.env)).all (fun x => x.1.isSome) && decide (([e].length + ([] : List Keyword).length + if ([] : List Keyword).isEmpty = true then 0 else 1) < 30))) = true := by rfl)
    (q3 : (apos.endLine == pos.line) = true := by rfl)
    (q4 : starEach [e] X.env = (false, eval e X.env) :: starEach [] X.env := by rfl)
    (q5 : ((backTo pos (starEach [] X.env)).any fun x => x.1) = false := by rfl) :
    PV X S M (.Call (.Attribute (.Name x p1) "append" apos) [e] [] pos) (fApp i f) := ⟨peI (pe_bm PySem.F.plainAttrs_list PySem.F.slot_list_append PySem.F.type_list_append mt_append (pe_var hN hv hd1 hd2) (pas_cons h pas_nil q4).pa q1 q2 q3 q4 q5) (by
  rintro σ H Q ⟨B, env, R, P⟩
  unfold fApp at P
  split at P
  · rename_i ys hy
    obtain ⟨p, vs, e1, e2, e3⟩ := ow_v R hy
    refine ⟨.ref p, e1, .inl ⟨rfl, vs, SqL.of e2⟩, B, env, R, ?_⟩
    unfold fCons
    revert P
    cases q : f env with
    | bad => exact fun h => h
    | ex x => exact fun h => h
    | ok d e =>
      intro P B1 H1 R1 X1 us hus
      have P1 := Post.bind (r := Rs.ok d e) P B1 H1 R1 X1
      dsimp only at P1
      split at P1
      · rename_i xs hx
        split at P1
        · rename_i hl
          obtain ⟨p', vs1, f1, f2, f3⟩ := ow_v R1 hx
          rw [e1] at f1; cases f1
          obtain ⟨⟩ := hus
          rename_i v vs' a1 a2
          cases a2
          obtain ⟨R2, X2⟩ := R1.mut (ys := .l (xs ++ [d])) (us := .lst (vs1 ++ [v])) hx e1 (f3.append (.cons a1 .nil))
          exact ⟨p, vs1, v, rfl, rfl, f2, by rw [f3.length]; exact hl, P1 _ _ R2 X2 _ .non⟩
        · exact P1.elim
      · exact P1.elim
  · exact P.elim)⟩
def fPop (i : Nat) (env : List Sl) : Rs D :=
  match env[i]? with
  | some (.ow (.l xs)) => match xs[xs.length - 1]? with
    | some d => .ok d (env.set i (.ow (.l xs.dropLast)))
    | none => .bad
  | _ => .bad
theorem pv_pop {x : Str} {i : Nat} {pos apos p1 : Pos} (hN : X.N[i]? = some x) (hv : Vis X.env.scope x)
    (hd1 : (x == Str.ofString "__debug__") = false := by rfl) (hd2 : (x == Str.ofString "__classdict__") = false := by rfl)
    (q1 : attributeBase (.Name x p1) "pop" X.env (eval (.Name x p1) X.env) = eval (.Name x p1) X.env := by rfl)
    (q3 : (apos.endLine == pos.line) = true := by rfl) :
    PV X S M (.Call (.Attribute (.Name x p1) "pop" apos) [] [] pos) (fPop i) := ⟨peI (pe_bm0 PySem.F.plainAttrs_list PySem.F.slot_list_pop PySem.F.type_list_pop mt_pop (pe_var hN hv hd1 hd2) q1 q3) (by
  rintro σ H Q ⟨B, env, R, P⟩
  unfold fPop at P
  split at P
  · rename_i ys hy
    obtain ⟨p, vs, e1, e2, e3⟩ := ow_v R hy
    split at P
    · rename_i d hd
      obtain ⟨v, g1, g2⟩ := e3.get hd
      refine ⟨.ref p, e1, .inl ⟨rfl, vs, SqL.of e2⟩, p, vs, v, rfl, rfl, e2, by rw [e3.length]; exact g1, ?_⟩
      obtain ⟨R2, X2⟩ := R.mut (ys := .l ys.dropLast) (us := .lst vs.dropLast) hy e1 e3.dropLast
      exact P _ _ R2 X2 v g2
    · exact P.elim
  · exact P.elim)⟩
/-! ### loops -/
/-- what a walk hands out -/
structure Walk (K : PySem.W.Frag) (S : Se) (J : It) (ds : List D) (B : Hp) : Prop where
  go : ∀ B' H' i, Sit K S B' H' → Same B B' → i < ds.length → J.go i H'
  stop : ∀ B' H' i, Sit K S B' H' → Same B B' → ds.length = i → J.stop i H'
  yld : ∀ B' H' i v H2 d, Sit K S B' H' → Same B B' → ds[i]? = some d → J.yld i H' v H2 → ∃ B2, Grow K S B' H' B2 H2 ∧ Dq K B2 v d
def semI (K : PySem.W.Frag) (S : Se) (M : Xw) (f : List Sl → Rs (List D)) : TI := fun σ H R0 =>
  ∃ B env, Rel K S B env σ H ∧ Post K S M σ B H env (f env) fun ds _ B' H' => ∀ J, Walk K S J ds B' → R0 J H'
structure PIt (X : Cx) (S : Se) (M : Xw) (tg it : Expr) (f : List Sl → Rs (List D)) : Prop where
  pi : PI X tg it (semI X.K S M f)
theorem piI {e tg : Expr} {t t' : TI} (h : PI X tg e t) (m : ∀ σ H Q, t' σ H Q → t σ H Q) : PI X tg e t' := ⟨fun p s σ H Q i q => h.run p s σ H Q i (m σ H Q q)⟩
theorem piOr {e tg : Expr} {t t1 t2 : TI} (h1 : PI X tg e t1) (h2 : PI X tg e t2) (h : ∀ σ H Q, t σ H Q → t1 σ H Q ∨ t2 σ H Q) : PI X tg e t :=
  ⟨fun p s σ H Q i q => (h σ H Q q).elim (fun z => h1.run p s σ H Q i z) fun z => h2.run p s σ H Q i z⟩
def forR (g : D → List Sl → Option (List Sl)) (body : List Sl → Ro) : List D → List Sl → Ro
  | [], env => .nx env
  | d :: ds, env => match g d env with
    | none => .bad
    | some e => match body e with
      | .nx e' => forR g body ds e'
      | .ct e' => forR g body ds e'
      | .bk e' => .nx e'
      | r => r
theorem px_for {tg it : Expr} {body : List Stmt} {pos : Pos} {f : List Sl → Rs (List D)} {g : D → List Sl → Option (List Sl)} {b : List Sl → Ro}
    (hp : PassesOwn (model X.prog X.w) X.A X.env X.xe) (hc : X.calm = true) (hi : PIt X S M tg it f) {L : List Nat} (hg : PTg X S tg g L) (hb : PXs X S M body b)
    (hq : ∀ x, foldedSetIterable it X.env x = pure x := by exact fun _ => rfl) : PX X S M (.For tg it body [] pos) (fun env => (f env).ro fun ds e => forR g b ds e) := ⟨psI (ps_for hp hc hi.pi hg.pg hb.ps hq) (by
  rintro D0 σ H ⟨B, env, R, P⟩
  refine ⟨B, env, R, (PostS.of P).mono fun ds e B1 H1 R1 X1 P1 J wk => ?_⟩
  refine ⟨fun i m σ' H' => ∃ B' e', m = ds.length - i ∧ i ≤ ds.length ∧ Rel X.K S B' e' σ' H' ∧ Same B1 B' ∧ PostS X.K S M B' (forR g b (ds.drop i) e') D0, ⟨_, B1, e, rfl, Nat.zero_le _, R1, Same.refl _, P1⟩, ?_⟩
  rintro i m σ' H' ⟨B', e', rfl, hle, R', sm, P'⟩
  by_cases hl : i < ds.length
  · right
    refine ⟨wk.go B' H' i R'.sit sm hl, fun σ2 H2 => ∃ B2 e2, Rel X.K S B2 e2 σ2 H2 ∧ Same B1 B2 ∧ PostS X.K S M B2 (forR g b (ds.drop (i + 1)) e2) D0, ?_, ?_⟩
    · rintro σ2 H2 ⟨B2, e2, R2, sm2, P2⟩
      exact ⟨ds.length - (i + 1), by omega, B2, e2, rfl, hl, R2, sm2, P2⟩
    · intro v H2 hy
      obtain ⟨d, hd⟩ : ∃ d, ds[i]? = some d := ⟨ds[i], List.getElem?_eq_getElem hl⟩
      obtain ⟨B2, gr, dq⟩ := wk.yld B' H' i v H2 d R'.sit sm hd hy
      obtain ⟨R2, X2⟩ := gr.rel R'
      have hdrop : ds.drop i = d :: ds.drop (i + 1) := by
        rw [List.drop_eq_getElem_cons hl]
        rw [List.getElem?_eq_getElem hl] at hd
        cases hd
        rfl
      rw [hdrop, forR] at P'
      cases qg : g d e' with
      | none => rw [qg] at P'; exact P'.elim
      | some e2 =>
        rw [qg] at P'
        refine ⟨B2, e', d, e2, R2, dq, qg, fun σ3 R3 _ _ => ⟨B2, e2, R3, ?_⟩⟩
        have P2 := PostS.mono P' X2.same
        revert P2
        dsimp only
        cases b e2 with
        | nx e3 => exact fun P2 B4 H4 σ4 R4 s4 => ⟨B4, e3, R4, (sm.trans X2.same).trans s4, PostS.mono P2 s4⟩
        | ct e3 => exact fun P2 B4 H4 σ4 R4 s4 => ⟨B4, e3, R4, (sm.trans X2.same).trans s4, PostS.mono P2 s4⟩
        | bk e3 => exact fun P2 => P2
        | rt d3 => exact fun P2 => P2
        | ex x => exact fun P2 => P2
        | bad => exact fun P2 => P2
  · left
    have h0 : ds.drop i = [] := List.drop_eq_nil_of_le (by omega)
    rw [h0] at P'
    exact ⟨wk.stop B' H' i R'.sit sm (by omega), P' B' H' σ' R' (Same.refl _)⟩)⟩
def whileR (c : List Sl → Rs Bool) (body : List Sl → Ro) : Nat → List Sl → Ro
  | 0, _ => .bad
  | n + 1, env => (c env).ro fun k e => if k = true then match body e with
      | .nx e' => whileR c body n e'
      | .ct e' => whileR c body n e'
      | .bk e' => .nx e'
      | r => r
    else .nx e
theorem px_while {c : Expr} {body : List Stmt} {pos : Pos} {t : List Sl → Rs Bool} {b : List Sl → Ro} (n : Nat)
    (hp : PassesOwn (model X.prog X.w) X.A X.env X.xe) (hc : PB X S M c t) (hb : PXs X S M body b) : PX X S M (.While c body [] pos) (whileR t b n) := ⟨psI (ps_while hp hc.pt hb.ps) (by
  rintro D0 σ H ⟨B, env, R, P⟩
  refine ⟨fun m σ' H' => ∃ B' e', Rel X.K S B' e' σ' H' ∧ PostS X.K S M B' (whileR t b m e') D0, ⟨n, B, env, R, P⟩, ?_⟩
  rintro m σ' H' ⟨B', e', R', P'⟩
  cases m with
  | zero => exact P'.elim
  | succ m =>
    rw [whileR] at P'
    refine ⟨B', e', R', (PostS.of P').mono fun k e2 B2 H2 R2 X2 P2 => ?_⟩
    cases k with
    | false => exact P2 B2 H2 σ' R2 (Same.refl _)
    | true =>
      rw [if_pos rfl] at P2 ⊢
      refine ⟨fun σ3 H3 => ∃ B3 e3, Rel X.K S B3 e3 σ3 H3 ∧ PostS X.K S M B3 (whileR t b m e3) D0, fun σ3 H3 ⟨B3, e3, R3, P3⟩ => ⟨m, by omega, B3, e3, R3, P3⟩, B2, e2, R2, ?_⟩
      revert P2
      cases b e2 with
      | nx e3 => exact fun P2 B4 H4 σ4 R4 s4 => ⟨B4, e3, R4, PostS.mono P2 s4⟩
      | ct e3 => exact fun P2 B4 H4 σ4 R4 s4 => ⟨B4, e3, R4, PostS.mono P2 s4⟩
      | bk e3 => exact fun P2 => P2
      | rt d3 => exact fun P2 => P2
      | ex x => exact fun P2 => P2
      | bad => exact fun P2 => P2)⟩
end
end Pf
namespace Pf
open PySem PySem.Spec PyProof.Rows L2 GxR GenW Gx
/-! ### what a def makes of data -/
inductive Rf where
  | ok (d : D) | ex (x : Exn) | bad
def Ro.fn : Ro → Rf
  | .nx _ => .ok .non
  | .rt d => .ok d
  | .ex x => .ex x
  | _ => .bad
def Rf.rs (r : Rf) (e : List Sl) : Rs D :=
  match r with
  | .ok d => .ok d e
  | .ex x => .ex x
  | .bad => .bad
def spP (K : PySem.W.Frag) (T : List Addr) (xc : Str → Option Value) (n : Nat) (F : List D → Rf) : Sp := fun vs H Q E =>
  vs.length = n ∧ ∃ B ds, Sit K ⟨T, H, B⟩ B H ∧ DqAll K B vs ds ∧ match F ds with
    | .ok d => Wish K ⟨T, H, B⟩ B H d Q
    | .ex x => XOk K ⟨T, H, B⟩ ⟨E, xc⟩ x
    | .bad => False
/-- the slots at the start -/
def env0 (n : Nat) (ds : List D) : List Sl := ds.map .im ++ List.replicate (n - ds.length) .no
theorem env0_own {n : Nat} {ds : List D} {i : Nat} {e : Sl} (h : (env0 n ds)[i]? = some e) : e.own = false := by
  have : e ∈ env0 n ds := List.mem_of_getElem? h
  rcases List.mem_append.mp this with z | z
  · obtain ⟨d, _, rfl⟩ := List.mem_map.mp z
    rfl
  · rw [(List.mem_replicate.mp z).2]
    rfl
theorem rel0 {K : PySem.W.Frag} {S : Se} {N : List Str} {vs : List V} {ds : List D} (s : Sit K S S.B0 S.H0) (h : DqAll K S.B0 vs ds) (hl : vs.length ≤ N.length) : Rel K S S.B0 (env0 N.length ds) (L2.start N vs) S.H0 := by
  have hvd := h.length
  refine ⟨Old.refl _, s.tab, Same.refl _, s.bh, s.nt, fun _ _ h => .inl h, ?_, fun i e hi => ?_, fun i j p e e' h1 h2 o1 => ?_⟩
  · simp [env0, L2.start, hvd]
  · unfold env0 at hi
    by_cases hb : i < ds.length
    · rw [List.getElem?_append_left (by simpa using hb), List.getElem?_map, List.getElem?_eq_getElem hb] at hi
      cases hi
      obtain ⟨v, h1, h2⟩ := h.get (List.getElem?_eq_getElem hb)
      refine ⟨v, ?_, h2⟩
      unfold L2.start
      rw [List.getElem?_append_left (by simp; omega), List.getElem?_map, h1]
      rfl
    · rw [List.getElem?_append_right (by simp; omega)] at hi
      have := List.mem_of_getElem? hi
      rw [(List.mem_replicate.mp this).2]
      trivial
  · rw [env0_own h1] at o1
    cases o1
section
variable {X : Cx} {S : Se} {M : Xw}
theorem XOk.deep {K : PySem.W.Frag} {B1 H1 : Hp} {x : Exn} (h : XOk K S M x) (o : Old S.H0 H1) : XOk K ⟨S.T, H1, B1⟩ M x := by
  obtain ⟨C, h1, h2, h3⟩ := h
  exact ⟨C, h1, fun hn H' o' t => h2 hn H' (o.trans o') t, fun hn H' B' d vs o' t => h3 hn H' B' d vs (o.trans o') t⟩
theorem pv_call {k n : Nat} {f : Addr} {fd : FuncData} {ps : List Str} {F : List D → Rf} {x : Str} {p pos : Pos} {e : Expr} {es : List Expr} {g : List Sl → Rs (List D)}
    (G : FnOk X.prog X.w X.K X.mg X.base (CX X.prog X.w) k f fd ps (spP X.K S.T M.xc n F)) (hr : Room k X.A) (hg : Gl X x) (hm : X.mg x = some (.ref f)) (hk : PySem.W.keepIn X.K (.ref f) = true)
    (hb : L2.Binds X.K fd ps []) (hx : Passes (CX X.prog X.w) X M.E) (ha : PAs X S M (e :: es) g) (hl : (e :: es).length = n := by rfl)
    (h1 : (x == Str.ofString "__debug__") = false := by rfl) (h2 : starEach (e :: es) X.env = (false, eval e X.env) :: starEach es X.env := by rfl)
    (h3 : ((backTo pos (starEach es X.env)).any fun x => x.1) = false := by rfl) : PV X S M (.Call (.Name x p) (e :: es) [] pos) (fun env => (g env).bind fun ds e => if ds.length = n then (F ds).rs e else .bad) :=
  ⟨peI (pe_call G hr hg hm hk hb .nil hx ha.pa h1 h2 h3) (by
  rintro σ H Q ⟨B, env, R, P⟩
  refine ⟨B, env, R, (Post.bind P).mono fun ds e B1 H1 R1 X1 P1 vs hvs => ?_⟩
  show spP X.K S.T M.xc n F (vs ++ []) H1 Q M.E
  rw [List.append_nil]
  split at P1
  · rename_i hn
    refine ⟨by rw [hvs.length, hn], B1, ds, ⟨R1.tab, R1.bh, R1.nt⟩, hvs, ?_⟩
    revert P1
    cases F ds with
    | bad => exact fun P1 => P1
    | ex x => exact fun P1 => XOk.deep P1 R1.old
    | ok d => exact fun P1 v B2 H2 g2 hv => P1 B2 H2 ((Grow.mk g2.old g2.tab g2.same g2.bh g2.nt g2.new : Grow X.K S B1 H1 B2 H2).rel R1).1 ((Grow.mk g2.old g2.tab g2.same g2.bh g2.nt g2.new : Grow X.K S B1 H1 B2 H2).rel R1).2 v hv
  · exact P1.elim)⟩
/-! ### walks -/
def D.items : D → Option (List D)
  | .lst xs => some xs
  | .tup xs => some xs
  | .scr ns => some (ns.map .int)
  | _ => none
theorem walk_l {K : PySem.W.Frag} {B : Hp} {a : Addr} {vs : List V} {ds : List D} (h : SqL K B a vs) (hd : DqAll K B vs ds) : Walk K S (Itl K a) ds B := by
  have sq : ∀ {B' H' : Hp}, Sit K S B' H' → Same B B' → SqL K H' a vs := fun s sm => same_seqL s.bh (same_seqL sm h)
  refine ⟨fun B' H' i s sm hi => ?_, fun B' H' i s sm hi => ⟨vs, sq s sm, by rw [hd.length]; exact Nat.le_of_eq hi⟩, fun B' H' i v H2 d s sm hi hy => ?_⟩
  · obtain ⟨v, h1, _⟩ := hd.get (List.getElem?_eq_getElem hi)
    exact ⟨vs, v, sq s sm, h1⟩
  · obtain ⟨rfl, hy⟩ := hy
    obtain ⟨u, h1, h2⟩ := hd.get hi
    have := hy vs (sq s sm)
    rw [h1] at this
    cases this
    exact ⟨B', ⟨Old.refl _, s.tab, Same.refl _, s.bh, s.nt, fun _ _ h => .inl h⟩, h2.mono sm⟩
theorem walk_t {K : PySem.W.Frag} {B : Hp} {a : Addr} {vs : List V} {ds : List D} (h : SqT K B a vs) (hd : DqAll K B vs ds) : Walk K S (Itt K a) ds B := by
  have sq : ∀ {B' H' : Hp}, Sit K S B' H' → Same B B' → SqT K H' a vs := fun s sm => same_seqT s.bh (same_seqT sm h)
  refine ⟨fun B' H' i s sm hi => ?_, fun B' H' i s sm hi => ⟨vs, sq s sm, by rw [hd.length]; exact Nat.le_of_eq hi⟩, fun B' H' i v H2 d s sm hi hy => ?_⟩
  · obtain ⟨v, h1, _⟩ := hd.get (List.getElem?_eq_getElem hi)
    exact ⟨vs, v, sq s sm, h1⟩
  · obtain ⟨rfl, hy⟩ := hy
    obtain ⟨u, h1, h2⟩ := hd.get hi
    have := hy vs (sq s sm)
    rw [h1] at this
    cases this
    exact ⟨B', ⟨Old.refl _, s.tab, Same.refl _, s.bh, s.nt, fun _ _ h => .inl h⟩, h2.mono sm⟩
def fItems (f : List Sl → Rs D) (env : List Sl) : Rs (List D) := (f env).bind fun d e => Rs.opt d.items e
theorem pit_seq {tg e : Expr} {f : List Sl → Rs D} (h : PV X S M e f) : PIt X S M tg e (fItems f) := ⟨piOr (pi_list h.pe) (pi_tup h.pe) (by
  rintro σ H Q ⟨B, env, R, P⟩
  have P := Post.bind P
  by_cases ht : ∃ xs e, f env = .ok (.tup xs) e
  · right
    obtain ⟨xs, e, ht⟩ := ht
    refine ⟨B, env, R, ?_⟩
    rw [ht] at P ⊢
    intro B1 H1 R1 X1 v hv
    have P1 := P B1 H1 R1 X1
    cases hv with
    | tup h1 h2 => exact ⟨_, rfl, ⟨_, same_tup R1.bh h1⟩, P1.ok R1 _ (walk_t h1.1 h2)⟩
  · left
    refine ⟨B, env, R, ?_⟩
    revert P ht
    cases f env with
    | bad => exact fun P _ => P
    | ex x => exact fun P _ => P
    | ok d e =>
      intro P ht B1 H1 R1 X1 v hv
      have P1 := P B1 H1 R1 X1
      cases hv <;> first | exact P1.elim | skip
      · rename_i vs ds h1 h2
        exact ⟨_, rfl, ⟨_, SqL.of (R1.bh _ _ h1)⟩, P1.ok R1 _ (walk_l (SqL.of h1) h2)⟩
      · exact absurd ⟨_, _, rfl⟩ ht
      · rename_i ns h1
        exact ⟨_, rfl, ⟨_, same_seqL R1.bh h1⟩, P1.ok R1 _ (walk_l h1 (DqAll.ints ns))⟩)⟩
theorem walk_r {K : PySem.W.Frag} {B : Hp} {lo : Int} {n : Nat} : Walk K S (Itr lo n) ((List.range n).map fun (i : Nat) => D.int (lo + (i : Int))) B := by
  refine ⟨fun B' H' i s sm hi => by show i < n; simpa using hi, fun B' H' i s sm hi => by show n ≤ i; exact Nat.le_of_eq (by simpa using hi), fun B' H' i v H2 d s sm hi hy => ?_⟩
  obtain ⟨rfl, rfl⟩ := hy
  refine ⟨B', ⟨Old.refl _, s.tab, Same.refl _, s.bh, s.nt, fun _ _ h => .inl h⟩, ?_⟩
  rw [List.getElem?_map] at hi
  cases q : (List.range n)[i]? with
  | none => rw [q] at hi; cases hi
  | some j =>
    rw [q] at hi
    cases hi
    have : j = i := by
      have h1 := (List.getElem?_eq_some_iff.mp q).2
      rw [List.getElem_range] at h1
      exact h1.symm
    subst this
    exact .int _
def rng1 : List D → Option (List D)
  | [.int j] => if -(2 ^ 62) ≤ j ∧ j < 2 ^ 62 then some ((List.range j.toNat).map fun (i : Nat) => D.int (0 + (i : Int))) else none
  | _ => none
def rng2 : List D → Option (List D)
  | [.int i, .int j] => if -(2 ^ 62) ≤ i ∧ i < 2 ^ 62 ∧ -(2 ^ 62) ≤ j ∧ j < 2 ^ 62 then some ((List.range (j - i).toNat).map fun (k : Nat) => D.int (i + (k : Int))) else none
  | _ => none
theorem pit_range1 {tg a : Expr} {p pos : Pos} {g : List Sl → Rs (List D)} (hg : Gl X "range") (hm : X.mg "range" = none) (ha : PAs X S M [a] g)
    (h1 : starEach [a] X.env = [(false, eval a X.env)] := by rfl) : PIt X S M tg (.Call (.Name "range" p) [a] [] pos) (fun env => (g env).bind fun ds e => Rs.opt (rng1 ds) e) := ⟨piI (pi_range1 hg hm ha.pa h1) (by
  rintro σ H Q ⟨B, env, R, P⟩
  refine ⟨B, env, R, (Post.bind P).mono fun ds e B1 H1 R1 X1 P1 vs hvs => ?_⟩
  cases q : rng1 ds with
  | none => rw [q] at P1; exact P1.elim
  | some ys =>
    rw [q] at P1
    unfold rng1 at q
    split at q
    · split at q
      · rename_i j hj
        cases q
        obtain ⟨⟩ := hvs
        rename_i v vs' a1 a2
        cases a2
        cases a1
        exact ⟨j, rfl, hj.1, hj.2, P1.ok R1 _ walk_r⟩
      · cases q
    · cases q)⟩
theorem pit_range2 {tg a b : Expr} {p pos : Pos} {g : List Sl → Rs (List D)} (hg : Gl X "range") (hm : X.mg "range" = none) (ha : PAs X S M [a, b] g)
    (h1 : starEach [a, b] X.env = [(false, eval a X.env), (false, eval b X.env)] := by rfl) (h2 : starEach [b] X.env = [(false, eval b X.env)] := by rfl) : PIt X S M tg (.Call (.Name "range" p) [a, b] [] pos) (fun env => (g env).bind fun ds e => Rs.opt (rng2 ds) e) := ⟨piI (pi_range2 hg hm ha.pa h1 h2) (by
  rintro σ H Q ⟨B, env, R, P⟩
  refine ⟨B, env, R, (Post.bind P).mono fun ds e B1 H1 R1 X1 P1 vs hvs => ?_⟩
  cases q : rng2 ds with
  | none => rw [q] at P1; exact P1.elim
  | some ys =>
    rw [q] at P1
    unfold rng2 at q
    split at q
    · split at q
      · rename_i i j hj
        cases q
        obtain ⟨⟩ := hvs
        rename_i v vs' a1 a2
        obtain ⟨⟩ := a2
        rename_i v2 vs2 a3 a4
        cases a4
        cases a1
        cases a3
        exact ⟨i, j, rfl, hj, P1.ok R1 _ walk_r⟩
      · cases q
    · cases q)⟩
end
end Pf
namespace Pf
open PySem PySem.Spec PyProof.Rows L2 GxR GenW Gx
/-! ### slots within a comprehension -/
def Sl.hid : Sl → Sl
  | .ow _ => .no
  | s => s
def hideE (own : List Nat) (env : List Sl) : List Sl := own.foldr (fun i e => e.set i .no) (env.map Sl.hid)
theorem hideE_len (env : List Sl) : ∀ own : List Nat, (hideE own env).length = env.length
  | [] => by simp [hideE]
  | i :: L => by
    show ((hideE L env).set i .no).length = _
    rw [List.length_set, hideE_len env L]
theorem hideE_get {env : List Sl} {j : Nat} {e : Sl} : ∀ {own : List Nat}, (hideE own env)[j]? = some e → e = .no ∨ ∃ d, e = .im d ∧ env[j]? = some (.im d) ∧ j ∉ own
  | [], h => by
    have h : (env.map Sl.hid)[j]? = some e := h
    rw [List.getElem?_map] at h
    cases q : env[j]? with
    | none => rw [q] at h; cases h
    | some s =>
      rw [q] at h
      cases s with
      | no => cases h; exact .inl rfl
      | im d => cases h; exact .inr ⟨d, rfl, rfl, by simp⟩
      | ow w => cases h; exact .inl rfl
  | i :: L, h => by
    have h : ((hideE L env).set i .no)[j]? = some e := h
    rcases env_set h with ⟨_, rfl⟩ | ⟨hne, h⟩
    · exact .inl rfl
    · rcases hideE_get h with z | ⟨d, h1, h2, h3⟩
      · exact .inl z
      · exact .inr ⟨d, h1, h2, fun z => (List.mem_cons.mp z).elim hne h3⟩
theorem hide_own {own : List Nat} {env : List Sl} {σ : L2.St} (a : Addr) : ¬ OwnA (hideE own env) σ a := fun ⟨j, e, h1, h2, _⟩ => by
  rcases hideE_get h1 with rfl | ⟨d, rfl, _⟩ <;> cases h2
section
variable {X : Cx} {S : Se} {M : Xw}
theorem Rel.hide {K : PySem.W.Frag} {B H : Hp} {env : List Sl} {σ : L2.St} (R : Rel K S B env σ H) (own : List Nat) : Rel K S B (hideE own env) (wipe σ own) H := by
  refine ⟨R.old, R.tab, R.b0, R.bh, R.nt, R.new, by rw [hideE_len, wipe_len]; exact R.len, fun i e h => ?_, fun i j p e e' h1 h2 o1 => ?_⟩
  · rcases hideE_get h with rfl | ⟨d, rfl, h1, h2⟩
    · trivial
    · rw [wipe_out _ _ _ h2]
      exact R.sl i _ h1
  · rcases hideE_get h1 with rfl | ⟨d, rfl, _⟩ <;> cases o1
theorem Grow.of {K : PySem.W.Frag} {B H B' H' : Hp} {env e : List Sl} {σ : L2.St} (no : ∀ a, ¬ OwnA env σ a) (R : Rel K S B' e σ H') (E : Ext env e σ B H B' H') : Grow K S B H B' H' :=
  ⟨fun a o h => E.kept a o h (no a), R.tab, E.same, R.bh, R.nt, fun a o h => (E.new a o h).elim .inl fun z => z.elim .inr fun z => (no a z).elim⟩
theorem Grow.trans {K : PySem.W.Frag} {B H B1 H1 B2 H2 : Hp} (a : Grow K S B H B1 H1) (b : Grow K S B1 H1 B2 H2) : Grow K S B H B2 H2 :=
  ⟨a.old.trans b.old, b.tab, a.same.trans b.same, b.bh, b.nt, fun c o h => (b.new c o h).elim (a.new c o) fun z => .inr (a.old.none z)⟩
theorem Grow.relK {K : PySem.W.Frag} {B H B' H' : Hp} {env : List Sl} {σ : L2.St} (g : Grow K S B H B' H') (R : Rel K S B env σ H) : Rel K S B' env σ H' ∧ Ext env env σ B H B' H' :=
  R.step g.old g.tab g.same g.bh g.nt g.new
structure PIf (X : Cx) (S : Se) (M : Xw) (ifs : List Expr) (t : List Sl → Rs Bool) : Prop where
  pts : PTs X ifs (semT X.K S M t)
theorem ptsI {e : List Expr} {t t' : TT} (h : PTs X e t) (m : ∀ σ H Q, t' σ H Q → t σ H Q) : PTs X e t' := ⟨fun p s σ H Q i q => h.run p s σ H Q i (m σ H Q q)⟩
theorem pif_nil : PIf X S M [] (fun env => .ok true env) := ⟨ptsI pts_nil (by rintro σ H Q ⟨B, env, R, P⟩; exact P.ok R)⟩
theorem pif_one {c : Expr} {t : List Sl → Rs Bool} (h : PB X S M c t) : PIf X S M [c] t := ⟨pts_one h.pt⟩
/-- one turn: wrong, nothing, or an item -/
def turnD (g : D → List Sl → Option (List Sl)) (t : List Sl → Rs Bool) (el : List Sl → Rs D) (e0 : List Sl) (d : D) : Option (Option D) :=
  match g d e0 with
  | none => none
  | some e1 => match t e1 with
    | .ok b e2 => if b = true then match el e2 with
        | .ok x _ => some (some x)
        | _ => none
      else some none
    | _ => none
def turnsD (g : D → List Sl → Option (List Sl)) (t : List Sl → Rs Bool) (el : List Sl → Rs D) (e0 : List Sl) : List D → Option (List D)
  | [] => some []
  | d :: ds => match turnD g t el e0 d with
    | none => none
    | some none => turnsD g t el e0 ds
    | some (some x) => (turnsD g t el e0 ds).map (x :: ·)
abbrev semG (K : PySem.W.Frag) (S : Se) (g : D → List Sl → Option (List Sl)) (L : List Nat) : TG := fun v σ H Q =>
  ∃ B env d e, Rel K S B env σ H ∧ Dq K B v d ∧ g d env = some e ∧ ∀ σ', Rel K S B e σ' H → (∀ a, OwnA e σ' a → OwnA env σ a) → Off L σ σ' → Q σ' H
theorem turn_sem {K : PySem.W.Frag} {g : D → List Sl → Option (List Sl)} {t : List Sl → Rs Bool} {el : List Sl → Rs D} {L own : List Nat} {B H : Hp} {e0 : List Sl} {σ : L2.St} {x : V} {d : D} {r : Option D}
    {Y : VK} {N : Hp → Prop} (hL : ∀ i ∈ L, i ∈ own) (R : Rel K S B e0 (wipe σ own) H) (no : ∀ a, ¬ OwnA e0 (wipe σ own) a) (hx : Dq K B x d) (ht : turnD g t el e0 d = some r)
    (k1 : ∀ z B4 H4 y, r = some z → Grow K S B H B4 H4 → Dq K B4 y z → Y y H4) (k2 : ∀ B4 H4, r = none → Grow K S B H B4 H4 → N H4) :
    semG K S g L x (wipe σ own) H fun σ2 H2 => wipe σ2 own = wipe σ own ∧ semT K S M.calm t σ2 H2 fun b H3 => if b = true then semE K S M.calm el σ2 H3 Y else N H3 := by
  unfold turnD at ht
  cases q1 : g d e0 with
  | none => rw [q1] at ht; cases ht
  | some e1 =>
    rw [q1] at ht
    refine ⟨B, e0, d, e1, R, hx, q1, fun σ2 R1 o1 off => ⟨wipe_off off hL, B, e1, R1, ?_⟩⟩
    have no1 : ∀ a, ¬ OwnA e1 σ2 a := fun a h => no a (o1 a h)
    dsimp only at ht
    cases q2 : t e1 with
    | bad => rw [q2] at ht; cases ht
    | ex x => rw [q2] at ht; cases ht
    | ok b e2 =>
      rw [q2] at ht
      intro B3 H3 R3 X3
      have no2 : ∀ a, ¬ OwnA e2 σ2 a := fun a h => no1 a (X3.sub a h)
      cases b with
      | false =>
        cases ht
        exact k2 B3 H3 rfl (.of no1 R3 X3)
      | true =>
        refine ⟨B3, e2, R3, ?_⟩
        dsimp only at ht
        rw [if_pos rfl] at ht
        cases q3 : el e2 with
        | bad => rw [q3] at ht; cases ht
        | ex x => rw [q3] at ht; cases ht
        | ok z e3 =>
          rw [q3] at ht
          cases ht
          exact fun B4 H4 R4 X4 y hy => k1 z B4 H4 y rfl ((Grow.of no1 R3 X3).trans (.of no2 R4 X4)) hy
/-! ### list comprehensions -/
def fLc (f : List Sl → Rs (List D)) (g : D → List Sl → Option (List Sl)) (t : List Sl → Rs Bool) (el : List Sl → Rs D) (own : List Nat) (env : List Sl) : Rs Ow :=
  (f env).bind fun ds e => match turnsD g t el (hideE own e) ds with
    | some xs => if xs.length ≤ sizeLine then .ok (.l xs) e else .bad
    | none => .bad
theorem drop_cons {α : Type} {ds : List α} {i : Nat} (h : i < ds.length) : ds.drop i = ds[i] :: ds.drop (i + 1) := List.drop_eq_getElem_cons h
theorem sem_lc {K : PySem.W.Frag} {f : List Sl → Rs (List D)} {g : D → List Sl → Option (List Sl)} {t : List Sl → Rs Bool} {el : List Sl → Rs D} {own L : List Nat} (hL : ∀ i ∈ L, i ∈ own) :
    ∀ σ H Q, semN K S M (fLc f g t el own) σ H Q → tLc (semI K S M f) (semG K S g L) (semT K S M.calm t) (semE K S M.calm el) own σ H Q := by
  rintro σ H Q ⟨B, env, R, P⟩
  refine ⟨B, env, R, (Post.bind P).mono fun ds e B1 H1 R1 X1 P1 J wk D0 hD => ?_⟩
  cases q : turnsD g t el (hideE own e) ds with
  | none => rw [q] at P1; exact P1.elim
  | some total =>
    rw [q] at P1
    dsimp only at P1
    split at P1
    · rename_i hlen
      have hD0 : H D0 = none := X1.live D0 hD
      refine ⟨fun i m H' => ∃ B' acc av rest, m = ds.length - i ∧ i ≤ ds.length ∧ Rel K S B' e σ H' ∧ Ext e e σ B1 H1 B' H' ∧ H' D0 = some (.lst av) ∧ DqAll K B' av acc ∧ B' D0 = none ∧ ¬ OwnA e σ D0 ∧
        turnsD g t el (hideE own e) (ds.drop i) = some rest ∧ acc ++ rest = total, ?_, ?_⟩
      · have F := R1.lay (o := .lst []) hD
        refine ⟨_, B1, [], [], total, rfl, Nat.zero_le _, F.1, F.2, upd_same, .nil, R1.bh.free hD, fun ow => ?_, q, rfl⟩
        obtain ⟨_, _, o', w, h1, _⟩ := R1.ownB ow
        rw [hD] at h1
        cases h1
      · rintro i m H' ⟨B', acc, av, rest, rfl, hle, R', X', hd, hacc, hbn, nown, hrest, hsum⟩
        by_cases hl : i < ds.length
        · right
          refine ⟨wk.go B' H' i R'.sit X'.same hl, fun H2 => ∃ B2 acc av rest, Rel K S B2 e σ H2 ∧ Ext e e σ B1 H1 B2 H2 ∧ H2 D0 = some (.lst av) ∧ DqAll K B2 av acc ∧ B2 D0 = none ∧ ¬ OwnA e σ D0 ∧
            turnsD g t el (hideE own e) (ds.drop (i + 1)) = some rest ∧ acc ++ rest = total, ?_, ?_⟩
          · rintro H2 ⟨B2, acc, av, rest, R2, X2, h1, h2, h3, h4, h5, h6⟩
            exact ⟨ds.length - (i + 1), by omega, B2, acc, av, rest, rfl, hl, R2, X2, h1, h2, h3, h4, h5, h6⟩
          · intro x H2 hy
            obtain ⟨B2, gr, dq⟩ := wk.yld B' H' i x H2 ds[i] R'.sit X'.same (List.getElem?_eq_getElem hl) hy
            have R2 := (gr.relK R').1
            rw [drop_cons hl, turnsD] at hrest
            cases qt : turnD g t el (hideE own e) ds[i] with
            | none => rw [qt] at hrest; cases hrest
            | some r =>
              rw [qt] at hrest
              have fin : ∀ {B4 H4 : Hp}, Grow K S B2 H2 B4 H4 → Rel K S B4 e σ H4 ∧ Ext e e σ B1 H1 B4 H4 ∧ H4 D0 = some (.lst av) ∧ DqAll K B4 av acc ∧ B4 D0 = none := @fun B4 H4 g4 => by
                have g5 := gr.trans g4
                refine ⟨(g5.relK R').1, X'.trans (g5.relK R').2, g5.old.at hd (fun ps h => by cases h), hacc.mono g5.same, ?_⟩
                cases z : B4 D0 with
                | none => rfl
                | some o =>
                  rcases g5.new _ _ z with y | y
                  · rw [hbn] at y; cases y
                  · rw [hd] at y; cases y
              refine turn_sem hL (R2.hide own) hide_own dq qt (fun z B4 H4 y hz g4 hyz => ?_) (fun B4 H4 hz g4 => ?_)
              · subst hz
                obtain ⟨R4, X4, hd4, ha4, hb4⟩ := fin g4
                dsimp only at hrest
                cases q2 : turnsD g t el (hideE own e) (ds.drop (i + 1)) with
                | none => rw [q2] at hrest; cases hrest
                | some rest2 =>
                  rw [q2] at hrest
                  have hrest : some (z :: rest2) = some rest := hrest
                  cases hrest
                  have hlt : av.length < sizeLine := by
                    rw [ha4.length]
                    have : total.length = acc.length + (rest2.length + 1) := by rw [← hsum, List.length_append, List.length_cons]
                    omega
                  have hs0 : S.H0 D0 = none := R.old.none hD0
                  refine ⟨av, hd4, hlt, B4, acc ++ [z], av ++ [y], rest2, R4.turn hs0 hb4 hd4 (fun ps h => by cases h) nown, ⟨X4.sub, X4.same, X4.new, fun a o ha hn => ?_, fun a ha => ?_⟩, upd_same, ha4.append (.cons hyz .nil), hb4, nown, rfl, by rw [← hsum]; simp⟩
                  · have : a ≠ D0 := ne_of_none ha hD
                    rw [upd_ne this]
                    exact X4.kept a o ha hn
                  · have : a ≠ D0 := fun z => by rw [z, upd_same] at ha; cases ha
                    rw [upd_ne this] at ha
                    exact X4.live a ha
              · subst hz
                obtain ⟨R4, X4, hd4, ha4, hb4⟩ := fin g4
                exact ⟨B4, acc, av, rest, R4, X4, hd4, ha4, hb4, nown, hrest, hsum⟩
        · left
          have h0 : ds.drop i = [] := List.drop_eq_nil_of_le (by omega)
          rw [h0, turnsD] at hrest
          cases hrest
          rw [List.append_nil] at hsum
          subst hsum
          exact ⟨wk.stop B' H' i R'.sit X'.same (by omega), P1 B' H' R' X' D0 _ hD0 ⟨R.old.none hD0, hbn, hd, nown⟩ hacc⟩
    · exact P1.elim
theorem pn_lc {elt tg iter : Expr} {ifs : List Expr} {scope : Scope} {own : List (Str × Nat)} {pos : Pos} {f : List Sl → Rs (List D)} {g : D → List Sl → Option (List Sl)} {t : List Sl → Rs Bool} {el : List Sl → Rs D} {L : List Nat}
    (hc : X.calm = true) (hN : X.N.Nodup) (hi : PIt X S M tg iter f) (ok : BlkOk X.N X.env.scope scope own)
    (hg : ∀ (s : Shared) (H : Hp) (C : Addr) (cl : List (Str × Addr)) (fp : List Addr), PTg (X.blk s H scope (compEnvC scope cl C X.env) fp) S tg g L)
    (ht : ∀ (s : Shared) (H : Hp) (C : Addr) (cl : List (Str × Addr)) (fp : List Addr), PIf (X.blk s H scope (compEnvC scope cl C X.env) fp) S M.calm ifs t)
    (he : ∀ (s : Shared) (H : Hp) (C : Addr) (cl : List (Str × Addr)) (fp : List Addr), PV (X.blk s H scope (compEnvC scope cl C X.env) fp) S M.calm elt el)
    (hL : ∀ i ∈ L, i ∈ own.map (·.2)) (hq : ∀ x, foldedSetIterable iter X.env x = pure x := by exact fun _ => rfl) :
    PN X S M (.ListComp elt [⟨tg, iter, ifs, 0⟩] scope pos) (fLc f g t el (own.map (·.2))) :=
  ⟨peI (pe_lc hc hN hi.pi ok (fun s H C cl fp => (hg s H C cl fp).pg) (fun s H C cl fp => (ht s H C cl fp).pts) (fun s H C cl fp => (he s H C cl fp).pe) hq) (sem_lc hL)⟩
/-! ### generators -/
def D.sv : D → Option V
  | .non => some .non
  | .bl b => some (.bl b)
  | .int i => some (.int i)
  | .str x => some (.str x)
  | _ => none
theorem dq_sv {K : PySem.W.Frag} {B : Hp} {v u : V} {d : D} (h : Dq K B v d) (e : d.sv = some u) : v = u := by
  cases h <;> cases e <;> rfl
def svs : List D → Option (List V)
  | [] => some []
  | d :: ds => match d.sv, svs ds with
    | some v, some vs => some (v :: vs)
    | _, _ => none
def fGx (f : List Sl → Rs (List D)) (g : D → List Sl → Option (List Sl)) (t : List Sl → Rs Bool) (el : List Sl → Rs D) (own : List Nat) (res : List D → Option D) (env : List Sl) : Rs D :=
  (f env).bind fun ds e => Rs.opt ((turnsD g t el (hideE own e) ds).bind res) e
/-- what all(), any(), .. make of the items -/
def ResD (res : List D → Option D) (Res : List V → VK → Hp → Prop) : Prop :=
  ∀ zs z, res zs = some z → ∃ ys v, svs zs = some ys ∧ z.sv = some v ∧ ∀ (Q : VK) H, Q v H → Res ys Q H
theorem sv_dq {K : PySem.W.Frag} {B : Hp} {z : D} {v : V} (h : z.sv = some v) : Dq K B v z := by
  cases z <;> cases h <;> constructor
theorem sem_gx {K : PySem.W.Frag} {P0 : Addr} {f : List Sl → Rs (List D)} {g : D → List Sl → Option (List Sl)} {t : List Sl → Rs Bool} {el : List Sl → Rs D} {own L : List Nat} {res : List D → Option D} {Res : List V → VK → Hp → Prop}
    (hP : P0 ∈ S.T) (hL : ∀ i ∈ L, i ∈ own) (hres : ResD res Res) :
    ∀ σ H Q, semE K S M (fGx f g t el own res) σ H Q → tGx P0 (semI K S M f) (semG K S g L) (semT K S M.calm t) (semE K S M.calm el) own Res σ H Q := by
  rintro σ H Q ⟨B, env, R, P⟩
  refine ⟨B, env, R, (Post.bind P).mono fun ds e B1 H1 R1 X1 P1 J wk => ⟨R1.tab P0 hP, ?_⟩⟩
  cases q : turnsD g t el (hideE own e) ds with
  | none => rw [q] at P1; exact P1.elim
  | some zs =>
    rw [q, Option.bind_some] at P1
    cases q1 : res zs with
    | none => rw [q1] at P1; exact P1.elim
    | some z =>
      rw [q1] at P1
      obtain ⟨ys, v, hys, hv, hR⟩ := hres zs z q1
      refine ⟨ys, fun i m r H' => ∃ B' rest, m = ds.length - i ∧ i ≤ ds.length ∧ Rel K S B' e σ H' ∧ Ext e e σ B1 H1 B' H' ∧ turnsD g t el (hideE own e) (ds.drop i) = some rest ∧ svs rest = some r, fun H2 tb => ?_, ?_, ?_⟩
      · have gr : Grow K S B1 H1 B1 H2 := by
          obtain ⟨tg, same⟩ := tb
          refine ⟨fun a o h => ?_, fun P' hP' => ?_, Same.refl _, fun a o h => ?_, R1.nt, fun a o h => .inl h⟩
          · by_cases z : a = P0
            · subst z
              obtain ⟨ps, h1, _⟩ := R1.tab a hP
              rw [h] at h1
              cases h1
              obtain ⟨ps', h2, _⟩ := tg
              exact .inr ⟨⟨ps, rfl⟩, ps', h2⟩
            · exact .inl (by rw [same a z]; exact h)
          · by_cases z : P' = P0
            · subst z; exact tg
            · obtain ⟨ps, h1, h2⟩ := R1.tab P' hP'
              exact ⟨ps, by rw [same P' z]; exact h1, h2⟩
          · have z : a ≠ P0 := fun z => by
              subst z
              obtain ⟨ps, h1, _⟩ := R1.tab a hP
              have h2 := R1.bh a o h
              rw [h1] at h2
              cases h2
              exact R1.nt a ps h
            rw [same a z]
            exact R1.bh a o h
        exact ⟨_, B1, zs, rfl, Nat.zero_le _, (gr.relK R1).1, (gr.relK R1).2, q, hys⟩
      · rintro i m r H' ⟨B', rest, rfl, hle, R', X', hrest, hr⟩
        by_cases hl : i < ds.length
        · right
          refine ⟨wk.go B' H' i R'.sit X'.same hl, fun x H2 hy => ?_⟩
          obtain ⟨B2, gr, dq⟩ := wk.yld B' H' i x H2 ds[i] R'.sit X'.same (List.getElem?_eq_getElem hl) hy
          have R2 := (gr.relK R').1
          rw [drop_cons hl, turnsD] at hrest
          cases qt : turnD g t el (hideE own e) ds[i] with
          | none => rw [qt] at hrest; cases hrest
          | some rr =>
            rw [qt] at hrest
            refine turn_sem hL (R2.hide own) hide_own dq qt (fun z B4 H4 y hz g4 hyz => ?_) (fun B4 H4 hz g4 => ?_)
            · subst hz
              have g5 := gr.trans g4
              dsimp only at hrest
              cases q2 : turnsD g t el (hideE own e) (ds.drop (i + 1)) with
              | none => rw [q2] at hrest; cases hrest
              | some rest2 =>
                rw [q2] at hrest
                have hrest : some (z :: rest2) = some rest := hrest
                cases hrest
                rw [svs] at hr
                cases q3 : z.sv with
                | none => rw [q3] at hr; cases hr
                | some u =>
                  cases q4 : svs rest2 with
                  | none => rw [q3, q4] at hr; cases hr
                  | some us =>
                    rw [q3, q4] at hr
                    cases hr
                    exact ⟨ds.length - (i + 1), us, by omega, by rw [dq_sv hyz q3], B4, rest2, rfl, hl, (g5.relK R').1, X'.trans (g5.relK R').2, q2, q4⟩
            · subst hz
              have g5 := gr.trans g4
              exact ⟨ds.length - (i + 1), by omega, B4, rest, rfl, hl, (g5.relK R').1, X'.trans (g5.relK R').2, hrest, hr⟩
        · left
          have h0 : ds.drop i = [] := List.drop_eq_nil_of_le (by omega)
          rw [h0, turnsD] at hrest
          cases hrest
          cases hr
          exact ⟨wk.stop B' H' i R'.sit X'.same (by omega), rfl⟩
      · rintro i m r H3 ⟨B', rest, _, _, R', X', _⟩
        exact hR Q H3 (P1 B' H3 R' X' v (sv_dq hv))
end
end Pf
namespace Pf
open PySem PySem.Spec PyProof.Rows L2 GxR GenW Gx
section
variable {X : Cx} {S : Se} {M : Xw}
/-! ### operators of integers -/
def cI (b : Int → Int → Bool) (gd : Int → Int → D) : D → D → Option D
  | .int i, .int j => if b i j = true then some (gd i j) else none
  | _, _ => none
def cI0 (gd : Int → Int → D) : D → D → Option D
  | .int i, .int j => some (gd i j)
  | _, _ => none
theorem opdI0 {op : Value → Value → Sem Value} {g : Int → Int → V} {gd : Int → Int → D} (h : OpR X op (rI0 g)) (hg : ∀ B i j, Dq X.K B (g i j) (gd i j)) : OpD X S op (cI0 gd) := ⟨_, h, fun B H x y d e z Q s hx hy hc w => by
  revert hc
  cases hx <;> cases hy <;> intro hc <;> first | (cases hc; exact ⟨_, _, rfl, rfl, Wish.now s w (hg B _ _)⟩) | cases hc⟩
theorem opdI {op : Value → Value → Sem Value} {g : Int → Int → V} {gd : Int → Int → D} {C : Int → Int → Prop} {b : Int → Int → Bool} (h : OpR X op (rI C g)) (hC : ∀ i j, b i j = true → C i j) (hg : ∀ B i j, Dq X.K B (g i j) (gd i j)) :
    OpD X S op (cI b gd) := ⟨_, h, fun B H x y d e z Q s hx hy hc w => by
  revert hc
  cases hx <;> cases hy <;> intro hc <;> first
    | (rename_i i j
       have hc : (if b i j = true then some (gd i j) else none) = some z := hc
       split at hc
       · rename_i hb
         cases hc; exact ⟨_, _, rfl, rfl, hC _ _ hb, Wish.now s w (hg B _ _)⟩
       · cases hc)
    | cases hc⟩
theorem OpD.or {op : Value → Value → Sem Value} {c c' : D → D → Option D} (h : OpD X S op c) (h' : OpD X S op c') : OpD X S op (fun d e => (c d e).orElse fun _ => c' d e) := by
  obtain ⟨r, h1, h2⟩ := h.ex
  obtain ⟨r', h1', h2'⟩ := h'.ex
  refine ⟨_, h1.or h1', fun B H x y d e z Q s hx hy hc w => ?_⟩
  cases q : c d e with
  | some z' =>
    rw [q] at hc
    cases hc
    exact .inl (h2 B H x y d e _ Q s hx hy q w)
  | none =>
    rw [q] at hc
    exact .inr (h2' B H x y d e z Q s hx hy hc w)
def dAdd : D → D → Option D := cI0 fun i j => .int (i + j)
theorem od_add : OpD X S (binaryOp .Add) dAdd := opdI0 op_add fun _ _ _ => .int _
def dSub : D → D → Option D := cI0 fun i j => .int (i - j)
theorem od_sub : OpD X S (binaryOp .Sub) dSub := opdI0 op_sub fun _ _ _ => .int _
def mulOk (i j : Int) : Bool := decide ((-(2 ^ 64) < i ∧ i < 2 ^ 64 ∨ -(2 ^ 64) < j ∧ j < 2 ^ 64) ∨ i.natAbs.log2 + j.natAbs.log2 < 1000000)
def dMul : D → D → Option D := cI mulOk fun i j => .int (i * j)
theorem od_mul : OpD X S (binaryOp .Mult) dMul := ⟨_, OpR.or op_mul op_mulW, fun B H x y d e z Q s hx hy hc w => by
  revert hc
  cases hx <;> cases hy <;> intro hc <;> first | cases hc | skip
  rename_i i j
  have hc : (if mulOk i j = true then some (D.int (i * j)) else none) = some z := hc
  split at hc
  · rename_i hb
    cases hc
    rcases of_decide_eq_true hb with h | h
    · exact .inl ⟨_, _, rfl, rfl, h, Wish.now s w (.int _)⟩
    · exact .inr ⟨_, _, rfl, rfl, h, Wish.now s w (.int _)⟩
  · cases hc⟩
def dFdv : D → D → Option D := cI (fun i j => decide (0 < j ∧ j.natAbs.log2 < 9000)) fun i j => .int (i / j)
theorem od_fdv : OpD X S (binaryOp .FloorDiv) dFdv := opdI op_fdivW (fun i j h => by have h := of_decide_eq_true h; exact h) fun _ _ _ => .int _
def dMod : D → D → Option D := cI (fun _ j => decide (0 < j)) fun i j => .int (i % j)
theorem od_mod : OpD X S (binaryOp .Mod) dMod := opdI op_mod (fun i j h => by have h := of_decide_eq_true h; exact h) fun _ _ _ => .int _
def dPow : D → D → Option D := cI (fun i j => decide (0 ≤ j ∧ j ≤ 1000000 ∧ i.natAbs < 2 ^ 64)) fun i j => .int (i ^ j.toNat)
theorem od_pow : OpD X S (binaryOp .Pow) dPow := opdI op_pow (fun i j h => by have h := of_decide_eq_true h; exact h) fun _ _ _ => .int _
def dLt : D → D → Option D := cI0 fun i j => .bl (decide (i < j))
theorem od_lt : OpD X S (compareOp .Lt) dLt := opdI0 op_lt fun _ _ _ => .bl _
def dLe : D → D → Option D := cI0 fun i j => .bl (decide (i ≤ j))
theorem od_le : OpD X S (compareOp .LtE) dLe := opdI0 op_le fun _ _ _ => .bl _
def dGt : D → D → Option D := cI0 fun i j => .bl (decide (j < i))
theorem od_gt : OpD X S (compareOp .Gt) dGt := opdI0 op_gt fun _ _ _ => .bl _
def dGe : D → D → Option D := cI0 fun i j => .bl (decide (j ≤ i))
theorem od_ge : OpD X S (compareOp .GtE) dGe := opdI0 op_ge fun _ _ _ => .bl _
/-- equal as Python's == says -/
def D.eqv (d e : D) : Option Bool :=
  match d.py, e.py with
  | some p, some q => if SeqAt.shaped p && SeqAt.shaped q then some (PyData.eqv p q) else none
  | _, _ => none
def dEq (d e : D) : Option D := (d.eqv e).map .bl
def dNe (d e : D) : Option D := (d.eqv e).map fun b => .bl (!b)
theorem eqv_at {B H : Hp} {x y : V} {d e : D} {b : Bool} (s : Sit X.K S B H) (hx : Dq X.K B x d) (hy : Dq X.K B y e) (h : d.eqv e = some b) :
    ∃ p q, Dp X.K H x p ∧ Dp X.K H y q ∧ SeqAt.shaped p = true ∧ SeqAt.shaped q = true ∧ PyData.eqv p q = b := by
  unfold D.eqv at h
  cases q1 : d.py with
  | none => rw [q1] at h; cases h
  | some p =>
    cases q2 : e.py with
    | none => rw [q1, q2] at h; cases h
    | some q =>
      rw [q1, q2] at h
      dsimp only at h
      split at h
      · rename_i hs
        cases h
        rw [Bool.and_eq_true] at hs
        exact ⟨p, q, (hx.mono s.bh).dp q1, (hy.mono s.bh).dp q2, hs.1, hs.2, rfl⟩
      · cases h
theorem od_eq (hu : X.A.units + 64 < cLine) : OpD X S (compareOp .Eq) dEq := ⟨_, op_eqD hu, fun B H x y d e z Q s hx hy hc w => by
  unfold dEq at hc
  cases q : d.eqv e with
  | none => rw [q] at hc; cases hc
  | some b =>
    rw [q] at hc
    cases hc
    obtain ⟨p, p', h1, h2, h3, h4, h5⟩ := eqv_at s hx hy q
    exact ⟨p, p', h1, h2, h3, h4, by rw [h5]; exact w.now s (.bl b)⟩⟩
theorem od_ne (hu : X.A.units + 64 < cLine) : OpD X S (compareOp .NotEq) dNe := ⟨_, op_neD hu, fun B H x y d e z Q s hx hy hc w => by
  unfold dNe at hc
  cases q : d.eqv e with
  | none => rw [q] at hc; cases hc
  | some b =>
    rw [q] at hc
    cases hc
    obtain ⟨p, p', h1, h2, h3, h4, h5⟩ := eqv_at s hx hy q
    exact ⟨p, p', h1, h2, h3, h4, by rw [h5]; exact w.now s (.bl _)⟩⟩
def D.isN : D → Bool
  | .non => true
  | _ => false
theorem dq_non {B : Hp} {v : V} {d : D} (h : Dq X.K B v d) : decide (v = .non) = d.isN := by
  cases h <;> simp [D.isN]
def dIsN (d e : D) : Option D := if e.isN then some (.bl d.isN) else none
theorem od_isN : OpD X S (compareOp .Is) dIsN := ⟨_, op_isN, fun B H x y d e z Q s hx hy hc w => by
  unfold dIsN at hc
  split at hc
  · rename_i he
    cases hc
    have hy' := dq_non hy
    rw [he] at hy'
    exact ⟨of_decide_eq_true hy', by rw [dq_non hx]; exact w.now s (.bl _)⟩
  · cases hc⟩
def dAddS : D → D → Option D
  | .str a, .str b => if a.length + b.length ≤ sizeLine then some (.str (a ++ b)) else none
  | _, _ => none
theorem od_addS : OpD X S (binaryOp .Add) dAddS := ⟨_, op_add_str, fun B H x y d e z Q s hx hy hc w => by
  revert hc
  cases hx <;> cases hy <;> intro hc <;> first
    | (rename_i a b
       have hc : (if a.length + b.length ≤ sizeLine then some (D.str (a ++ b)) else none) = some z := hc
       split at hc
       · rename_i hb
         cases hc; exact ⟨_, _, rfl, rfl, hb, Wish.now s w (.str _)⟩
       · cases hc)
    | cases hc⟩
/-! ### x op= e -/
theorem ipI0 {op : Operator} {g : Int → Int → Int} (h : PIp X op (ipI g)) : IpD X S op (cI0 fun i j => .int (g i j)) := ⟨_, h, fun B H x y d e z Q s hx hy hc w => by
  revert hc
  cases hx <;> cases hy <;> intro hc <;> first | (cases hc; exact ⟨_, _, rfl, rfl, Wish.now s w (.int _)⟩) | cases hc⟩
theorem id_add : IpD X S .Add dAdd := ipI0 ip_add
/-! ### new lists by operators -/
structure OpN (X : Cx) (S : Se) (op : Value → Value → Sem Value) (c : D → D → Option (List D)) : Prop where
  ex : ∃ r, OpR X op r ∧ ∀ B H x y d e zs Q, Sit X.K S B H → Dq X.K B x d → Dq X.K B y e → c d e = some zs → (∀ p vs, H p = none → DqAll X.K B vs zs → Q (.ref p) (upd H p (.lst vs))) → r x y H Q
def fN2 (f g : List Sl → Rs D) (c : D → D → Option (List D)) (env : List Sl) : Rs Ow :=
  (f env).bind fun d e => (g e).bind fun d2 e2 => .opt ((c d d2).map .l) e2
theorem pn_op {a b : Expr} {op : Operator} {pos : Pos} {f g : List Sl → Rs D} {c : D → D → Option (List D)} (o : OpN X S (binaryOp op) c) (ha : PV X S M a f) (hb : PV X S M b g) :
    PN X S M (.BinOp a op b pos) (fN2 f g c) := by
  obtain ⟨r, h1, h2⟩ := o.ex
  refine ⟨peI (pe_op h1 ha.pe hb.pe) ?_⟩
  rintro σ H Q ⟨B, env, R, P⟩
  refine ⟨B, env, R, (Post.bind P).mono fun d e B1 H1 R1 X1 P1 x hx => ⟨B1, e, R1, (Post.bind P1).mono fun d2 e2 B2 H2 R2 X2 P2 y hy => ?_⟩⟩
  cases q : c d d2 with
  | none => rw [q] at P2; exact P2.elim
  | some zs =>
    rw [q] at P2
    refine h2 B2 H2 x y d d2 zs Q R2.sit (hx.mono X2.same) hy q fun p vs hp hd => ?_
    obtain ⟨R3, X3, F⟩ := Fresh.new (o := .lst vs) R2 hp
    exact P2 _ _ R3 X3 p _ (X1.live p (X2.live p hp)) F hd
def dCat : D → D → Option (List D)
  | .lst xs, .lst ys => if xs.length + ys.length ≤ sizeLine then some (xs ++ ys) else none
  | _, _ => none
theorem on_cat : OpN X S (binaryOp .Add) dCat := ⟨_, op_cat, fun B H x y d e zs Q s hx hy hc w => by
  revert hc
  cases hx <;> cases hy <;> intro hc <;> first | cases hc | skip
  rename_i vs xs h1 h2 _ us ys h3 h4
  have hc : (if xs.length + ys.length ≤ sizeLine then some (xs ++ ys) else none) = some zs := hc
  split at hc
  · rename_i hl
    cases hc
    exact ⟨_, _, vs, us, rfl, rfl, s.bh _ _ h1, s.bh _ _ h3, by rw [h2.length, h4.length]; exact hl, fun p hp => w p _ hp (h2.append h4)⟩
  · cases hc⟩
theorem dqall_rep {K : PySem.W.Frag} {B : Hp} {vs : List V} {ds : List D} (h : DqAll K B vs ds) : ∀ n, DqAll K B (List.replicate n vs).flatten (List.replicate n ds).flatten
  | 0 => .nil
  | n + 1 => by
    rw [List.replicate_succ, List.flatten_cons, List.replicate_succ, List.flatten_cons]
    exact h.append (dqall_rep h n)
def dRep : D → D → Option (List D)
  | .lst xs, .int k => if -(2 ^ 63) ≤ k ∧ k < 2 ^ 63 ∧ xs.length * k.toNat ≤ sizeLine then some (List.replicate k.toNat xs).flatten else none
  | _, _ => none
theorem on_rep : OpN X S (binaryOp .Mult) dRep := ⟨_, op_rep, fun B H x y d e zs Q s hx hy hc w => by
  revert hc
  cases hx <;> cases hy <;> intro hc <;> first | cases hc | skip
  rename_i vs xs h1 h2 k
  have hc : (if -(2 ^ 63) ≤ k ∧ k < 2 ^ 63 ∧ xs.length * k.toNat ≤ sizeLine then some (List.replicate k.toNat xs).flatten else none) = some zs := hc
  split at hc
  · rename_i hl
    cases hc
    exact ⟨_, _, vs, rfl, rfl, s.bh _ _ h1, hl.1, hl.2.1, by rw [h2.length]; exact hl.2.2, fun p hp => w p _ hp (dqall_rep h2 _)⟩
  · cases hc⟩
/-! ### calls of what is built in -/
structure CalD (X : Cx) (S : Se) (v : Value) (c : List D → Option D) : Prop where
  ex : ∃ r, CallR X v r ∧ ∀ B H vs ds z Q, Sit X.K S B H → DqAll X.K B vs ds → c ds = some z → Wish X.K S B H z Q → r vs H Q
def fCB (g : List Sl → Rs (List D)) (c : List D → Option D) (env : List Sl) : Rs D := (g env).bind fun ds e => Rs.opt (c ds) e
theorem sem_cb {r : List V → Hp → VK → Prop} {g : List Sl → Rs (List D)} {c : List D → Option D}
    (h : ∀ B H vs ds z Q, Sit X.K S B H → DqAll X.K B vs ds → c ds = some z → Wish X.K S B H z Q → r vs H Q) : ∀ σ H Q, semE X.K S M (fCB g c) σ H Q → tCB r (semA X.K S M g) σ H Q := by
  rintro σ H Q ⟨B, env, R, P⟩
  refine ⟨B, env, R, (Post.bind P).mono fun ds e B1 H1 R1 X1 P1 vs hvs => ?_⟩
  cases q : c ds with
  | none => rw [q] at P1; exact P1.elim
  | some z =>
    rw [q] at P1
    exact h B1 H1 vs ds z Q R1.sit hvs q (Post.wish R1 P1)
theorem pv_callB {x : Str} {p pos : Pos} {e : Expr} {es : List Expr} {id : String} {g : List Sl → Rs (List D)} {c : List D → Option D} (hc : CalD X S (.builtin id) c) (hg : Gl X x) (hm : X.mg x = none) (hv : bootBuiltins x = some (.builtin id)) (ha : PAs X S M (e :: es) g)
    (h1 : x ≠ "__name__" := by decide) (h2 : (x == Str.ofString "__debug__") = false := by rfl) (h3 : starEach (e :: es) X.env = (false, eval e X.env) :: starEach es X.env := by rfl)
    (h4 : ((backTo pos (starEach es X.env)).any fun x => x.1) = false := by rfl) : PV X S M (.Call (.Name x p) (e :: es) [] pos) (fCB g c) := by
  obtain ⟨r, c1, c2⟩ := hc.ex
  exact ⟨peI (pe_callB c1 hg hm hv ha.pa h1 h2 h3 h4) (sem_cb c2)⟩
theorem pv_callTy {x : Str} {p pos : Pos} {e : Expr} {es : List Expr} {T : String} {g : List Sl → Rs (List D)} {c : List D → Option D} (hc : CalD X S (.type T) c) (hg : Gl X x) (hm : X.mg x = none) (hv : bootBuiltins x = some (.type T)) (ha : PAs X S M (e :: es) g)
    (h1 : x ≠ "__name__" := by decide) (h2 : (x == Str.ofString "__debug__") = false := by rfl) (h3 : starEach (e :: es) X.env = (false, eval e X.env) :: starEach es X.env := by rfl)
    (h4 : ((backTo pos (starEach es X.env)).any fun x => x.1) = false := by rfl) : PV X S M (.Call (.Name x p) (e :: es) [] pos) (fCB g c) := by
  obtain ⟨r, c1, c2⟩ := hc.ex
  exact ⟨peI (pe_callTy c1 hg hm hv ha.pa h1 h2 h3 h4) (sem_cb c2)⟩
def cLen : List D → Option D
  | [.lst xs] => some (.int xs.length)
  | [.tup xs] => some (.int xs.length)
  | [.scr xs] => some (.int xs.length)
  | _ => none
theorem dqall_one {K : PySem.W.Frag} {B : Hp} {vs : List V} {d : D} (h : DqAll K B vs [d]) : ∃ v, vs = [v] ∧ Dq K B v d := by
  obtain ⟨⟩ := h
  rename_i v vs a1 a2
  cases a2
  exact ⟨v, rfl, a1⟩
theorem dqall_two {K : PySem.W.Frag} {B : Hp} {vs : List V} {d d2 : D} (h : DqAll K B vs [d, d2]) : ∃ v v2, vs = [v, v2] ∧ Dq K B v d ∧ Dq K B v2 d2 := by
  obtain ⟨⟩ := h
  rename_i v vs a1 a2
  obtain ⟨v2, rfl, a3⟩ := dqall_one a2
  exact ⟨v, v2, rfl, a1, a3⟩
theorem cd_len : CalD X S (.builtin "len") cLen := ⟨_, call_len_seq, fun B H vs ds z Q s hd hc w => by
  unfold cLen at hc
  split at hc <;> first | cases hc | skip
  · obtain ⟨v, rfl, hv⟩ := dqall_one hd
    cases hv with
    | lst h1 h2 => exact ⟨_, _, rfl, .inl (SqL.of (s.bh _ _ h1)), by rw [h2.length]; exact w.now s (.int _)⟩
  · obtain ⟨v, rfl, hv⟩ := dqall_one hd
    cases hv with
    | tup h1 h2 => exact ⟨_, _, rfl, .inr (same_tup s.bh h1), by rw [h2.length]; exact w.now s (.int _)⟩
  · obtain ⟨v, rfl, hv⟩ := dqall_one hd
    cases hv with
    | scr h1 => exact ⟨_, _, rfl, .inl (same_seqL s.bh h1), by rw [List.length_map]; exact w.now s (.int _)⟩⟩
def cAbs : List D → Option D
  | [.int i] => some (.int (if i < 0 then -i else i))
  | _ => none
theorem cd_abs : CalD X S (.builtin "abs") cAbs := ⟨_, call_abs, fun B H vs ds z Q s hd hc w => by
  unfold cAbs at hc
  split at hc <;> first | cases hc | skip
  obtain ⟨v, rfl, hv⟩ := dqall_one hd
  cases hv
  exact ⟨_, rfl, w.now s (.int _)⟩⟩
def cTuple : List D → Option D
  | [.lst xs] => some (.tup xs)
  | [.tup xs] => some (.tup xs)
  | _ => none
theorem cd_tuple : CalD X S (.type "tuple") cTuple := ⟨_, cr_tupF, fun B H vs ds z Q s hd hc w => by
  unfold cTuple at hc
  split at hc <;> first | cases hc | skip
  · obtain ⟨v, rfl, hv⟩ := dqall_one hd
    cases hv with
    | @lst a us _ h1 h2 =>
      refine ⟨_, _, rfl, .inl ⟨SqL.of (s.bh _ _ h1), fun l ob hl hd => ?_⟩⟩
      have gr := Grow.alloc (X := X) (o := HO.frz ob (.tup us)) s.tab s.bh s.nt hl (fun ps h => by cases h)
      exact w _ _ _ gr (.tup (SqU.new hd) (h2.mono gr.same))
  · obtain ⟨v, rfl, hv⟩ := dqall_one hd
    cases hv with
    | tup h1 h2 => exact ⟨_, _, rfl, .inr ⟨same_tup s.bh h1, w.now s (.tup h1 h2)⟩⟩⟩
def cMax2 : List D → Option D
  | [.int i, .int j] => some (.int (if j > i then j else i))
  | _ => none
theorem cd_max2 (hc : X.calm = true) : CalD X S (.builtin "max") cMax2 := ⟨_, call_max2 hc, fun B H vs ds z Q s hd hc w => by
  unfold cMax2 at hc
  split at hc <;> first | cases hc | skip
  obtain ⟨v, v2, rfl, hv, hv2⟩ := dqall_two hd
  cases hv
  cases hv2
  exact ⟨_, _, rfl, w.now s (.int _)⟩⟩
/-- list(xs) -/
def fNewL (g : List Sl → Rs (List D)) (env : List Sl) : Rs Ow := (g env).bind fun ds e => match ds with
  | [.lst xs] => .ok (.l xs) e
  | [.tup xs] => .ok (.l xs) e
  | _ => .bad
theorem pn_list {x : Str} {p pos : Pos} {e : Expr} {g : List Sl → Rs (List D)} (hg : Gl X x) (hm : X.mg x = none) (hv : bootBuiltins x = some (.type "list")) (ha : PAs X S M [e] g)
    (h1 : x ≠ "__name__" := by decide) (h2 : (x == Str.ofString "__debug__") = false := by rfl) (h3 : starEach [e] X.env = (false, eval e X.env) :: starEach [] X.env := by rfl)
    (h4 : ((backTo pos (starEach [] X.env)).any fun x => x.1) = false := by rfl) : PN X S M (.Call (.Name x p) [e] [] pos) (fNewL g) := ⟨peI (pe_callTy call_list_of hg hm hv ha.pa h1 h2 h3 h4) (by
  rintro σ H Q ⟨B, env, R, P⟩
  refine ⟨B, env, R, (Post.bind P).mono fun ds e B1 H1 R1 X1 P1 vs hvs => ?_⟩
  split at P1
  · obtain ⟨v, rfl, hv⟩ := dqall_one hvs
    cases hv with
    | lst h1 h2 =>
      refine ⟨_, _, rfl, .inl (SqL.of (R1.bh _ _ h1)), fun l hl => ?_⟩
      obtain ⟨R3, X3, F⟩ := Fresh.new (o := .lst _) R1 hl
      exact P1 _ _ R3 X3 l _ (X1.live l hl) F h2
  · obtain ⟨v, rfl, hv⟩ := dqall_one hvs
    cases hv with
    | tup h1 h2 =>
      refine ⟨_, _, rfl, .inr (same_tup R1.bh h1), fun l hl => ?_⟩
      obtain ⟨R3, X3, F⟩ := Fresh.new (o := .lst _) R1 hl
      exact P1 _ _ R3 X3 l _ (X1.live l hl) F h2
  · exact P1.elim)⟩
end
end Pf
namespace Pf
open PySem PySem.Spec PyProof.Rows L2 GxR GenW Gx
section
variable {X : Cx} {S : Se} {M : Xw}
/-! ### isinstance -/
def tyNs : List String := ["NoneType", "bool", "int", "str", "list", "tuple"]
def isBT (a b : String) : Bool := a == b || (a == "bool" && b == "int")
theorem kitB_all : (tyNs.all fun a => tyNs.all fun b => kitB a b == some (isBT a b)) = true := by decide +kernel
theorem kitB_at {a b : String} (ha : a ∈ tyNs) (hb : b ∈ tyNs) : kitB a b = some (isBT a b) := by
  have := List.all_eq_true.mp (List.all_eq_true.mp kitB_all a ha) b hb
  exact eq_of_beq this
def D.ty : D → Option String
  | .non => some "NoneType"
  | .bl _ => some "bool"
  | .int _ => some "int"
  | .str _ => some "str"
  | .lst _ => some "list"
  | .tup _ => some "tuple"
  | .scr _ => some "list"
  | .rng _ _ => none
theorem ty_in {d : D} {a : String} (h : d.ty = some a) : a ∈ tyNs := by
  cases d <;> cases h <;> simp [tyNs]
theorem sqL_ty {K : PySem.W.Frag} {H : Hp} {a : Addr} {xs : List V} (h : SqL K H a xs) : TyX K H (.ref a) (.type "list") := by
  rcases h with (h | ⟨o, h⟩) | ⟨o, its, n, h1, h2, _⟩
  · exact .base (.lst h)
  · exact .base (.frz h)
  · exact .kList h1 h2
theorem sqT_ty {K : PySem.W.Frag} {H : Hp} {a : Addr} {xs : List V} (h : SqT K H a xs) : TyX K H (.ref a) (.type "tuple") := by
  rcases h with (h | ⟨o, h⟩) | ⟨o, its, n, h1, h2, _⟩
  · exact .base (.tup h)
  · exact .fTuple h
  · exact .kTuple h1 h2
theorem dq_ty {K : PySem.W.Frag} {B H : Hp} {v : V} {d : D} {a : String} (bh : Same B H) (hd : Dq K B v d) (h : d.ty = some a) : TyX K H v (.type a) := by
  cases hd <;> cases h
  · exact .base .non
  · exact .base (.bl _)
  · exact .base (.int _)
  · exact .base (.str _)
  · rename_i h1 h2
    exact .base (.lst (bh _ _ h1))
  · rename_i h1 h2
    exact sqT_ty (same_tup bh h1)
  · rename_i h1
    exact sqL_ty (same_seqL bh h1)
theorem kitAny_at {K : PySem.W.Frag} {a : String} (ha : a ∈ tyNs) : ∀ {ts : List String}, (∀ t ∈ ts, t ∈ tyNs) → PySem.W.kitAny K (.type a) (ts.map Value.type) = some (ts.any (isBT a))
  | [], _ => rfl
  | t :: ts, h => by
    have h1 := kit_ty (K := K) (kitB_at ha (h t List.mem_cons_self))
    have h2 := kitAny_at (K := K) ha (ts := ts) fun u hu => h u (List.mem_cons_of_mem _ hu)
    show (match PySem.W.kitOne K (.type a) (.type t) with | some true => some true | some false => PySem.W.kitAny K (.type a) (ts.map Value.type) | none => none) = _
    rw [h1, h2, List.any_cons]
    cases isBT a t <;> rfl
structure PTy (X : Cx) (es : List Expr) (ts : List String) : Prop where
  pa : PA X es fun σ H Q => Q (ts.map V.ty) H
  ok : ∀ t ∈ ts, t ∈ tyNs
theorem pty_nil : PTy X [] [] := ⟨paI pa_nil (fun σ H Q h => h), fun t h => by cases h⟩
theorem pty_cons {x : Str} {p : Pos} {T : String} {es : List Expr} {ts : List String} (hg : Gl X x) (hm : X.mg x = none) (hv : bootBuiltins x = some (.type T)) (hT : T ∈ tyNs) (hs : PTy X es ts)
    (h1 : x ≠ "__name__" := by decide) (h2 : (x == Str.ofString "__debug__") = false := by rfl) (h3 : starEach (.Name x p :: es) X.env = (false, eval (.Name x p) X.env) :: starEach es X.env := by rfl) :
    PTy X (.Name x p :: es) (T :: ts) := ⟨paI (pa_cons (pe_bltn (v := .ty T) hg hm hv rfl h1 h2) hs.pa h3) (fun σ H Q h => h), fun t h => (List.mem_cons.mp h).elim (fun z => z ▸ hT) (hs.ok t)⟩
def fIsi (f : List Sl → Rs D) (ts : List String) (env : List Sl) : Rs D := (f env).bind fun d e => Rs.opt (d.ty.map fun a => .bl (ts.any (isBT a))) e
theorem pv_isi {ip p q : Pos} {a : Expr} {x : Str} {T : String} {f : List Sl → Rs D} (hg0 : Gl X "isinstance") (hm0 : X.mg "isinstance" = none) (ha : PV X S M a f)
    (hg : Gl X x) (hm : X.mg x = none) (hv : bootBuiltins x = some (.type T)) (hT : T ∈ tyNs)
    (h1 : x ≠ "__name__" := by decide) (h2 : (x == Str.ofString "__debug__") = false := by rfl)
    (h3 : starEach [a, .Name x p] X.env = (false, eval a X.env) :: starEach [.Name x p] X.env := by rfl)
    (h4 : starEach [.Name x p] X.env = (false, eval (.Name x p) X.env) :: starEach [] X.env := by rfl)
    (h5 : ((backTo q (starEach [.Name x p] X.env)).any fun x => x.1) = false := by rfl) :
    PV X S M (.Call (.Name "isinstance" ip) [a, .Name x p] [] q) (fIsi f [T]) :=
  ⟨peI (pe_callB call_isi hg0 hm0 (by decide +kernel) (pa_cons ha.pe (pa_cons (pe_bltn (v := .ty T) hg hm hv rfl h1 h2) pa_nil h4) h3) (by decide) rfl h3 h5) (by
  rintro σ H Q ⟨B, env, R, P⟩
  refine ⟨B, env, R, (Post.bind P).mono fun d e B1 H1 R1 X1 P1 v hv => ?_⟩
  cases q : d.ty with
  | none => rw [q] at P1; exact P1.elim
  | some a =>
    rw [q] at P1
    exact ⟨v, .ty T, .type a, .type T, isBT a T, rfl, .ty T, dq_ty R1.bh hv q, kit_ty (kitB_at (ty_in q) hT), P1.ok R1 _ (by simp; exact .bl _)⟩)⟩
theorem paired_ty : ∀ ts : List String, Paired ClsV (ts.map V.ty) (ts.map Value.type)
  | [] => .nil
  | t :: ts => .cons (.ty t) (paired_ty ts)
theorem pv_isiT {ip tp q : Pos} {a : Expr} {kk : Nat} {es : List Expr} {ts : List String} {f : List Sl → Rs D} (hg0 : Gl X "isinstance") (hm0 : X.mg "isinstance" = none) (ha : PV X S M a f)
    (ht : PTy X es ts) (hl : ts.length ≤ 30 := by decide)
    (h3 : starEach [a, .Tuple es kk tp] X.env = (false, eval a X.env) :: starEach [.Tuple es kk tp] X.env := by rfl)
    (h4 : starEach [.Tuple es kk tp] X.env = (false, eval (.Tuple es kk tp) X.env) :: starEach [] X.env := by rfl)
    (h5 : ((backTo q (starEach [.Tuple es kk tp] X.env)).any fun x => x.1) = false := by rfl) :
    PV X S M (.Call (.Name "isinstance" ip) [a, .Tuple es kk tp] [] q) (fIsi f ts) :=
  ⟨peI (pe_callB call_isiT hg0 hm0 (by decide +kernel) (pa_cons ha.pe (pa_cons (pe_tup ht.pa) pa_nil h4) h3) (by decide) rfl h3 h5) (by
  rintro σ H Q ⟨B, env, R, P⟩
  refine ⟨B, env, R, (Post.bind P).mono fun d e B1 H1 R1 X1 P1 v hv => ?_⟩
  cases q : d.ty with
  | none => rw [q] at P1; exact P1.elim
  | some a =>
    rw [q] at P1
    refine ⟨by rw [List.length_map]; exact Nat.le_trans hl (by decide), fun p hp => ?_⟩
    obtain ⟨R2, X2⟩ := R1.alloc (o := .tup (ts.map V.ty)) hp (fun ps h => by cases h)
    exact ⟨v, p, ts.map V.ty, .type a, ts.map Value.type, ts.any (isBT a), rfl, upd_same, paired_ty ts, dq_ty R2.bh (hv.mono X2.same) q, kitAny_at (ty_in q) ht.ok, P1 _ _ R2 X2 _ (.bl _)⟩)⟩
/-! ### generators within calls -/
def bls : List D → Option (List Bool)
  | [] => some []
  | .bl b :: ds => (bls ds).map (b :: ·)
  | _ :: _ => none
theorem bls_svs : ∀ {zs : List D} {bs : List Bool}, bls zs = some bs → svs zs = some (bs.map V.bl)
  | [], _, h => by cases h; rfl
  | .bl b :: ds, bs, h => by
    have h : (bls ds).map (b :: ·) = some bs := h
    cases q : bls ds with
    | none => rw [q] at h; cases h
    | some cs =>
      rw [q] at h
      cases h
      rw [svs, bls_svs q]
      rfl
  | .non :: _, _, h => by cases h
  | .int _ :: _, _, h => by cases h
  | .str _ :: _, _, h => by cases h
  | .lst _ :: _, _, h => by cases h
  | .tup _ :: _, _, h => by cases h
  | .scr _ :: _, _, h => by cases h
  | .rng _ _ :: _, _, h => by cases h
def intsD : List D → Option (List Int)
  | [] => some []
  | .int b :: ds => (intsD ds).map (b :: ·)
  | _ :: _ => none
def resAll (zs : List D) : Option D := (bls zs).map fun bs => .bl (bs.all id)
theorem rd_all : ResD resAll Gx.rAll := fun zs z h => by
  unfold resAll at h
  cases q : bls zs with
  | none => rw [q] at h; cases h
  | some bs =>
    rw [q] at h
    cases h
    refine ⟨_, _, bls_svs q, rfl, fun Q H hQ => ⟨fun y hy => ?_, ?_⟩⟩
    · obtain ⟨b, _, rfl⟩ := List.mem_map.mp hy
      exact ⟨b, rfl⟩
    · rw [show ((bs.map V.bl).all fun y => decide (y = .bl true)) = bs.all id from by
        rw [List.all_map]
        congr 1
        funext b
        cases b <;> simp]
      exact hQ
def maxI : Int → List Int → Int
  | t, [] => t
  | t, z :: r => maxI (if z > t then z else t) r
def resMax (zs : List D) : Option D := match intsD zs with
  | some (n :: ns) => some (.int (maxI n ns))
  | _ => none
end
end Pf
namespace Pf
open PySem PySem.Spec PyProof.Rows L2 GxR GenW Gx
section
variable {X : Cx} {S : Se} {M : Xw}
/-- what is asked of the inside of a generator expression -/
structure GenIn (X : Cx) (S : Se) (M : Xw) (k : Nat) (elt tg : Expr) (ifs : List Expr) (scope : Scope) (g : D → List Sl → Option (List Sl)) (t : List Sl → Rs Bool) (el : List Sl → Rs D) (L : List Nat) : Prop where
  hg : ∀ (A : Around) (s : Shared) (H : Hp) (C : Addr) (code : Value) (fp : List Addr) (pn : List (Addr × Obj)), Room k (A.deeper (genv X scope C code)) → PTg (gctx X A s H (genv X scope C code) fp pn) S tg g L
  ht : ∀ (A : Around) (s : Shared) (H : Hp) (C : Addr) (code : Value) (fp : List Addr) (pn : List (Addr × Obj)), Room k (A.deeper (genv X scope C code)) → PIf (gctx X A s H (genv X scope C code) fp pn) S M.calm ifs t
  he : ∀ (A : Around) (s : Shared) (H : Hp) (C : Addr) (code : Value) (fp : List Addr) (pn : List (Addr × Obj)), Room k (A.deeper (genv X scope C code)) → PV (gctx X A s H (genv X scope C code) fp pn) S M.calm elt el
section
variable {c P0 : Addr} {k : Nat} {elt tg iter : Expr} {ifs : List Expr} {scope : Scope} {own : List (Str × Nat)} {p pos gpos : Pos} {f : List Sl → Rs (List D)} {g : D → List Sl → Option (List Sl)} {t : List Sl → Rs Bool} {el : List Sl → Rs D} {L : List Nat}
theorem pv_all (hr : Room (k + 1) X.A) (hN : X.N.Nodup) (gl : Gl X "all") (hm : X.mg "all" = none) (TB : TabB X.base X.mg c P0) (hcode : X.env.code = .ref c) (hP : P0 ∈ S.T) (nm : Nm X.N X.env.scope scope own)
    (hi : PIt X S M tg iter f) (G : GenIn X S M k elt tg ifs scope g t el L) (hL : ∀ i ∈ L, i ∈ own.map (·.2))
    (h1 : ∀ v, genFold iter X.env v = pure v := by exact fun _ => rfl) (h2 : starEach [.GeneratorExp elt [⟨tg, iter, ifs, 0⟩] scope gpos] X.env = (false, eval (.GeneratorExp elt [⟨tg, iter, ifs, 0⟩] scope gpos) X.env) :: starEach [] X.env := by rfl) :
    PV X S M (.Call (.Name "all" p) [.GeneratorExp elt [⟨tg, iter, ifs, 0⟩] scope gpos] [] pos) (fGx f g t el (own.map (·.2)) resAll) :=
  ⟨peI (pe_all hr hN gl hm TB hcode nm hi.pi (fun A s H C code fp pn r => (G.hg A s H C code fp pn r).pg) (fun A s H C code fp pn r => (G.ht A s H C code fp pn r).pts) (fun A s H C code fp pn r => (G.he A s H C code fp pn r).pe) h1 h2) (sem_gx hP hL rd_all)⟩
end
/-! ### globals, raise -/
theorem pv_gint {x : Str} {i : Int} {t : Tok} {pos : Pos} (hg : Gl X x) (hm : X.mg x = some (.int i t)) (hd : (x == Str.ofString "__debug__") = false := by rfl) : PV X S M (.Name x pos) (fun env => .ok (.int i) env) :=
  pv_const (pe_glob (v := .int i) hg hm ⟨t, rfl⟩ hd) fun _ => .int i
theorem px_raise {e : Expr} {C : Addr} {x : Str} {pos : Pos} (hc : X.calm = true) (tk : Takes X fun cls d _ H => M.E cls d H) (hx : M.xc x = some (.ref C)) (hp : PMk X e fun _ H Q => Q (.ref C) none H) :
    PX X S M (.Raise (some e) none pos) (fun _ => .ex ⟨x, []⟩) := ⟨psI (ps_raise hc tk hp) (by
  rintro D0 σ H ⟨B, env, R, P⟩
  obtain ⟨C', h1, h2, _⟩ := P
  rw [hx] at h1
  cases h1
  exact h2 rfl H R.old R.tab)⟩
/-! ### own lists, looked at -/
def ownLen (i : Nat) (env : List Sl) : Rs D :=
  match env[i]? with
  | some (.im (.lst xs)) => .ok (.int xs.length) env
  | some (.im (.tup xs)) => .ok (.int xs.length) env
  | some (.im (.scr xs)) => .ok (.int xs.length) env
  | some (.ow (.l xs)) => .ok (.int xs.length) env
  | _ => .bad
theorem own_seq {B H : Hp} {env : List Sl} {σ : L2.St} {i : Nat} (R : Rel X.K S B env σ H) {n : Nat} {e2 : List Sl} (h : ownLen i env = .ok (.int n) e2) :
    e2 = env ∧ ∃ p vs, σ[i]? = some (some (.ref p)) ∧ (SqL X.K H p vs ∨ SqT X.K H p vs) ∧ vs.length = n := by
  unfold ownLen at h
  split at h
  · rename_i xs hx
    cases h
    obtain ⟨v, e1, e2⟩ := R.sl i _ hx
    cases e2 with
    | lst h1 h2 => exact ⟨rfl, _, _, e1, .inl (SqL.of (R.bh _ _ h1)), h2.length⟩
  · rename_i xs hx
    cases h
    obtain ⟨v, e1, e2⟩ := R.sl i _ hx
    cases e2 with
    | tup h1 h2 => exact ⟨rfl, _, _, e1, .inr (same_tup R.bh h1), h2.length⟩
  · rename_i xs hx
    cases h
    obtain ⟨v, e1, e2⟩ := R.sl i _ hx
    cases e2 with
    | scr h1 => exact ⟨rfl, _, _, e1, .inl (same_seqL R.bh h1), by simp⟩
  · rename_i xs hx
    cases h
    obtain ⟨p, vs, e1, e2, e3⟩ := ow_v R hx
    exact ⟨rfl, p, vs, e1, .inl (SqL.of e2), e3.length⟩
  · cases h
theorem ownLen_int {i : Nat} {env : List Sl} : (∃ n : Nat, ownLen i env = .ok (.int n) env) ∨ ownLen i env = .bad := by
  unfold ownLen
  split <;> first | exact .inl ⟨_, rfl⟩ | exact .inr rfl
theorem pv_lenN {x : Str} {i : Nat} {p pos p1 : Pos} (hN : X.N[i]? = some x) (hv : Vis X.env.scope x) (hg : Gl X "len") (hm : X.mg "len" = none)
    (hd1 : (x == Str.ofString "__debug__") = false := by rfl) (hd2 : (x == Str.ofString "__classdict__") = false := by rfl)
    (h3 : starEach [.Name x p1] X.env = (false, eval (.Name x p1) X.env) :: starEach [] X.env := by rfl) (h4 : ((backTo pos (starEach [] X.env)).any fun x => x.1) = false := by rfl) :
    PV X S M (.Call (.Name "len" p) [.Name x p1] [] pos) (ownLen i) := ⟨peI (pe_callB call_len_seq hg hm PySem.boot_len (pa_cons (pe_var hN hv hd1 hd2) pa_nil h3) (by decide) rfl h3 h4) (by
  rintro σ H Q ⟨B, env, R, P⟩
  rcases ownLen_int (i := i) (env := env) with ⟨n, h⟩ | h
  · rw [h] at P
    obtain ⟨_, q, vs, e1, e2, e3⟩ := own_seq R h
    exact ⟨_, e1, q, vs, rfl, e2, by rw [e3]; exact P.ok R _ (.int _)⟩
  · rw [h] at P
    exact P.elim)⟩
def ownTru (i : Nat) (env : List Sl) : Rs Bool := (ownLen i env).bind fun d e => match d with | .int n => .ok (n != 0) e | _ => .bad
theorem pb_truN {x : Str} {i : Nat} {p1 : Pos} (hN : X.N[i]? = some x) (hv : Vis X.env.scope x)
    (hd1 : (x == Str.ofString "__debug__") = false := by rfl) (hd2 : (x == Str.ofString "__classdict__") = false := by rfl)
    (he : ∀ whole, PySem.isTrue (.Name x p1) X.env whole = (do let v ← whole; standAt (Expr.Name x p1).pos; holding [v] (truthy v)) := by intro _; rfl) :
    PB X S M (.Name x p1) (ownTru i) := ⟨ptI (pt_truth (pe_var hN hv hd1 hd2) he) (by
  rintro σ H Q ⟨B, env, R, P⟩
  unfold ownTru at P
  rcases ownLen_int (i := i) (env := env) with ⟨n, h⟩ | h
  · rw [h] at P
    obtain ⟨_, q, vs, e1, e2, e3⟩ := own_seq R h
    have hb : ((n : Int) != 0) = !vs.isEmpty := by
      rw [← e3]
      cases vs <;> simp
      omega
    have P' : Post X.K S M σ B H env (.ok ((n : Int) != 0) env) (fun b _ B' H' => Q b H') := P
    refine ⟨_, e1, _, ?_, P'.ok R⟩
    rcases e2 with z | z
    · exact .inl ⟨vs, z, hb⟩
    · exact .inr (.inl ⟨vs, z, hb⟩)
  · rw [h] at P
    exact P.elim)⟩
/-! ### math.comb -/
theorem cr_comb : CallR X (.builtin "math.comb") fun vs H Q => ∃ a b : Int, vs = [.int a, .int b] ∧ (0 ≤ a ∧ 0 ≤ b ∧ a < 2 ^ 64 ∧ (b ≤ 9000 ∨ a ≤ 18000)) ∧ Q (.int (PySem.W.mcComb a b)) H := by
  intro pins s σ H vs us Qv I r h
  obtain ⟨a, b, rfl, hb, q⟩ := h
  have ⟨t, u, e⟩ := Vals.int2 r
  subst e
  exact PySem.call_function_meets PySem.W.MGF.kind_comb PySem.W.MGF.plain_comb PySem.W.MGF.entry_comb (PySem.W.MGF.args_comb _ _) (PySem.W.mc_gives_comb t u hb.1 hb.2.1 hb.2.2.1 hb.2.2.2).meets ⟨.int _, H, I.tok _, ⟨_, rfl⟩, q⟩
def cComb : List D → Option D
  | [.int a, .int b] => if 0 ≤ a ∧ 0 ≤ b ∧ a < 2 ^ 64 ∧ (b ≤ 9000 ∨ a ≤ 18000) then some (.int (PySem.W.mcComb a b)) else none
  | _ => none
theorem pv_comb {x : Str} {p pos : Pos} {e : Expr} {es : List Expr} {g : List Sl → Rs (List D)} (hg : Gl X x) (hm : X.mg x = some (.builtin "math.comb")) (ha : PAs X S M (e :: es) g)
    (h1 : (x == Str.ofString "__debug__") = false := by rfl) (h2 : starEach (e :: es) X.env = (false, eval e X.env) :: starEach es X.env := by rfl) (h3 : ((backTo pos (starEach es X.env)).any fun x => x.1) = false := by rfl) :
    PV X S M (.Call (.Name x p) (e :: es) [] pos) (fCB g cComb) := ⟨peI (pe_callBfun cr_comb hg hm ha.pa h1 h2 h3) (sem_cb fun B H vs ds z Q s hd hc w => by
  unfold cComb at hc
  split at hc <;> first | cases hc | skip
  obtain ⟨v, v2, rfl, hv, hv2⟩ := dqall_two hd
  cases hv
  cases hv2
  split at hc
  · rename_i hb
    cases hc
    exact ⟨_, _, rfl, hb, w.now s (.int _)⟩
  · cases hc)⟩
/-! ### int(), minus -/
def cInt : List D → Option D
  | [.int i] => some (.int i)
  | [.bl b] => some (.int (if b = true then 1 else 0))
  | _ => none
theorem cd_int : CalD X S (.type "int") cInt := ⟨_, call_int1, fun B H vs ds z Q s hd hc w => by
  unfold cInt at hc
  split at hc <;> first | cases hc | skip
  · obtain ⟨v, rfl, hv⟩ := dqall_one hd
    cases hv
    exact .inl ⟨_, rfl, w.now s (.int _)⟩
  · obtain ⟨v, rfl, hv⟩ := dqall_one hd
    cases hv
    exact .inr ⟨_, rfl, w.now s (.int _)⟩⟩
def fNeg (f : List Sl → Rs D) (env : List Sl) : Rs D := (f env).bind fun d e => match d with | .int i => .ok (.int (-i)) e | _ => .bad
theorem pv_neg {a : Expr} {pos : Pos} {f : List Sl → Rs D} (ha : PV X S M a f) : PV X S M (.UnaryOp .USub a pos) (fNeg f) := ⟨peI (pe_un un_neg ha.pe) (by
  rintro σ H Q ⟨B, env, R, P⟩
  refine ⟨B, env, R, (Post.bind P).mono fun d e B1 H1 R1 X1 P1 x hx => ?_⟩
  cases hx <;> first | exact P1.elim | skip
  exact ⟨_, rfl, P1.ok R1 _ (.int _)⟩)⟩
/-! ### in, tuples put together -/
def D.flat : D → Bool
  | .non => true
  | .bl _ => true
  | .int _ => true
  | .str _ => true
  | _ => false
/-- equal, of flat data -/
def eqF : D → D → Bool
  | .non, .non => true
  | .bl a, .bl b => a == b
  | .bl a, .int b => (if a = true then 1 else 0) == b
  | .int a, .bl b => a == if b = true then 1 else 0
  | .int a, .int b => a == b
  | .str a, .str b => a == b
  | _, _ => false
theorem dq_flat {K : PySem.W.Frag} {B : Hp} {v : V} {d : D} (h : Dq K B v d) : flatV v = d.flat := by
  cases h <;> rfl
theorem dq_eqF {K : PySem.W.Frag} {B : Hp} {v u : V} {d e : D} (h : Dq K B v d) (h' : Dq K B u e) (f : d.flat = true) (f' : e.flat = true) : eqV v u = eqF d e := by
  cases h <;> first | cases f | skip
  all_goals (cases h' <;> first | rfl | cases f')
theorem all_flat {K : PySem.W.Frag} {B : Hp} : ∀ {vs : List V} {ds : List D}, DqAll K B vs ds → vs.all flatV = ds.all D.flat
  | _, _, .nil => rfl
  | _, _, .cons a r => by rw [List.all_cons, List.all_cons, dq_flat a, all_flat r]
theorem any_eqF {K : PySem.W.Frag} {B : Hp} {x : V} {d : D} (hx : Dq K B x d) (f : d.flat = true) : ∀ {vs : List V} {ds : List D}, DqAll K B vs ds → ds.all D.flat = true → inV x vs = ds.any fun e => eqF e d
  | _, _, .nil, _ => rfl
  | _, _, .cons a r, h => by
    simp only [Bool.and_eq_true, List.all_cons] at h
    have := any_eqF hx f r h.2
    unfold inV at this ⊢
    rw [List.any_cons, List.any_cons, dq_eqF a hx h.1 f, this]
def dIn (neg : Bool) (d e : D) : Option D :=
  match e.items with
  | some xs => if d.flat && xs.all D.flat then some (.bl (if neg = true then !(xs.any fun e => eqF e d) else xs.any fun e => eqF e d)) else none
  | none => none
theorem in_at {B H : Hp} {neg : Bool} {x y : V} {d e z : D} {Q : VK} (s : Sit X.K S B H) (hx : Dq X.K B x d) (hy : Dq X.K B y e) (hc : dIn neg d e = some z) (w : Wish X.K S B H z Q) : rIn X.K neg x y H Q := by
  unfold dIn at hc
  cases q : e.items with
  | none => rw [q] at hc; cases hc
  | some xs =>
    rw [q] at hc
    dsimp only at hc
    split at hc
    · rename_i hf
      cases hc
      rw [Bool.and_eq_true] at hf
      have fin : ∀ {p : Addr} {vs : List V}, (SqL X.K H p vs ∨ SqT X.K H p vs) → DqAll X.K B vs xs → rIn X.K neg x (.ref p) H Q := fun sq hd =>
        ⟨_, _, rfl, sq, by rw [dq_flat hx]; exact hf.1, by rw [all_flat hd]; exact hf.2, by rw [any_eqF hx hf.1 hd hf.2]; exact w.now s (.bl _)⟩
      cases hy <;> first | cases q | skip
      · rename_i h1 h2
        exact fin (.inl (SqL.of (s.bh _ _ h1))) h2
      · rename_i h1 h2
        exact fin (.inr (same_tup s.bh h1)) h2
      · rename_i ns h1
        exact fin (.inl (same_seqL s.bh h1)) (DqAll.ints ns)
    · cases hc
theorem od_in : OpD X S (compareOp .In) (dIn false) := ⟨_, op_in_seq, fun B H x y d e z Q s hx hy hc w => in_at s hx hy hc w⟩
theorem od_notIn : OpD X S (compareOp .NotIn) (dIn true) := ⟨_, op_notIn_seq, fun B H x y d e z Q s hx hy hc w => in_at s hx hy hc w⟩
end
end Pf
-- tactics: a name, a place
namespace Pf
open PySem PySem.Spec PyProof.Rows L2 GxR GenW Gx
/-- the def st stands at f, its code at c -/
structure FunC (K : PySem.W.Frag) (x qual : Str) (st : Stmt) (f : Addr) (fd : FuncData) (c : Addr) : Prop where
  ex : ∃ (oc : Value) (od : Option Addr) (kV doc pm : Value) (an : Option Addr) (ct : Value) (osl : Array (Option Value)),
    fd = PySem.W.fnOf x qual (defArgs st) (defBody st) (defScope st) .none kV doc pm an (.ref c) ct ∧ K.lookup f = some ⟨oc, od, .func fd, osl⟩ ∧ PySem.W.codeIn K (.ref c) qual = true
  kp : (PySem.W.keepIn K (.ref f)) = true
theorem FunC.f {K : PySem.W.Frag} {x qual : Str} {st : Stmt} {f : Addr} {fd : FuncData} {c : Addr} (F : FunC K x qual st f fd c) : Fun K x qual st f fd := by
  obtain ⟨oc, od, kV, doc, pm, an, ct, osl, h1, h2, h3⟩ := F.ex
  subst h1
  exact fun_mk h2 h3 F.kp
theorem fn_pureC {P : Program} {w : World} {K : PySem.W.Frag} {mg : Str → Option Value} {base : Heap} {x qual : Str} {st : Stmt} {f c : Addr} {fd : FuncData} {N ps : List Str} {k : Nat}
    {T : List Addr} {xc : Str → Option Value} {F : List D → Rf} {b : List Sl → Ro}
    (Fu : FunC K x qual st f fd c) (Sc : FnScope N ps (defScope st)) (hF : ∀ ds, ds.length = ps.length → F ds = (b (env0 N.length ds)).fn)
    (h : ∀ (A : Around) (outer : List Env) (s : Shared) (H B : Hp) (E : XK),
      Room k (A.deeper (envOfC qual (defScope st) s.heap.objs.size f (.ref c))) →
      PXs (cxOf (CX P w) P w K mg base N qual (defScope st) f (.ref c) A outer s H E) ⟨T, H, B⟩ ⟨E, xc⟩ (defBody st) b) :
    FnOk P w K mg base (CX P w) (k + 1) f fd ps (spP K T xc ps.length F) := by
  obtain ⟨oc, od, kV, doc, pm, an, ct, osl, h1, h2, h3⟩ := Fu.ex
  subst h1
  refine fn_of h2 h3 Sc (fun vs H Q E h => h.1) fun A outer s H vs Q E hr hsp => ?_
  obtain ⟨hl, B, ds, sit, hd, hk⟩ := hsp
  refine ⟨_, (h A outer s H B E hr).ps, B, env0 N.length ds, ?_, ?_⟩
  · refine rel0 (S := ⟨T, H, B⟩) sit hd ?_
    rw [hl, ← Sc.pre]
    exact List.length_take_le' _ _
  · rw [hF ds (by rw [← hd.length]; exact hl)] at hk
    have grow : ∀ {B' H' : Hp} {e : List Sl} {σ' : L2.St}, Rel K ⟨T, H, B⟩ B' e σ' H' → Grow K ⟨T, H, B⟩ B H B' H' := fun R => ⟨R.old, R.tab, R.b0, R.bh, R.nt, R.new⟩
    revert hk
    cases b (env0 N.length ds) with
    | nx e => exact fun hk B' H' σ' R sm => hk V.non B' H' (grow R) .non
    | rt d => exact fun hk B' H' v R sm dq => hk v B' H' (grow R) dq
    | ex x => exact fun hk => hk
    | bk e => exact fun hk => hk.elim
    | ct e => exact fun hk => hk.elim
    | bad => exact fun hk => hk.elim
/-- nothing is promised -/
theorem fn_bad {P : Program} {w : World} {K : PySem.W.Frag} {mg : Str → Option Value} {base : Heap} {CX : CXT} {f : Addr} {fd : FuncData} {ps : List Str} {k : Nat} {T : List Addr} {xc : Str → Option Value} :
    FnOk P w K mg base CX k f fd ps (spP K T xc ps.length fun _ => .bad) :=
  ⟨fun vs H Q E h => h.1, fun A outer s H args us vs Q E hr e0 bt vl h => by
    obtain ⟨_, B, ds, _, _, hk⟩ := h
    exact hk.elim⟩
section
variable {X : Cx} {S : Se} {M : Xw}
theorem hu64 {A : Around} {k : Nat} (hr : Room k A) : A.units + 64 < cLine := by
  have := hr.un
  omega
theorem pv_gi {x : Str} {i : Int} {pos : Pos} (hg : Gl X x) (hm : ∃ t, X.mg x = some (.int i t)) (hd : (x == Str.ofString "__debug__") = false := by rfl) : PV X S M (.Name x pos) (fun env => .ok (.int i) env) := by
  obtain ⟨t, hm⟩ := hm
  exact pv_gint hg hm hd
/-- slot i, a list of one's own, is a datum from here on -/
def frzE (i : Nat) (env : List Sl) : List Sl :=
  match env[i]? with
  | some (.ow (.l xs)) => env.set i (.im (.lst xs))
  | _ => env
theorem frz_rel {K : PySem.W.Frag} {B H : Hp} {env : List Sl} {σ : L2.St} (R : Rel K S B env σ H) (i : Nat) : ∃ B', Rel K S B' (frzE i env) σ H ∧ Ext env (frzE i env) σ B H B' H := by
  unfold frzE
  split
  · rename_i xs hx
    obtain ⟨p, vs, _, _, _, R', E'⟩ := R.freeze hx
    exact ⟨_, R', E'⟩
  · exact ⟨B, R, Ext.refl⟩
theorem Post.shift {α : Type} {K : PySem.W.Frag} {B H B1 H1 : Hp} {env e1 : List Sl} {σ : L2.St} {r : Rs α} {k : α → List Sl → Hp → Hp → Prop} (P : Post K S M σ B H env r k) (E : Ext env e1 σ B H B1 H1) : Post K S M σ B1 H1 e1 r k := by
  cases r with
  | bad => exact P
  | ex x => exact P
  | ok a e => exact fun B2 H2 R2 X2 => P B2 H2 R2 (E.trans X2)
theorem pn_frz {e : Expr} {f : List Sl → Rs Ow} (i : Nat) (h : PN X S M e f) : PN X S M e (fun env => f (frzE i env)) := ⟨peI h.pe (by
  rintro σ H Q ⟨B, env, R, P⟩
  obtain ⟨B', R', E'⟩ := frz_rel R i
  exact ⟨B', frzE i env, R', P.shift E'⟩)⟩
/-! ### more operators -/
def dMulI : D → D → Option D := cI (fun i j => decide (-(2 ^ 64) < i ∧ i < 2 ^ 64 ∨ -(2 ^ 64) < j ∧ j < 2 ^ 64)) fun i j => .int (i * j)
theorem id_mul : IpD X S .Mult dMulI := ⟨_, iop_mul, fun B H x y d e z Q s hx hy hc w => by
  revert hc
  cases hx <;> cases hy <;> intro hc <;> first | cases hc | skip
  rename_i i j
  have hc : (if decide (-(2 ^ 64) < i ∧ i < 2 ^ 64 ∨ -(2 ^ 64) < j ∧ j < 2 ^ 64) = true then some (D.int (i * j)) else none) = some z := hc
  split at hc
  · rename_i hb
    have hb := of_decide_eq_true hb
    cases hc
    exact ⟨_, _, rfl, rfl, hb, w.now s (.int _)⟩
  · cases hc⟩
def dCatT : D → D → Option D
  | .tup xs, .tup ys => if xs.length + ys.length ≤ sizeLine then some (.tup (xs ++ ys)) else none
  | _, _ => none
theorem od_catT : OpD X S (binaryOp .Add) dCatT := ⟨_, or_catF, fun B H x y d e z Q s hx hy hc w => by
  revert hc
  cases hx <;> cases hy <;> intro hc <;> first | cases hc | skip
  rename_i vs xs h1 h2 _ us ys h3 h4
  have hc : (if xs.length + ys.length ≤ sizeLine then some (D.tup (xs ++ ys)) else none) = some z := hc
  split at hc
  · rename_i hl
    cases hc
    refine ⟨_, _, vs, us, rfl, rfl, same_tup s.bh h1, same_tup s.bh h3, by rw [h2.length, h4.length]; exact hl, fun e => ?_, fun _ e => ?_, fun _ _ p ob hp hd => ?_⟩
    · subst e
      cases h2
      exact w.now s (.tup h3 h4)
    · subst e
      cases h4
      rw [List.append_nil] at w
      exact w.now s (.tup h1 h2)
    · have gr := Grow.alloc (X := X) (o := HO.frz ob (.tup (vs ++ us))) s.tab s.bh s.nt hp (fun ps h => by cases h)
      exact w _ _ _ gr (.tup (SqU.new hd) ((h2.append h4).mono gr.same))
  · cases hc⟩
def dAddU (d e : D) : Option D := (dAdd d e).orElse fun _ => dAddS d e
theorem od_addU : OpD X S (binaryOp .Add) dAddU := OpD.or od_add od_addS
end
/-! ### names for what the rules make -/
def rSeq (f g : List Sl → Ro) (env : List Sl) : Ro := (f env).seq g
def rRet (f : List Sl → Rs D) (env : List Sl) : Ro := (f env).ro fun d _ => .rt d
def rRetN (env : List Sl) : Ro := .rt .non
def rExpr (f : List Sl → Rs D) (env : List Sl) : Ro := (f env).ro fun _ e => .nx e
def rIf (t : List Sl → Rs Bool) (f g : List Sl → Ro) (env : List Sl) : Ro := (t env).ro fun k e => if k = true then f e else g e
def rSet (i : Nat) (f : List Sl → Rs D) (env : List Sl) : Ro := (f env).ro fun d e => .nx (e.set i (.im d))
def rSetO (i : Nat) (f : List Sl → Rs Ow) (env : List Sl) : Ro := (f env).ro fun w e => .nx (e.set i (.ow w))
def rAsg (g : D → List Sl → Option (List Sl)) (f : List Sl → Rs D) (env : List Sl) : Ro := (f env).ro fun d e => match g d e with | some e' => .nx e' | none => .bad
def rFor (f : List Sl → Rs (List D)) (g : D → List Sl → Option (List Sl)) (b : List Sl → Ro) (env : List Sl) : Ro := (f env).ro fun ds e => forR g b ds e
def rRaise (x : Str) (_ : List Sl) : Ro := .ex ⟨x, []⟩
def vK (d : D) (env : List Sl) : Rs D := .ok d env
def vCall (n : Nat) (F : List D → Rf) (g : List Sl → Rs (List D)) (env : List Sl) : Rs D := (g env).bind fun ds e => if ds.length = n then (F ds).rs e else .bad
def aNil (env : List Sl) : Rs (List D) := .ok [] env
def tYes' (env : List Sl) : Rs Bool := .ok true env
def pNo (env : List Sl) : Rs (Option Int) := .ok none env
def wRng1 (g : List Sl → Rs (List D)) (env : List Sl) : Rs (List D) := (g env).bind fun ds e => Rs.opt (rng1 ds) e
def wRng2 (g : List Sl → Rs (List D)) (env : List Sl) : Rs (List D) := (g env).bind fun ds e => Rs.opt (rng2 ds) e
section
variable {X : Cx} {S : Se} {M : Xw}
theorem qs_cons {st : Stmt} {rest : List Stmt} {f g : List Sl → Ro} (h : PX X S M st f) (hs : PXs X S M rest g) : PXs X S M (st :: rest) (rSeq f g) := pxs_cons h hs
theorem q_ret {e : Expr} {pos : Pos} {f : List Sl → Rs D} (h : PV X S M e f) : PX X S M (.Return (some e) pos) (rRet f) := px_ret h
theorem q_expr {e : Expr} {pos : Pos} {f : List Sl → Rs D} (h : PV X S M e f) (hs : swapsWith e none pos.line X.env = pure false := by rfl) : PX X S M (.Expr e pos) (rExpr f) := px_expr h hs
theorem q_if {c : Expr} {a b : List Stmt} {pos : Pos} {t : List Sl → Rs Bool} {f g : List Sl → Ro} (hc : PB X S M c t) (ha : PXs X S M a f) (hb : PXs X S M b g) : PX X S M (.If c a b pos) (rIf t f g) := px_if hc ha hb
theorem q_set {x : Str} {i : Nat} {e : Expr} {pos pos' : Pos} {f : List Sl → Rs D} (hN : X.N.Nodup) (hi : X.N[i]? = some x) (h : PV X S M e f) (hx : L2.Loc X.env.scope x := by first | exact Or.inl rfl | exact Or.inr rfl)
    (hs : swapsWith e (some (.Name x pos')) pos.line X.env = pure false := by rfl) (hf : X.fn x = true ∨ X.env.scope.names.lookup x = some .local := by exact .inl rfl) : PX X S M (.Assign [.Name x pos'] e pos) (rSet i f) := px_set hN hi hx h hs hf
theorem q_setO {x : Str} {i : Nat} {e : Expr} {pos pos' : Pos} {f : List Sl → Rs Ow} (hN : X.N.Nodup) (hi : X.N[i]? = some x) (h : PN X S M e f) (hx : L2.Loc X.env.scope x := by first | exact Or.inl rfl | exact Or.inr rfl)
    (hs : swapsWith e (some (.Name x pos')) pos.line X.env = pure false := by rfl) (hf : X.fn x = true ∨ X.env.scope.names.lookup x = some .local := by exact .inl rfl) : PX X S M (.Assign [.Name x pos'] e pos) (rSetO i f) := px_setO hN hi hx h hs hf
theorem q_asg {tg e : Expr} {pos : Pos} {f : List Sl → Rs D} {g : D → List Sl → Option (List Sl)} {L : List Nat} (h : PV X S M e f) (hg : PTg X S tg g L)
    (h1 : swapsWithSole [tg] e pos.line X.env = pure false := by rfl) (h2 : swappedStores [tg] e X.env = pure none := by rfl) (h3 : (assignEach [tg] X.env).map (·.2) = [assign tg X.env] := by rfl) : PX X S M (.Assign [tg] e pos) (rAsg g f) := px_asg h hg h1 h2 h3
theorem q_for {tg it : Expr} {body : List Stmt} {pos : Pos} {f : List Sl → Rs (List D)} {g : D → List Sl → Option (List Sl)} {b : List Sl → Ro} {L : List Nat}
    (hp : PassesOwn (model X.prog X.w) X.A X.env X.xe) (hc : X.calm = true) (hi : PIt X S M tg it f) (hg : PTg X S tg g L) (hb : PXs X S M body b)
    (hq : ∀ x, foldedSetIterable it X.env x = pure x := by exact fun _ => rfl) : PX X S M (.For tg it body [] pos) (rFor f g b) := px_for hp hc hi hg hb hq
theorem q_raise {e : Expr} {C : Addr} {x : Str} {pos : Pos} (hc : X.calm = true) (tk : Takes X fun cls d _ H => M.E cls d H) (hx : M.xc x = some (.ref C)) (hp : PMk X e fun _ H Q => Q (.ref C) none H) :
    PX X S M (.Raise (some e) none pos) (rRaise x) := px_raise hc tk hx hp
theorem q_int {i : Int} {j : Nat} {pos : Pos} : PV X S M (.Constant (.int i) j pos) (vK (.int i)) := pv_int
theorem q_str {i : Str} {j : Nat} {pos : Pos} : PV X S M (.Constant (.str i) j pos) (vK (.str i)) := pv_str
theorem q_bl {i : Bool} {j : Nat} {pos : Pos} : PV X S M (.Constant (.bool i) j pos) (vK (.bl i)) := pv_bl
theorem q_non {j : Nat} {pos : Pos} : PV X S M (.Constant .none j pos) (vK .non) := pv_non
theorem q_gi {x : Str} {i : Int} {pos : Pos} (hg : Gl X x) (hm : ∃ t, X.mg x = some (.int i t)) (hd : (x == Str.ofString "__debug__") = false := by rfl) : PV X S M (.Name x pos) (vK (.int i)) := pv_gi hg hm hd
theorem q_call {k n : Nat} {f : Addr} {fd : FuncData} {ps : List Str} {F : List D → Rf} {x : Str} {p pos : Pos} {e : Expr} {es : List Expr} {g : List Sl → Rs (List D)}
    (G : FnOk X.prog X.w X.K X.mg X.base (CX X.prog X.w) k f fd ps (spP X.K S.T M.xc n F)) (hr : Room k X.A) (hg : Gl X x) (hm : X.mg x = some (.ref f)) (hk : PySem.W.keepIn X.K (.ref f) = true)
    (hb : L2.Binds X.K fd ps []) (hx : Passes (CX X.prog X.w) X M.E) (ha : PAs X S M (e :: es) g) (hl : (e :: es).length = n := by rfl)
    (h1 : (x == Str.ofString "__debug__") = false := by rfl) (h2 : starEach (e :: es) X.env = (false, eval e X.env) :: starEach es X.env := by rfl)
    (h3 : ((backTo pos (starEach es X.env)).any fun x => x.1) = false := by rfl) : PV X S M (.Call (.Name x p) (e :: es) [] pos) (vCall n F g) := pv_call G hr hg hm hk hb hx ha hl h1 h2 h3
theorem qa_nil : PAs X S M [] aNil := pas_nil
theorem qf_nil : PIf X S M [] tYes' := pif_nil
theorem qq_no : PQ X S M none pNo := pq_no
theorem qi_range1 {tg a : Expr} {p pos : Pos} {g : List Sl → Rs (List D)} (hg : Gl X "range") (hm : X.mg "range" = none) (ha : PAs X S M [a] g)
    (h1 : starEach [a] X.env = [(false, eval a X.env)] := by rfl) : PIt X S M tg (.Call (.Name "range" p) [a] [] pos) (wRng1 g) := pit_range1 hg hm ha h1
theorem qi_range2 {tg a b : Expr} {p pos : Pos} {g : List Sl → Rs (List D)} (hg : Gl X "range") (hm : X.mg "range" = none) (ha : PAs X S M [a, b] g)
    (h1 : starEach [a, b] X.env = [(false, eval a X.env), (false, eval b X.env)] := by rfl) (h2 : starEach [b] X.env = [(false, eval b X.env)] := by rfl) : PIt X S M tg (.Call (.Name "range" p) [a, b] [] pos) (wRng2 g) := pit_range2 hg hm ha h1 h2
end
end Pf
/-! walks by enumerate (from any count) and by zip over lists and tuples alike -/
namespace Wk
open L2 PySem PySem.Spec PyProof.Rows
/-- k: a list; else a tuple -/
def sqK (k : Bool) (K : PySem.W.Frag) (H : Hp) (a : Addr) (xs : List V) : Prop := if k = true then SqL K H a xs else SqT K H a xs
def itK (k : Bool) (h : Heap) (it a : Addr) (i : Nat) : Prop := if k = true then h.IsListIter it a i else h.IsTupleIter it a i
def isK (k : Bool) (h : Heap) (a : Addr) (us : Array Value) : Prop := if k = true then h.IsList a us else h.IsTuple a us
def obK (k : Bool) (a : Addr) : Obj := if k = true then { cls := .type "list_iterator", data := .fields #[.ref a, .int 0 0] } else { cls := .type "tuple_iterator", data := .fields #[.ref a, .int 0 0] }
section
variable {k k2 : Bool} {K : PySem.W.Frag} {X : Cx} {pins : List (Addr × Obj)} {σ : L2.St} {H : Hp} {s : Shared} {a b it : Addr} {xs ys : List V} {us : Array Value} {i : Nat} {h h' : Heap}
theorem invK (I : L2.Inv X pins σ H s) (q : sqK k X.K H a xs) : ∃ its : List Value, Vals xs its ∧ isK k s.heap a its.toArray := by
  unfold sqK at q
  unfold isK
  cases k with
  | true => obtain ⟨its, rv, p, _⟩ := I.list q; exact ⟨its, rv, p.isList⟩
  | false => obtain ⟨its, rv, p, _⟩ := I.tuple q; exact ⟨its, rv, p⟩
theorem injK (I : L2.Inv X pins σ H s) (q : sqK k X.K H a xs) (q' : sqK k X.K H a ys) : xs = ys := by
  unfold sqK at q q'
  cases k with
  | true => exact I.list_inj q q'
  | false => exact I.tuple_inj q q'
theorem drawK {prog : Program} {w : World} {A : Around} (hh : A.handled = none) (hne : a ≠ it) : Draws prog w A it [it, a] us.size (fun i v => us[i]? = some v) (fun i h => itK k h it a i ∧ isK k h a us) := by
  unfold itK isK
  cases k with
  | true => exact Draws.list hh it a hne us
  | false => exact Draws.tuple hh it a hne us
theorem beginK : Begins (.ref a) (obK k a) (fun h => isK k h a us) := by
  unfold obK isK
  cases k with
  | true => exact begins_list a us
  | false => exact begins_tuple a us
theorem itK_ob (q : itK k h it a i) : ∃ o, h.get? it = some o ∧ ∃ vs, o.data = .fields vs := by
  unfold itK at q
  cases k with
  | true => obtain ⟨o, e, c, d⟩ := q; exact ⟨o, e, _, d⟩
  | false => obtain ⟨o, e, c, d⟩ := q; exact ⟨o, e, _, d⟩
theorem isK_ob (q : isK k h a us) : ∃ o, h.get? a = some o ∧ ∃ vs n, o.data = .seq vs n := by
  unfold isK at q
  cases k with
  | true => obtain ⟨o, e, _, n, d⟩ := q; exact ⟨o, e, _, n, d⟩
  | false => obtain ⟨o, e, _, n, d⟩ := q; exact ⟨o, e, _, n, d⟩
theorem apartK (q : itK k h it b i) (q' : isK k2 h a us) : a ≠ it := fun z => by
  obtain ⟨o, e, vs, d⟩ := itK_ob q
  obtain ⟨o', e', vs', n, d'⟩ := isK_ob q'
  subst z
  rw [e] at e'
  cases e'
  rw [d] at d'
  cases d'
theorem itK_at (q : itK k h it a i) (m : ∀ o, h.get? it = some o → h'.get? it = some o) : itK k h' it a i := by
  unfold itK at q ⊢
  cases k with
  | true => exact q.at fun o e => m o e
  | false => exact q.at fun o e => m o e
theorem itK_0 (q : h.get? it = some (obK k a)) : itK k h it a 0 := by
  unfold itK
  unfold obK at q
  cases k with
  | true => exact ⟨_, q, rfl, rfl⟩
  | false => exact ⟨_, q, rfl, rfl⟩
end
/-! ### enumerate -/
def ItE (k : Bool) (K : PySem.W.Frag) (a : Addr) (c0 : Int) : It where
  go i H := ∃ (xs : List V) (x : V), sqK k K H a xs ∧ xs[i]? = some x
  yld i H v H' := ∃ T x ob, v = .ref T ∧ H T = none ∧ ob.dict = none ∧ H' = upd H T (.frz ob (.tup [.int (c0 + (i : Int)), x])) ∧ ∀ xs, sqK k K H a xs → xs[i]? = some x
  stop i H := ∃ xs : List V, sqK k K H a xs ∧ xs.length = i
theorem two_fits : (2 : Nat) ≤ sizeLine := by decide
theorem turn_E {P : Program} {w : World} {K : PySem.W.Frag} {elts : List Expr} {kk : Nat} {tpos : Pos} (k : Bool) (a e it : Addr) (c0 : Int) :
    Turn P w K (.Tuple elts kk tpos) (ItE k K a c0) [e, it] e (fun i h => (∃ old, IsEnum h e it (c0 + (i : Int)) old) ∧ itK k h it a i ∧ e ≠ it) where
  mem := List.mem_cons_self
  obj i h st b hb := by
    obtain ⟨⟨old, he⟩, hi, _⟩ := st
    obtain rfl | hb := List.mem_cons.mp hb
    · exact ⟨_, he, fun v q => nomatch q⟩
    · have hb' := List.mem_singleton.mp hb
      rw [hb']
      obtain ⟨o, ho, vs, hd⟩ := itK_ob hi
      exact ⟨o, ho, fun v q => by rw [hd] at q; cases q⟩
  keep i h h' st m := ⟨st.1.elim fun old he => ⟨old, m e (by simp) _ he⟩, itK_at st.2.1 fun o q => m it (by simp) o q, st.2.2⟩
  item := by
    rintro X rfl rfl rfl hc i pins s σ H E I hf ⟨⟨old, he⟩, hit, hne⟩ ⟨xs, x, hq, hx⟩
    obtain ⟨its, rv, p⟩ := invK I hq
    have ⟨u, hu, ru⟩ := rv.get hx
    have hai : a ≠ it := apartK hit p
    have hea : e ≠ a := fun z => by
      obtain ⟨o, q, vs, n, d⟩ := isK_ob p
      rw [← z, he] at q
      cases q
      cases d
    have hi : i < its.toArray.size := by
      have := (List.getElem?_eq_some_iff.mp hu).1
      simpa using this
    refine wpAny_pyNext_enum_itemC (drawK (k := k) (A := X.A.in1) (us := its.toArray) (I.ok.hd hc) hai) he ⟨hit, p⟩ hi hne (by simp; exact ⟨hne, hea⟩) fun x' h' tk hx' ho st' hT hsz hk => ?_
    have ex : u = x' := by
      have q : its.toArray[i]? = some u := by simpa using hu
      rw [q] at hx'
      exact Option.some.inj hx'
    subst ex
    have hel := Heap.lt_size he
    have hil : it < s.heap.objs.size := by obtain ⟨_, q, _⟩ := itK_ob hit; exact Heap.lt_size q
    refine ⟨_, rfl, wpAny_letOwnedTupleGo_enum (s := { s with heap := h', toks := tk + 1 }) ho fun h2 he2 sb => ?_⟩
    have same : ∀ b o, b ≠ e → h'.get? b = some o → h2.get? b = some o := fun b o hb q => (sb.2 b hb).trans q
    have at2 := same _ _ (Nat.ne_of_gt hel) hT
    have new : ObjOk X.prog X.w (upd H s.heap.objs.size (.frz { cls := .type "tuple", data := .seq #[.int (c0 + (i : Int)) tk, u] } (.tup [.int (c0 + (i : Int)), x]))) h2 s.heap.objs.size (.frz { cls := .type "tuple", data := .seq #[.int (c0 + (i : Int)) tk, u] } (.tup [.int (c0 + (i : Int)), x])) :=
      ⟨at2, two_fits, [.int (c0 + (i : Int)) tk, u], .cons ⟨_, rfl⟩ (.cons ru .nil), ⟨_, at2, rfl, _, rfl⟩⟩
    have J := I.turnedNew (ch := [e, it]) (t' := tk + 1) (h' := h2) (fun b o hb q => same b o (fun z => hb (by simp [z])) (hk b o (fun z => hb (by simp [z])) (fun z => hb (by simp [z])) q)) hf (Nat.le_refl _) new
    refine ⟨.ref s.heap.objs.size, _, J, rfl, ⟨_, x, _, rfl, I.hok.fresh (Nat.le_refl _), rfl, rfl, fun zs hz => by rw [injK I hz hq]; exact hx⟩, ⟨⟨u, ?_⟩, itK_at st'.1 fun o q => same it o hne.symm q, hne⟩, fun b hb => ?_⟩
    · rw [show c0 + ((i + 1 : Nat) : Int) = c0 + (i : Int) + 1 by omega]
      exact he2
    · have lt : b < s.heap.objs.size := by
        obtain rfl | hb := List.mem_cons.mp hb
        · exact hel
        · rw [List.mem_singleton.mp hb]; exact hil
      rw [upd_ne (Nat.ne_of_lt lt)]
      exact (hf b hb).1
  done := by
    rintro X rfl rfl rfl hc i pins s σ H E I hf ⟨⟨old, he⟩, hit, hne⟩ ⟨xs, hq, hx⟩
    obtain ⟨its, rv, p⟩ := invK I hq
    have ⟨f0, f1, f2, f3, f4, f5⟩ := hf it (by simp)
    have hai : a ≠ it := apartK hit p
    have hl := rv.length
    have hz : i = its.toArray.size := by simp; omega
    rw [hz] at hit
    exact wpAny_pyNext_enum_endD (drawK (k := k) (A := X.A.in1) (us := its.toArray) (I.ok.hd hc) hai) he ⟨hit, p⟩ fun h' eb => ⟨rfl, I.turned (t' := s.toks) (fun b o hb q => eb b o hb q) f0 f1 f3 f4 f5⟩
  self A i s Q E st h := let ⟨⟨_, he⟩, _⟩ := st; wpAny_pyIter_enum he h
set_option maxHeartbeats 3900000 in
theorem enum_new {v : Value} {o : Obj} {Hp0 : Heap → Prop} (B : Begins v o Hp0) : Meets (Builtin.«enumerate.__new__» ⟨[.type "enumerate", v], []⟩) fun _ R s => Hp0 s.heap ∧
    R (.ok (.ret (.ref (s.heap.push o).objs.size))) { s with heap := (s.heap.push o).push { cls := .type "enumerate", data := .fields #[.none, .bool false, .ref s.heap.objs.size, rawInt 0, .none, .none] } } :=
  .of_wp fun prog w A R st h => by
    obtain ⟨hp, g, d, tk, os⟩ := st
    obtain ⟨h1, h⟩ := h
    have sub := sub_enumerate
    have begun : ∀ {A' : Around} {E Q : Value → Shared → Prop}, Q (.ref hp.objs.size) ⟨hp.push o, g, d, tk, os⟩ → wpAny (model prog w) A' (pyIter v) Q E ⟨hp, g, d, tk, os⟩ := fun q => B.iter prog w _ _ ⟨hp, g, d, tk, os⟩ _ h1 q
    wp_walk using begun
    refine wpAny_stack_any fun _ => wpAny_pure ?_
    split
    · rename_i c _ _ _ _ _
      cases (c == Value.type "enumerate") <;> (wp_walk using begun; exact ⟨_, rfl, h⟩)
    · wp_walk using begun
      exact ⟨_, rfl, h⟩
section
variable {prog : Program} {w : World} {A : Around} {s : Shared} {E : Value → Shared → Prop}
theorem enum_of {v : Value} {o : Obj} {Hp0 : Heap → Prop} {Q : Value → Shared → Prop} (B : Begins v o Hp0) (h1 : Hp0 s.heap)
    (h : ∀ h', IsEnum h' (s.heap.objs.size + 1) s.heap.objs.size 0 .none → h'.get? s.heap.objs.size = some o → (∀ b o, s.heap.get? b = some o → h'.get? b = some o) → Q (.ref (s.heap.objs.size + 1)) { s with heap := h' }) :
    wpAny (model prog w) A (call (.type "enumerate") [v]) Q E s := by
  refine callType_new F.called_enumerate (by decide) (F.typeCall_enumerate_1 v) (F.newCall_enumerate_1 v) (fun ob => F.args_object_init_2 ob v) F.entry_enumerate_new (enum_new B) ⟨h1, ?_⟩
  have z : (s.heap.push o).objs.size = s.heap.objs.size + 1 := by rw [Heap.size_push]
  rw [z]
  have at1 := Heap.get?_push_size (s.heap.push o) (o := { cls := .type "enumerate", data := .fields #[.none, .bool false, .ref s.heap.objs.size, rawInt 0, .none, .none] }) rfl
  rw [z] at at1
  exact ⟨⟨_, at1, rfl⟩, h _ at1 (Heap.get?_push_of_some _ (Heap.get?_push_size _ B.free)) fun b u q => Heap.get?_push_of_some _ (Heap.get?_push_of_some _ q)⟩
end
def iE (K : PySem.W.Frag) (ta : TA) : TI := fun σ H R => ta σ H fun vs H1 => ∃ k a xs, vs = [.ref a] ∧ sqK k K H1 a xs ∧ R (ItE k K a 0) H1
theorem pi_E {X : Cx} {e : Expr} {ta : TA} {p pos tpos : Pos} {elts : List Expr} {kk : Nat} (hg : Gl X "enumerate") (hm : X.mg "enumerate" = none) (ha : PA X [e] ta) (hs : starEach [e] X.env = [(false, eval e X.env)] := by rfl) :
    PI X (.Tuple elts kk tpos) (.Call (.Name "enumerate" p) [e] [] pos) (iE X.K ta) := by
  constructor
  intro pins s σ H R I h
  refine Call_ (ld_blt I hg hm boot_enumerate (PyProof.Rows.callWith_type1 (thn (ha.run pos pins s σ H _ I h) fun us s1 hh => ?_) hs rfl))
  obtain ⟨vs, H1, I1, r1, k, a, xs, rfl, hq, q⟩ := hh
  cases r1 with
  | cons r rr =>
    cases rr
    cases r
    obtain ⟨its, rv, p⟩ := invK I1 hq
    refine enum_of (beginK (k := k) (us := its.toArray)) p fun h' he hit kept => wpAny_pyIter_enum he ?_
    have I2 : L2.Inv X pins σ H1 { s1 with heap := h' } := I1.kept (t' := s1.toks) kept
    refine ⟨s1.heap.objs.size + 1, [s1.heap.objs.size + 1, s1.heap.objs.size], _, _, H1, rfl, I2, turn_E k a (s1.heap.objs.size + 1) s1.heap.objs.size 0, ⟨⟨.none, by simpa using he⟩, itK_0 hit, Nat.succ_ne_self _⟩, fun b hb => ?_, q⟩
    have le : s1.heap.objs.size ≤ b := by
      obtain rfl | hb := List.mem_cons.mp hb
      · exact Nat.le_succ _
      · rw [List.mem_singleton.mp hb]; exact Nat.le_refl _
    exact I1.fpOk le (I1.hok.fresh le)
/-! ### zip -/
def ItZ (k k2 : Bool) (K : PySem.W.Frag) (a b : Addr) : It where
  go i H := ∃ (xs ys : List V) (x y : V), sqK k K H a xs ∧ sqK k2 K H b ys ∧ xs[i]? = some x ∧ ys[i]? = some y
  yld i H v H' := ∃ T x y ob, v = .ref T ∧ H T = none ∧ ob.dict = none ∧ H' = upd H T (.frz ob (.tup [x, y])) ∧ (∀ xs, sqK k K H a xs → xs[i]? = some x) ∧ ∀ ys, sqK k2 K H b ys → ys[i]? = some y
  stop i H := ∃ xs ys : List V, sqK k K H a xs ∧ sqK k2 K H b ys ∧ i ≤ xs.length ∧ i ≤ ys.length ∧ (i = xs.length ∨ i = ys.length)
/-- what lies apart -/
structure ApZ (z TI TO i1 i2 : Addr) : Prop where
  n : TI ≠ z ∧ TO ≠ z ∧ TI ≠ TO ∧ TI ≠ i1 ∧ TI ≠ i2 ∧ TO ≠ i1 ∧ TO ≠ i2 ∧ z ≠ i1 ∧ z ≠ i2 ∧ i1 ≠ i2
theorem ApZ.sep {z TI TO i1 i2 a b : Addr} (D : ApZ z TI TO i1 i2) (h1 : z ≠ a) (h2 : TO ≠ a) (h3 : z ≠ b) (h4 : TO ≠ b) (h5 : i1 ≠ b) (h6 : i2 ≠ a) : ZipSep2 z TI TO i1 i2 [i1, a] [i2, b] := by
  obtain ⟨n1, n2, n3, n4, n5, n6, n7, n8, n9, n10⟩ := D.n
  exact { TIz := n1, TOz := n2, TITO := n3, TIi1 := n4, mem1 := by simp, zf1 := by simp [n8, h1], Tf1 := by simp [n6, h2], TIi2 := n5, mem2 := by simp, zf2 := by simp [n9, h3], Tf2 := by simp [n7, h4],
          sep1_2 := by simp [n10, h5], sep2_1 := by simp [n10.symm, h6] }
theorem turn_Z {P : Program} {w : World} {K : PySem.W.Frag} {elts : List Expr} {kk : Nat} {tpos : Pos} (k k2 : Bool) (a b z TI TO i1 i2 : Addr) (D : ApZ z TI TO i1 i2) :
    Turn P w K (.Tuple elts kk tpos) (ItZ k k2 K a b) [z, TI, TO, i1, i2] z
      (fun i h => IsZip h z TI TO .none ∧ IsTupOf2 h TI (.ref i1) (.ref i2) ∧ (∃ x y, IsTupOf2 h TO x y) ∧ itK k h i1 a i ∧ itK k2 h i2 b i ∧ (TO ≠ a ∧ TO ≠ b)) where
  mem := List.mem_cons_self
  obj i h st c hc := by
    obtain ⟨hz, hTI, ⟨x, y, hTO⟩, h1, h2, _⟩ := st
    have e : c = z ∨ c = TI ∨ c = TO ∨ c = i1 ∨ c = i2 := by simpa using hc
    rcases e with rfl | rfl | rfl | rfl | rfl
    · exact ⟨_, hz, fun v q => nomatch q⟩
    · exact ⟨_, hTI, fun v q => nomatch q⟩
    · exact ⟨_, hTO, fun v q => nomatch q⟩
    · obtain ⟨o, e, vs, d⟩ := itK_ob h1
      exact ⟨o, e, fun v q => by rw [d] at q; cases q⟩
    · obtain ⟨o, e, vs, d⟩ := itK_ob h2
      exact ⟨o, e, fun v q => by rw [d] at q; cases q⟩
  keep i h h' st m := by
    obtain ⟨hz, hTI, ⟨x, y, hTO⟩, h1, h2, q⟩ := st
    exact ⟨m z (by simp) _ hz, m TI (by simp) _ hTI, ⟨x, y, m TO (by simp) _ hTO⟩, itK_at h1 fun o e => m i1 (by simp) o e, itK_at h2 fun o e => m i2 (by simp) o e, q⟩
  item := by
    rintro X rfl rfl rfl hc i pins s σ H E I hf ⟨hz, hTI, ⟨x0, y0, hTO⟩, h1, h2, nTa, nTb⟩ ⟨xs, ys, x, y, hqx, hqy, hx, hy⟩
    obtain ⟨its, rv, p⟩ := invK I hqx
    obtain ⟨its2, rv2, p2⟩ := invK I hqy
    have ⟨u, hu, ru⟩ := rv.get hx
    have ⟨u2, hu2, ru2⟩ := rv2.get hy
    obtain ⟨oa, ea, va, na, da⟩ := isK_ob p
    obtain ⟨ob, eb, vb, nb, db⟩ := isK_ob p2
    have nza : z ≠ a := fun q => by rw [← q, hz] at ea; cases ea; cases da
    have nzb : z ≠ b := fun q => by rw [← q, hz] at eb; cases eb; cases db
    have S := D.sep nza nTa nzb nTb (apartK h1 p2).symm (apartK h2 p).symm
    have li : i < its.toArray.size := by
      have := (List.getElem?_eq_some_iff.mp hu).1
      simpa using this
    have li2 : i < its2.toArray.size := by
      have := (List.getElem?_eq_some_iff.mp hu2).1
      simpa using this
    have hd := I.ok.hd hc
    refine wpAny_pyNext_zipD2_item S (drawK (k := k) (A := X.A.in1) hd (apartK h1 p)) (drawK (k := k2) (A := X.A.in1) hd (apartK h2 p2)) hz hTI hTO ⟨h1, p⟩ ⟨h2, p2⟩ li li2 fun w1 w2 h' tk e1 e2 z' TO' st1 st2 hT hsz hk => ?_
    have ex : u = w1 := by
      have q : its.toArray[i]? = some u := by simpa using hu
      rw [q] at e1
      exact Option.some.inj e1
    have ey : u2 = w2 := by
      have q : its2.toArray[i]? = some u2 := by simpa using hu2
      rw [q] at e2
      exact Option.some.inj e2
    subst ex
    subst ey
    have hzl := Heap.lt_size hz
    obtain ⟨n1, n2, n3, n4, n5, n6, n7, n8, n9, n10⟩ := D.n
    refine ⟨_, rfl, wpAny_letOwnedTupleGo_zip (s := { s with heap := h', toks := tk }) z' fun h3 z3 sb => ?_⟩
    have same : ∀ c o, c ≠ z → h'.get? c = some o → h3.get? c = some o := fun c o hc q => (sb.2 c hc).trans q
    have at3 := same _ _ (Nat.ne_of_gt hzl) hT
    have new : ObjOk X.prog X.w (upd H s.heap.objs.size (.frz { cls := .type "tuple", data := .seq #[u, u2] } (.tup [x, y]))) h3 s.heap.objs.size (.frz { cls := .type "tuple", data := .seq #[u, u2] } (.tup [x, y])) :=
      ⟨at3, two_fits, [u, u2], .cons ru (.cons ru2 .nil), ⟨_, at3, rfl, _, rfl⟩⟩
    have J := I.turnedNew (ch := [z, TI, TO, i1, i2]) (t' := tk) (h' := h3) (fun c o hb q => same c o (fun e => hb (by simp [e])) (hk c o (fun e => hb (by simp [e])) (fun e => hb (by simp [e])) (fun e => hb (by simp [e])) (fun e => hb (by simp [e])) q)) hf (Nat.le_refl _) new
    refine ⟨.ref s.heap.objs.size, _, J, rfl, ⟨_, x, y, _, rfl, I.hok.fresh (Nat.le_refl _), rfl, rfl, fun l hl => by rw [injK I hl hqx]; exact hx, fun l hl => by rw [injK I hl hqy]; exact hy⟩,
      ⟨z3, same _ _ n1 (hk _ _ n1 n3 n4 n5 hTI), ⟨u, u2, same _ _ n2 TO'⟩, itK_at st1.1 fun o q => same _ o n8.symm q, itK_at st2.1 fun o q => same _ o n9.symm q, nTa, nTb⟩, fun c hcm => ?_⟩
    have lt : c < s.heap.objs.size := by
      have e : c = z ∨ c = TI ∨ c = TO ∨ c = i1 ∨ c = i2 := by simpa using hcm
      rcases e with rfl | rfl | rfl | rfl | rfl
      · exact hzl
      · exact Heap.lt_size hTI
      · exact Heap.lt_size hTO
      · obtain ⟨_, e, _⟩ := itK_ob h1; exact Heap.lt_size e
      · obtain ⟨_, e, _⟩ := itK_ob h2; exact Heap.lt_size e
    rw [upd_ne (Nat.ne_of_lt lt)]
    exact (hf c hcm).1
  done := by
    rintro X rfl rfl rfl hc i pins s σ H E I hf ⟨hz, hTI, ⟨x0, y0, hTO⟩, h1, h2, nTa, nTb⟩ ⟨xs, ys, hqx, hqy, hl1, hl2, hend⟩
    obtain ⟨its, rv, p⟩ := invK I hqx
    obtain ⟨its2, rv2, p2⟩ := invK I hqy
    obtain ⟨oa, ea, va, na, da⟩ := isK_ob p
    obtain ⟨ob, eb, vb, nb, db⟩ := isK_ob p2
    have nza : z ≠ a := fun q => by rw [← q, hz] at ea; cases ea; cases da
    have nzb : z ≠ b := fun q => by rw [← q, hz] at eb; cases eb; cases db
    have S := D.sep nza nTa nzb nTb (apartK h1 p2).symm (apartK h2 p).symm
    have l1 := rv.length
    have l2 := rv2.length
    have hd := I.ok.hd hc
    exact wpAny_pyNext_zipD2_end S (drawK (k := k) (A := X.A.in1) (us := its.toArray) hd (apartK h1 p)) (drawK (k := k2) (A := X.A.in1) (us := its2.toArray) hd (apartK h2 p2)) hz hTI hTO ⟨h1, p⟩ ⟨h2, p2⟩ (by simp; omega) (by simp; omega) (by simp; omega)
      fun h' tk hk => ⟨rfl, I.turnedL (t' := tk) (ch := [z, TI, TO, i1, i2]) (fun c o hb q => hk c o (fun e => hb (by simp [e])) (fun e => hb (by simp [e])) (fun e => hb (by simp [e])) (fun e => hb (by simp [e])) q) hf⟩
  self A i s Q E st h := wpAny_pyIter_zip st.1 h
def iZ (K : PySem.W.Frag) (ta : TA) : TI := fun σ H R => ta σ H fun vs H1 => ∃ k k2 a b xs ys, vs = [.ref a, .ref b] ∧ sqK k K H1 a xs ∧ sqK k2 K H1 b ys ∧ R (ItZ k k2 K a b) H1
theorem pi_Z {X : Cx} {e e2 : Expr} {ta : TA} {p pos tpos : Pos} {elts : List Expr} {kk : Nat} (hg : Gl X "zip") (hm : X.mg "zip" = none) (ha : PA X [e, e2] ta)
    (hs : starEach [e, e2] X.env = (false, eval e X.env) :: starEach [e2] X.env := by rfl) (hpl : ((backTo pos (starEach [e2] X.env)).any fun x => x.1) = false := by rfl) :
    PI X (.Tuple elts kk tpos) (.Call (.Name "zip" p) [e, e2] [] pos) (iZ X.K ta) := by
  constructor
  intro pins s σ H R I h
  refine Call_ (ld_blt I hg hm PyProof.Rows.boot_zip (PyProof.Rows.callWith_type1 (thn (ha.run pos pins s σ H _ I h) fun us s1 hh => ?_) hs hpl))
  obtain ⟨vs, H1, I1, r1, k, k2, a, b, xs, ys, rfl, hqx, hqy, q⟩ := hh
  cases r1 with
  | cons r rr =>
    cases rr with
    | cons r' rr =>
      cases rr
      cases r
      cases r'
      obtain ⟨its, rv, p1⟩ := invK I1 hqx
      obtain ⟨its2, rv2, p2⟩ := invK I1 hqy
      obtain ⟨oa, ea, _⟩ := isK_ob p1
      obtain ⟨ob, eb, _⟩ := isK_ob p2
      have la := Heap.lt_size ea
      have lb := Heap.lt_size eb
      refine zip_begins2 (beginK (k := k) (us := its.toArray)) (beginK (k := k2) (us := its2.toArray)) p1 p2 fun h' hz hTI hTO h1 h2 hsz hk => wpAny_pyIter_zip hz ?_
      have I2 : L2.Inv X pins σ H1 { s1 with heap := h' } := I1.kept (t' := s1.toks) hk
      have ap : ApZ (s1.heap.objs.size + 4) (s1.heap.objs.size + 2) (s1.heap.objs.size + 3) s1.heap.objs.size (s1.heap.objs.size + 1) := ⟨by
        have ne : ∀ {m n : Nat}, m ≠ n → (s1.heap.objs.size + m : Nat) ≠ s1.heap.objs.size + n := fun h => by omega
        exact ⟨ne (by decide), ne (by decide), ne (by decide), ne (n := 0) (by decide), ne (by decide), ne (n := 0) (by decide), ne (by decide), ne (n := 0) (by decide), ne (by decide), ne (m := 0) (by decide)⟩⟩
      refine ⟨s1.heap.objs.size + 4, [s1.heap.objs.size + 4, s1.heap.objs.size + 2, s1.heap.objs.size + 3, s1.heap.objs.size, s1.heap.objs.size + 1], _, _, H1, rfl, I2, turn_Z k k2 a b _ _ _ _ _ ap,
        ⟨hz, hTI, ⟨_, _, hTO⟩, itK_0 h1, itK_0 h2, ?_, ?_⟩, fun c hcm => ?_, q⟩
      · exact Nat.ne_of_gt (Nat.lt_of_lt_of_le la (Nat.le_add_right _ _))
      · exact Nat.ne_of_gt (Nat.lt_of_lt_of_le lb (Nat.le_add_right _ _))
      · have le : s1.heap.objs.size ≤ c := by
          have e : c = s1.heap.objs.size + 4 ∨ c = s1.heap.objs.size + 2 ∨ c = s1.heap.objs.size + 3 ∨ c = s1.heap.objs.size ∨ c = s1.heap.objs.size + 1 := by simpa using hcm
          rcases e with rfl | rfl | rfl | rfl | rfl
          · exact Nat.le_add_right _ _
          · exact Nat.le_add_right _ _
          · exact Nat.le_add_right _ _
          · exact Nat.le_refl _
          · exact Nat.le_add_right _ _
        exact I1.fpOk le (I1.hok.fresh le)
end Wk
namespace Pf
open PySem PySem.Spec PyProof.Rows L2 GxR GenW Gx Wk
theorem Same.seqK {k : Bool} {K : PySem.W.Frag} {H H' : Hp} {a : Addr} {xs : List V} (s : Same H H') (h : sqK k K H a xs) : sqK k K H' a xs := by
  unfold sqK at h ⊢
  cases k with
  | true => exact same_seqL s h
  | false => exact same_seqT s h
/-- a datum with items stands as a list or as a tuple -/
theorem dq_seq {K : PySem.W.Frag} {B : Hp} {v : V} {d : D} {ds : List D} (h : Dq K B v d) (e : d.items = some ds) : ∃ k a vs, v = .ref a ∧ sqK k K B a vs ∧ DqAll K B vs ds := by
  cases h <;> first | cases e | skip
  · rename_i h1 h2
    exact ⟨true, _, _, rfl, SqL.of h1, h2⟩
  · rename_i h1 h2
    exact ⟨false, _, _, rfl, h1.1, h2⟩
  · rename_i ns h1
    exact ⟨true, _, _, rfl, h1, DqAll.ints ns⟩
theorem tup_grow {K : PySem.W.Frag} {S : Se} {B H : Hp} {T : Addr} {ob : Obj} {vs : List V} {ds : List D} (s : Sit K S B H) (hT : H T = none) (ho : ob.dict = none) (hd : DqAll K B vs ds) :
    Grow K S B H (upd B T (.frz ob (.tup vs))) (upd H T (.frz ob (.tup vs))) ∧ Dq K (upd B T (.frz ob (.tup vs))) (.ref T) (.tup ds) := by
  have bn : B T = none := s.bh.free hT
  have g : Grow K S B H (upd B T (.frz ob (.tup vs))) (upd H T (.frz ob (.tup vs))) := by
    refine ⟨fun a u h => .inl (by rw [upd_ne (ne_of_none h hT)]; exact h), fun P hP => ?_, fun a u h => by rw [upd_ne (ne_of_none h bn)]; exact h, fun a u h => ?_, fun a ps h => ?_, fun a u h => ?_⟩
    · obtain ⟨ps, h1, h2⟩ := s.tab P hP
      exact ⟨ps, by rw [upd_ne (ne_of_none h1 hT)]; exact h1, h2⟩
    · by_cases z : a = T
      · subst z; rw [upd_same] at h ⊢; exact h
      · rw [upd_ne z] at h ⊢; exact s.bh a u h
    · by_cases z : a = T
      · subst z; rw [upd_same] at h; cases h
      · rw [upd_ne z] at h; exact s.nt a ps h
    · by_cases z : a = T
      · subst z; exact .inr hT
      · rw [upd_ne z] at h; exact .inl h
  exact ⟨g, .tup (SqU.new ho) (hd.mono g.same)⟩
theorem walkE {K : PySem.W.Frag} {S : Se} {B : Hp} {k : Bool} {a : Addr} {vs : List V} {ds : List D} {c0 : Int} (h : sqK k K B a vs) (hd : DqAll K B vs ds) : Walk K S (ItE k K a c0) (ds.mapIdx fun i d => .tup [.int (c0 + (i : Int)), d]) B := by
  have sq : ∀ {B' H' : Hp}, Sit K S B' H' → Same B B' → sqK k K H' a vs := fun s sm => Same.seqK s.bh (Same.seqK sm h)
  refine ⟨fun B' H' i s sm hi => ?_, fun B' H' i s sm hi => ⟨vs, sq s sm, by rw [hd.length]; simpa using hi⟩, fun B' H' i v H2 d s sm hi hy => ?_⟩
  · obtain ⟨v, h1, _⟩ := hd.get (List.getElem?_eq_getElem (by simpa using hi))
    exact ⟨vs, v, sq s sm, h1⟩
  · obtain ⟨T, x, ob, rfl, hT, ho, rfl, hy⟩ := hy
    rw [List.getElem?_mapIdx] at hi
    cases q : ds[i]? with
    | none => rw [q] at hi; cases hi
    | some z =>
      rw [q] at hi
      cases hi
      obtain ⟨u, h1, h2⟩ := hd.get q
      have := hy vs (sq s sm)
      rw [h1] at this
      cases this
      have g := tup_grow s hT ho (ds := [.int (c0 + (i : Int)), z]) (.cons (.int _) (.cons (h2.mono sm) .nil))
      exact ⟨_, g.1, g.2⟩
theorem walkZ {K : PySem.W.Frag} {S : Se} {B : Hp} {k k2 : Bool} {a b : Addr} {vs us : List V} {ds es : List D} (h : sqK k K B a vs) (hd : DqAll K B vs ds) (h' : sqK k2 K B b us) (hd' : DqAll K B us es) :
    Walk K S (ItZ k k2 K a b) (List.zipWith (fun d e => D.tup [d, e]) ds es) B := by
  have sq : ∀ {B' H' : Hp}, Sit K S B' H' → Same B B' → sqK k K H' a vs := fun s sm => Same.seqK s.bh (Same.seqK sm h)
  have sq' : ∀ {B' H' : Hp}, Sit K S B' H' → Same B B' → sqK k2 K H' b us := fun s sm => Same.seqK s.bh (Same.seqK sm h')
  refine ⟨fun B' H' i s sm hi => ?_, fun B' H' i s sm hi => ?_, fun B' H' i v H2 d s sm hi hy => ?_⟩
  · rw [List.length_zipWith] at hi
    obtain ⟨v, h1, _⟩ := hd.get (List.getElem?_eq_getElem (show i < ds.length by omega))
    obtain ⟨u, h2, _⟩ := hd'.get (List.getElem?_eq_getElem (show i < es.length by omega))
    exact ⟨vs, us, v, u, sq s sm, sq' s sm, h1, h2⟩
  · rw [List.length_zipWith] at hi
    have l1 := hd.length
    have l2 := hd'.length
    exact ⟨vs, us, sq s sm, sq' s sm, by omega, by omega, by omega⟩
  · obtain ⟨T, x, y, ob, rfl, hT, ho, rfl, hx, hy⟩ := hy
    rw [List.getElem?_zipWith] at hi
    cases q : ds[i]? with
    | none => rw [q] at hi; cases hi
    | some z =>
      cases q' : es[i]? with
      | none => rw [q, q'] at hi; cases hi
      | some z' =>
        rw [q, q'] at hi
        cases hi
        obtain ⟨u, h1, h2⟩ := hd.get q
        obtain ⟨u', h3, h4⟩ := hd'.get q'
        have e1 := hx vs (sq s sm)
        have e2 := hy us (sq' s sm)
        rw [h1] at e1
        rw [h3] at e2
        cases e1
        cases e2
        have g := tup_grow s hT ho (ds := [z, z']) (.cons (h2.mono sm) (.cons (h4.mono sm) .nil))
        exact ⟨_, g.1, g.2⟩
section
variable {X : Cx} {S : Se} {M : Xw}
def enum0 : List D → Option (List D)
  | [d] => d.items.map fun xs => xs.mapIdx fun i d => .tup [.int (0 + (i : Int)), d]
  | _ => none
def wEnumA (g : List Sl → Rs (List D)) (env : List Sl) : Rs (List D) := (g env).bind fun ds e => Rs.opt (enum0 ds) e
theorem qi_enumA {elts : List Expr} {kk : Nat} {tpos p pos : Pos} {e : Expr} {g : List Sl → Rs (List D)} (hg : Gl X "enumerate") (hm : X.mg "enumerate" = none) (ha : PAs X S M [e] g)
    (h1 : starEach [e] X.env = [(false, eval e X.env)] := by rfl) : PIt X S M (.Tuple elts kk tpos) (.Call (.Name "enumerate" p) [e] [] pos) (wEnumA g) := ⟨piI (pi_E hg hm ha.pa h1) (by
  rintro σ H Q ⟨B, env, R, P⟩
  refine ⟨B, env, R, (Post.bind P).mono fun ds e B1 H1 R1 X1 P1 vs hvs => ?_⟩
  cases q : enum0 ds with
  | none => rw [q] at P1; exact P1.elim
  | some ys =>
    rw [q] at P1
    unfold enum0 at q
    split at q
    · rename_i d
      cases qd : d.items with
      | none => rw [qd] at q; cases q
      | some xs =>
        rw [qd] at q
        cases q
        obtain ⟨v, rfl, hv⟩ := dqall_one hvs
        obtain ⟨k, a, us, rfl, h3, h4⟩ := dq_seq hv qd
        exact ⟨k, a, us, rfl, Same.seqK R1.bh h3, P1.ok R1 _ (walkE h3 h4)⟩
    · cases q)⟩
def zip2 : List D → Option (List D)
  | [d, e] => match d.items, e.items with
    | some xs, some ys => some (List.zipWith (fun d e => .tup [d, e]) xs ys)
    | _, _ => none
  | _ => none
def wZip (g : List Sl → Rs (List D)) (env : List Sl) : Rs (List D) := (g env).bind fun ds e => Rs.opt (zip2 ds) e
theorem qi_zip {elts : List Expr} {kk : Nat} {tpos p pos : Pos} {e e2 : Expr} {g : List Sl → Rs (List D)} (hg : Gl X "zip") (hm : X.mg "zip" = none) (ha : PAs X S M [e, e2] g)
    (h1 : starEach [e, e2] X.env = (false, eval e X.env) :: starEach [e2] X.env := by rfl) (h2 : ((backTo pos (starEach [e2] X.env)).any fun x => x.1) = false := by rfl) :
    PIt X S M (.Tuple elts kk tpos) (.Call (.Name "zip" p) [e, e2] [] pos) (wZip g) := ⟨piI (pi_Z hg hm ha.pa h1 h2) (by
  rintro σ H Q ⟨B, env, R, P⟩
  refine ⟨B, env, R, (Post.bind P).mono fun ds e B1 H1 R1 X1 P1 vs hvs => ?_⟩
  cases q : zip2 ds with
  | none => rw [q] at P1; exact P1.elim
  | some ys =>
    rw [q] at P1
    unfold zip2 at q
    split at q
    · rename_i d e'
      cases qd : d.items with
      | none => rw [qd] at q; cases q
      | some xs =>
        cases qe : e'.items with
        | none => rw [qd, qe] at q; cases q
        | some zs =>
          rw [qd, qe] at q
          cases q
          obtain ⟨v, v2, rfl, hv, hv2⟩ := dqall_two hvs
          obtain ⟨k, a, us, rfl, h3, h4⟩ := dq_seq hv qd
          obtain ⟨k2, a2, us2, rfl, h5, h6⟩ := dq_seq hv2 qe
          exact ⟨k, k2, a, a2, us, us2, rfl, Same.seqK R1.bh h3, Same.seqK R1.bh h5, P1.ok R1 _ (walkZ h3 h4 h5 h6)⟩
    · cases q)⟩
/-! ### max of a list or a tuple of integers -/
theorem maxI_mem : ∀ (t : Int) (ns : List Int), maxI t ns ∈ t :: ns
  | t, [] => List.mem_cons_self
  | t, z :: r => by
    rw [maxI]
    rcases List.mem_cons.mp (maxI_mem (if z > t then z else t) r) with h | h
    · rw [h]
      by_cases c : z > t
      · rw [if_pos c]; exact List.mem_cons_of_mem _ List.mem_cons_self
      · rw [if_neg c]; exact List.mem_cons_self
    · exact List.mem_cons_of_mem _ (List.mem_cons_of_mem _ h)
theorem maxI_ge : ∀ (t : Int) (ns : List Int) (y : Int), y ∈ t :: ns → y ≤ maxI t ns
  | t, [], y, h => by
    rw [List.mem_singleton.mp h]
    exact Int.le_refl _
  | t, z :: r, y, h => by
    rw [maxI]
    have up : (if z > t then z else t) ≤ maxI (if z > t then z else t) r := maxI_ge _ r _ List.mem_cons_self
    have both : t ≤ (if z > t then z else t) ∧ z ≤ (if z > t then z else t) := by split <;> omega
    obtain rfl | h := List.mem_cons.mp h
    · exact Int.le_trans both.1 up
    · obtain rfl | h := List.mem_cons.mp h
      · exact Int.le_trans both.2 up
      · exact maxI_ge _ r y (List.mem_cons_of_mem _ h)
theorem reads_ints {h : Heap} : ∀ {vs : List Value} {ns : List Int}, IntsAre vs ns → ReadsAll h vs (ns.map PyData.int) []
  | _, _, .nil => .nil
  | _, _, .cons n t r => .cons (as := []) (.int n t) (reads_ints r)
theorem depth_ints : ∀ ns : List Int, PyData.depthAll (ns.map PyData.int) = 0
  | [] => rfl
  | n :: ns => by
    show max 0 (PyData.depthAll (ns.map PyData.int)) = 0
    rw [depth_ints ns]
    rfl
theorem alike_ints (ns : List Int) : PySem.W.AlikeAll (ns.map PyData.int) := by
  refine ⟨fun x hx y hy => ?_, fun x hx => ?_⟩
  · obtain ⟨a, _, rfl⟩ := List.mem_map.mp hx
    obtain ⟨b, -, rfl⟩ := List.mem_map.mp hy
    rfl
  · obtain ⟨a, _, rfl⟩ := List.mem_map.mp hx
    exact fun h => by cases h
theorem maxD_ints : ∀ (t : Int) (ns : List Int), PySem.W.maxD (.int t) (ns.map PyData.int) = .int (maxI t ns)
  | _, [] => rfl
  | t, z :: r => by
    have ih := maxD_ints (if z > t then z else t) r
    show PySem.W.maxD (if PySem.W.dataLt (.int t) (.int z) = true then .int z else .int t) (r.map PyData.int) = _
    rw [PySem.W.dataLt_int, maxI, ← ih]
    by_cases c : t < z
    · rw [if_pos (decide_eq_true c), if_pos c]
    · rw [if_neg (by simpa using c), if_neg c]
theorem cr_maxT (hc : X.calm = true) (hu : X.A.units + 64 < cLine) : CallR X (.builtin "max") fun vs H Q => ∃ (a : Addr) (n : Int) (ns : List Int), vs = [V.ref a] ∧ SqT X.K H a ((n :: ns).map V.int) ∧ Q (.int (maxI n ns)) H := by
  intro pins s σ H vs us Qv I r h
  obtain ⟨a, n, ns, rfl, hs, q⟩ := h
  obtain ⟨its, rv, hl, _⟩ := I.tuple hs
  rw [Vals.ref1 r]
  have hi := rv.ints
  refine PySem.W.max_tuple_data (I.ok.hd hc) hl (x := .int n) (xs := ns.map PyData.int) (as := []) (reads_ints hi) (alike_ints (n :: ns)) ?_ fun i v h' tk bs hv rd hk => ?_
  · rw [show (PyData.int n :: ns.map PyData.int) = (n :: ns).map PyData.int from rfl, depth_ints]
    omega
  · rw [maxD_ints] at rd
    cases rd with
    | int _ t => exact ⟨.int _, H, I.kept hk, ⟨_, rfl⟩, q⟩
def cMaxS : List D → Option D
  | [d] => match d with
    | .lst xs => resMax xs
    | .tup xs => resMax xs
    | .scr ns => match ns with
      | n :: ns => some (.int (maxI n ns))
      | [] => none
    | _ => none
  | _ => none
theorem CallR.or {v : Value} {r r' : List V → Hp → VK → Prop} (h : CallR X v r) (h' : CallR X v r') : CallR X v fun vs H Q => r vs H Q ∨ r' vs H Q :=
  fun pins s σ H vs us Q I rv q => q.elim (fun z => h pins s σ H vs us Q I rv z) fun z => h' pins s σ H vs us Q I rv z
theorem ints_dq {K : PySem.W.Frag} {B : Hp} : ∀ {vs : List V} {ds : List D} {ns : List Int}, DqAll K B vs ds → intsD ds = some ns → vs = ns.map V.int
  | _, _, _, .nil, e => by cases e; rfl
  | _, _, ns, .cons (d := d) (ds := ds) a r, e => by
    cases a <;> first | cases e | skip
    rename_i i
    have e : (intsD ds).map (i :: ·) = some ns := e
    cases q : intsD ds with
    | none => (rw [q] at e; cases e)
    | some ms =>
      rw [q] at e
      cases e
      rw [ints_dq r q]
      rfl
theorem cd_maxS (hc : X.calm = true) (hu : X.A.units + 64 < cLine) : CalD X S (.builtin "max") cMaxS := ⟨_, CallR.or (cr_max hc) (cr_maxT hc hu), fun B H vs ds z Q s hd hcs w => by
  have fin : ∀ {a : Addr} {n : Int} {ns : List Int}, SqL X.K H a ((n :: ns).map V.int) → z = .int (maxI n ns) → L2.rMax X.K [V.ref a] H Q := by
    rintro a n ns sq rfl
    refine ⟨a, n :: ns, rfl, sq, Nat.succ_pos _, fun m hm hge => ?_⟩
    have e : m = maxI n ns := Int.le_antisymm (maxI_ge n ns m hm) (hge _ (maxI_mem n ns))
    rw [e]
    exact w.now s (.int _)
  unfold cMaxS at hcs
  split at hcs
  · rename_i d
    obtain ⟨v, rfl, hv⟩ := dqall_one hd
    cases hv <;> first | cases hcs | skip
    · rename_i us xs h1 h2
      have hcs : resMax xs = some z := hcs
      unfold resMax at hcs
      split at hcs
      · rename_i n ns q
        cases hcs
        have e := ints_dq h2 q
        subst e
        exact .inl (fin (SqL.of (s.bh _ _ h1)) rfl)
      · cases hcs
    · rename_i us xs h1 h2
      have hcs : resMax xs = some z := hcs
      unfold resMax at hcs
      split at hcs
      · rename_i n ns q
        cases hcs
        have e := ints_dq h2 q
        subst e
        exact .inr ⟨_, n, ns, rfl, same_tup s.bh h1, w.now s (.int _)⟩
      · cases hcs
    · rename_i ns h1
      cases ns with
      | nil => cases hcs
      | cons n ns =>
        cases hcs
        exact .inl (fin (same_seqL s.bh h1) rfl)
  · cases hcs⟩
/-! ### list(range(..)) -/
def rngL (a b : Int) : List D := (List.range (b - a).toNat).map fun (i : Nat) => .int (a + (i : Int))
def rgOkB (a b : Int) : Bool := decide (-(2 ^ 62) ≤ a ∧ a < 2 ^ 62 ∧ -(2 ^ 62) ≤ b ∧ b < 2 ^ 62 ∧ (b - a).toNat ≤ 2 ^ 24)
def fLrg1 (f : List Sl → Rs D) (env : List Sl) : Rs Ow := (f env).bind fun d e => match d with
  | .int b => if rgOkB 0 b = true then .ok (.l (rngL 0 b)) e else .bad
  | _ => .bad
end
end Pf
namespace Pf
open PySem PySem.Spec PyProof.Rows L2 GxR GenW Gx Wk
section
variable {X : Cx} {S : Se} {M : Xw}
/-! ### own[i] op= e -/
theorem get_own : PGet X fun o i H Q => ∃ (p : Addr) (xs : List V) (k : Int) (z : V), o = .ref p ∧ i = .int k ∧ 0 ≤ k ∧ SqL X.K H p xs ∧ xs[k.toNat]? = some z ∧ Q z H := by
  intro pins s σ H o i ov iv Q I ro ri h
  obtain ⟨p, xs, k, z, rfl, rfl, hk, hq, he, q⟩ := h
  cases ro
  obtain ⟨t, rfl⟩ := ri
  have ⟨its, r, pl, hz⟩ := I.list hq
  obtain ⟨u, eu, ru⟩ := r.get he
  have hl := r.length
  have hlt := (List.getElem?_eq_some_iff.mp he).1
  have hn := line63
  exact wpAny_getItem_list pl.isList hk (by omega) (by simpa using eu) ⟨z, H, I, ru, q⟩
def augItem (i : Nat) (f g : List Sl → Rs D) (c : D → D → Option D) (env : List Sl) : Ro :=
  if pkN i env = true then (f env).ro fun k e => match e[i]?, k with
    | some (.ow (.l xs)), .int j => if 0 ≤ j then match xs[j.toNat]? with
        | some a => (g e).ro fun b e => match e[i]?, c a b with
          | some (.ow (.l ys)), some z => if j < ys.length then .nx (e.set i (.ow (.l (ys.set j.toNat z)))) else .bad
          | _, _ => .bad
        | none => .bad
      else .bad
    | _, _ => .bad
  else .bad
theorem px_augItem {x : Str} {i : Nat} {b e : Expr} {op : Operator} {pos tpos p1 : Pos} {f g : List Sl → Rs D} {c : D → D → Option D} (hN : X.N[i]? = some x) (hv : Vis X.env.scope x) (hb : PV X S M b f) (he : PV X S M e g) (o : IpD X S op c)
    (hd1 : (x == Str.ofString "__debug__") = false := by rfl) (hd2 : (x == Str.ofString "__classdict__") = false := by rfl)
    (ha : ∀ ov iv new, augStore b ov iv new = (do holding [new, ov, iv] (setItem ov iv new); release [new, ov, iv] []; pure Flow.next) := by exact fun _ _ _ => rfl) :
    PX X S M (.AugAssign (.Subscript (.Name x p1) b tpos) op e pos) (augItem i f g c) := by
  obtain ⟨r, o1, o2⟩ := o.ex
  refine ⟨psI (ps_augS (pe_var hN hv hd1 hd2) hb.pe get_own he.pe o1 set_list ha) ?_⟩
  rintro D0 σ H ⟨B, env, R, P⟩
  unfold augItem at P
  split at P
  · rename_i hk
    obtain ⟨v, hv⟩ := pkN_v R hk
    refine ⟨v, hv, B, env, R, (PostS.of P).mono fun k e1 B1 H1 R1 X1 P1 y hy => ?_⟩
    split at P1
    · rename_i xs j hx
      split at P1
      · rename_i hj
        split at P1
        · rename_i a ha'
          obtain ⟨p, vs, f1, f2, f3⟩ := ow_v R1 hx
          rw [hv] at f1
          cases f1
          cases hy
          obtain ⟨u, g1, g2⟩ := f3.get ha'
          refine ⟨p, vs, j, u, rfl, rfl, hj, SqL.of f2, g1, B1, e1, R1, (PostS.of P1).mono fun b2 e2 B2 H2 R2 X2 P2 w hw => ?_⟩
          split at P2
          · rename_i ys z hy2 hc
            split at P2
            · rename_i hlt
              refine o2 B2 H2 u w a b2 z _ R2.sit (g2.mono X2.same) hw hc fun u2 B3 H3 g3 hu2 => ?_
              have R3 := (g3.rel R2).1
              obtain ⟨p', vs3, k1, k2, k3⟩ := ow_v R3 hy2
              rw [hv] at k1
              cases k1
              have hl : j.toNat < ys.length := by omega
              refine ⟨p, vs3, j, j.toNat, rfl, rfl, k2, ?_, ?_⟩
              · unfold ixN
                rw [if_pos hj, if_pos (by rw [k3.length]; exact hlt)]
              · obtain ⟨R4, X4⟩ := R3.mut (ys := .l (ys.set j.toNat z)) (us := .lst (vs3.set j.toNat u2)) hy2 hv (k3.set hu2 _)
                exact P2 _ _ σ R4 (g3.same.trans X4.same)
            · exact P2.elim
          · exact P2.elim
        · exact P1.elim
      · exact P1.elim
    · exact P1.elim
  · exact P.elim
/-! ### own.pop(i) -/
/-! ### own.extend(t), t a tuple -/
theorem ext_tuple (l : Addr) (us : Array Value) (n : Nat) (b : Addr) (ob : Obj) (ws : Array Value) (m : Nat) (hb1 : ob.cls = .type "tuple") (hb2 : ob.data = .seq ws m)
    (long : ¬ (!us.isEmpty && Builtin.List.listTooLong (us.size + ws.size)) = true) (fit : us.size + ws.size ≤ sizeLine) :
    Meets (Builtin.«list.extend» ⟨[.ref l, .ref b], []⟩) fun _ R s => s.heap.get? l = some { cls := .type "list", dict := none, data := .seq us n, slots := #[] } ∧ s.heap.get? b = some ob ∧
      R (.ok (.ret Value.none)) { s with heap := s.heap.update l (Obj.mapSeq fun x => x ++ ws), toks := s.toks } :=
  .of_wp fun prog w A R st h => by
    obtain ⟨hp, g, d, tk, os⟩ := st
    obtain ⟨hl, hb, h⟩ := h
    obtain ⟨oc, od, dt, sl⟩ := ob
    have hb1 : oc = .type "tuple" := hb1
    have hb2 : dt = .seq ws m := hb2
    subst hb1
    subst hb2
    have k1 := PySem.AutoSeq1.idx_int
    have k2 := PySem.AutoSeq1.sub_tuple_tuple
    have k3 := PySem.AutoSeq1.sub_list_list
    have k4 := PySem.AutoSeq1.sub_tuple_list
    have k5 := PySem.AutoSeq1.sub_list_tuple
    have z1 : us.size ≤ sizeLine := by omega
    have z2 : (us ++ ws).size ≤ sizeLine + 1 := by rw [Array.size_append]; omega
    have hc0 := long
    wp_walk using (wpAny_updateSeq hl rfl (hz := z1) (_hz' := z2)), PySem.AutoSeq1.wpAny_loadPart' hl, PySem.AutoSeq1.wpAny_loadPart' hb
    exact ⟨_, rfl, h⟩
theorem mt_extendT : MtM X "list.extend" fun x vs H Q => ∃ (l b : Addr) (xs zs : List V), x = .ref l ∧ vs = [.ref b] ∧ H l = some (.lst xs) ∧ SqT X.K H b zs ∧ xs.length + zs.length ≤ sizeLine ∧ Q .non (upd H l (.lst (xs ++ zs))) := by
  intro pins s σ H x vs v us Qv I rx rv h
  obtain ⟨l, b, xs, ys, rfl, rfl, hH, hB, hz, q⟩ := h
  cases rx
  obtain ⟨u, rfl, ru⟩ := rv.one
  cases ru
  have ⟨z, its, n, r, hl, e⟩ := I.lstM hH
  obtain ⟨ws, r2, ⟨ob, e2, c2, m, d2⟩, z2⟩ := I.tuple hB
  have l2 := r2.length
  have fit : its.toArray.size + ws.toArray.size ≤ sizeLine := by
    simp only [List.size_toArray]
    omega
  refine call_meets F.slot_list_extend ⟨_, e, rfl⟩ F.entry_list_extend
    (F.args_list_extend_2 _ _)
    (ext_tuple l its.toArray n b ob ws.toArray m c2 d2 (by rw [notLongL fit, Bool.and_false]; exact Bool.false_ne_true) fit) ⟨e, e2, .non, _, I.lset (its' := its ++ ws) hH e (by simp) (r.append r2) (by rw [List.length_append]; exact hz), rfl, q⟩
theorem MtM.or {id : String} {r r' : V → List V → Hp → VK → Prop} (h : MtM X id r) (h' : MtM X id r') : MtM X id fun x vs H Q => r x vs H Q ∨ r' x vs H Q :=
  fun pins s σ H x vs v us Q I rx rv q => q.elim (fun z => h pins s σ H x vs v us Q I rx rv z) fun z => h' pins s σ H x vs v us Q I rx rv z
def fExt (i : Nat) (f : List Sl → Rs D) (env : List Sl) : Rs D :=
  match env[i]? with
  | some (.ow (.l _)) => (f env).bind fun d e => match e[i]?, d with
    | some (.ow (.l xs)), .lst ys => if xs.length + ys.length ≤ sizeLine then .ok .non (e.set i (.ow (.l (xs ++ ys)))) else .bad
    | some (.ow (.l xs)), .tup ys => if xs.length + ys.length ≤ sizeLine then .ok .non (e.set i (.ow (.l (xs ++ ys)))) else .bad
    | _, _ => .bad
  | _ => .bad
theorem pv_ext {x : Str} {i : Nat} {e : Expr} {pos apos p1 : Pos} {f : List Sl → Rs D} (hN : X.N[i]? = some x) (hv : Vis X.env.scope x) (h : PV X S M e f)
    (hd1 : (x == Str.ofString "__debug__") = false := by rfl) (hd2 : (x == Str.ofString "__classdict__") = false := by rfl)
    (q1 : attributeBase (.Name x p1) "extend" X.env (eval (.Name x p1) X.env) = eval (.Name x p1) X.env := by rfl)
    (q2 : (((backTo pos (starEach [e] X.env)).all (fun x => !x.1) && (backToKw pos (keywordEach [] X.env)).all (fun x => x.1.isSome) && decide (([e].length + ([] : List Keyword).length + if ([] : List Keyword).isEmpty = true then 0 else 1) < 30))) = true := by rfl)
    (q3 : (apos.endLine == pos.line) = true := by rfl)
    (q4 : starEach [e] X.env = (false, eval e X.env) :: starEach [] X.env := by rfl)
    (q5 : ((backTo pos (starEach [] X.env)).any fun x => x.1) = false := by rfl) :
    PV X S M (.Call (.Attribute (.Name x p1) "extend" apos) [e] [] pos) (fExt i f) := ⟨peI (pe_bm PySem.F.plainAttrs_list PySem.F.slot_list_extend PySem.F.type_list_extend (MtM.or mt_extend mt_extendT) (pe_var hN hv hd1 hd2) (pas_cons h pas_nil q4).pa q1 q2 q3 q4 q5) (by
  rintro σ H Q ⟨B, env, R, P⟩
  unfold fExt at P
  split at P
  · rename_i ys hy
    obtain ⟨p, vs, e1, e2, e3⟩ := ow_v R hy
    refine ⟨.ref p, e1, .inl ⟨rfl, vs, SqL.of e2⟩, B, env, R, ?_⟩
    unfold fCons
    revert P
    cases q : f env with
    | bad => exact fun h => h
    | ex x => exact fun h => h
    | ok d e =>
      intro P B1 H1 R1 X1 us hus
      have P1 := Post.bind (r := Rs.ok d e) P B1 H1 R1 X1
      dsimp only at P1
      split at P1
      · rename_i xs zs hx
        split at P1
        · rename_i hl
          obtain ⟨p', vs1, f1, f2, f3⟩ := ow_v R1 hx
          rw [e1] at f1; cases f1
          obtain ⟨v, rfl, hv⟩ := dqall_one hus
          cases hv with
          | @lst a ws _ h1 h2 =>
            obtain ⟨R2, X2⟩ := R1.mut (ys := .l (xs ++ zs)) (us := .lst (vs1 ++ ws)) hx e1 (f3.append h2)
            exact .inl ⟨p, a, vs1, ws, rfl, rfl, f2, R1.bh _ _ h1, by rw [f3.length, h2.length]; exact hl, P1 _ _ R2 X2 _ .non⟩
        · exact P1.elim
      · rename_i xs zs hx
        split at P1
        · rename_i hl
          obtain ⟨p', vs1, f1, f2, f3⟩ := ow_v R1 hx
          rw [e1] at f1; cases f1
          obtain ⟨v, rfl, hv⟩ := dqall_one hus
          cases hv with
          | @tup a ws _ h1 h2 =>
            obtain ⟨R2, X2⟩ := R1.mut (ys := .l (xs ++ zs)) (us := .lst (vs1 ++ ws)) hx e1 (f3.append h2)
            exact .inr ⟨p, a, vs1, ws, rfl, rfl, f2, same_tup R1.bh h1, by rw [f3.length, h2.length]; exact hl, P1 _ _ R2 X2 _ .non⟩
        · exact P1.elim
      · exact P1.elim
  · exact P.elim)⟩
end
end Pf
namespace Pf
open PySem PySem.Spec PyProof.Rows L2 GxR GenW Gx Wk
section
variable {X : Cx} {S : Se} {M : Xw}
/-! ### comprehensions of two clauses -/
def turn2 (g : D → List Sl → Option (List Sl)) (t : List Sl → Rs Bool) (f1 : List Sl → Rs (List D)) (g1 : D → List Sl → Option (List Sl)) (t1 : List Sl → Rs Bool) (el : List Sl → Rs D) (vs1 : List Nat) (e0 : List Sl) (d : D) : Option (List D) :=
  match g d e0 with
  | none => none
  | some e1 => match t e1 with
    | .ok b e1' => if b = true then match f1 e1' with
        | .ok ds1 e2 => turnsD g1 t1 el (hideE vs1 e2) ds1
        | _ => none
      else some []
    | _ => none
def turns2 (g : D → List Sl → Option (List Sl)) (t : List Sl → Rs Bool) (f1 : List Sl → Rs (List D)) (g1 : D → List Sl → Option (List Sl)) (t1 : List Sl → Rs Bool) (el : List Sl → Rs D) (vs1 : List Nat) (e0 : List Sl) : List D → Option (List D)
  | [] => some []
  | d :: ds => match turn2 g t f1 g1 t1 el vs1 e0 d with
    | none => none
    | some xs => (turns2 g t f1 g1 t1 el vs1 e0 ds).map (xs ++ ·)
theorem turn2_sem {K : PySem.W.Frag} {g : D → List Sl → Option (List Sl)} {t : List Sl → Rs Bool} {f1 : List Sl → Rs (List D)} {g1 : D → List Sl → Option (List Sl)} {t1 : List Sl → Rs Bool} {el : List Sl → Rs D} {L own vs1 : List Nat}
    {B H : Hp} {e0 : List Sl} {σ : L2.St} {x : V} {d : D} {r : List D} {KI : L2.St → It → Hp → Prop} {N : Hp → Prop} (hL : ∀ i ∈ L, i ∈ own) (R : Rel K S B e0 (wipe σ own) H) (no : ∀ a, ¬ OwnA e0 (wipe σ own) a) (hx : Dq K B x d)
    (ht : turn2 g t f1 g1 t1 el vs1 e0 d = some r)
    (k1 : ∀ σ2 J1 B4 H4 e2 ds1, turnsD g1 t1 el (hideE vs1 e2) ds1 = some r → Grow K S B H B4 H4 → Rel K S B4 e2 σ2 H4 → (∀ a, ¬ OwnA e2 σ2 a) → Walk K S J1 ds1 B4 → KI σ2 J1 H4)
    (k2 : ∀ B4 H4, r = [] → Grow K S B H B4 H4 → N H4) :
    semG K S g L x (wipe σ own) H fun σ2 H2 => wipe σ2 own = wipe σ own ∧ semT K S M.calm t σ2 H2 fun b H3 => if b = true then semI K S M.calm f1 σ2 H3 (KI σ2) else N H3 := by
  unfold turn2 at ht
  cases q1 : g d e0 with
  | none => rw [q1] at ht; cases ht
  | some e1 =>
    rw [q1] at ht
    refine ⟨B, e0, d, e1, R, hx, q1, fun σ2 R1 o1 off => ⟨wipe_off off hL, B, e1, R1, ?_⟩⟩
    have no1 : ∀ a, ¬ OwnA e1 σ2 a := fun a h => no a (o1 a h)
    dsimp only at ht
    cases q2 : t e1 with
    | bad => rw [q2] at ht; cases ht
    | ex x => rw [q2] at ht; cases ht
    | ok b e2 =>
      rw [q2] at ht
      intro B3 H3 R3 X3
      have no2 : ∀ a, ¬ OwnA e2 σ2 a := fun a h => no1 a (X3.sub a h)
      cases b with
      | false =>
        cases ht
        exact k2 B3 H3 rfl (.of no1 R3 X3)
      | true =>
        refine ⟨B3, e2, R3, ?_⟩
        dsimp only at ht
        rw [if_pos rfl] at ht
        cases q3 : f1 e2 with
        | bad => rw [q3] at ht; cases ht
        | ex x => rw [q3] at ht; cases ht
        | ok ds1 e3 =>
          rw [q3] at ht
          exact fun B4 H4 R4 X4 J1 wk => k1 σ2 J1 B4 H4 e3 ds1 ht ((Grow.of no1 R3 X3).trans (.of no2 R4 X4)) R4 (fun a h => no2 a (X4.sub a h)) wk
/-- a place that is no one's and changes -/
structure Loose (K : PySem.W.Frag) (S : Se) (D0 : Addr) (B H : Hp) (e : List Sl) (σ : L2.St) (o : HO) : Prop where
  at' : H D0 = some o
  b : B D0 = none
  nt : ∀ ps, o ≠ .tbl ps
  no : ¬ OwnA e σ D0
theorem Loose.grow {K : PySem.W.Frag} {D0 : Addr} {B H B' H' : Hp} {e : List Sl} {σ : L2.St} {o : HO} (l : Loose K S D0 B H e σ o) (g : Grow K S B H B' H') : Loose K S D0 B' H' e σ o := by
  refine ⟨g.old.at l.at' l.nt, ?_, l.nt, l.no⟩
  cases z : B' D0 with
  | none => rfl
  | some u =>
    rcases g.new _ _ z with y | y
    · rw [l.b] at y; cases y
    · rw [l.at'] at y; cases y
def fLc2 (f : List Sl → Rs (List D)) (g : D → List Sl → Option (List Sl)) (t : List Sl → Rs Bool) (f1 : List Sl → Rs (List D)) (g1 : D → List Sl → Option (List Sl)) (t1 : List Sl → Rs Bool) (el : List Sl → Rs D) (own vs1 : List Nat) (env : List Sl) : Rs Ow :=
  (f env).bind fun ds e => match turns2 g t f1 g1 t1 el vs1 (hideE own e) ds with
    | some xs => if xs.length ≤ sizeLine then .ok (.l xs) e else .bad
    | none => .bad
/-- a set of integers that grows -/
def insI (acc : List Int) (z : Int) : List Int := if z ∈ acc then acc else acc ++ [z]
def setI (zs : List Int) : List Int := zs.foldl insI []
def fSc2 (f : List Sl → Rs (List D)) (g : D → List Sl → Option (List Sl)) (f1 : List Sl → Rs (List D)) (g1 : D → List Sl → Option (List Sl)) (el : List Sl → Rs D) (own vs1 : List Nat) (env : List Sl) : Rs (List Int) :=
  (f env).bind fun ds e => match turns2 g tYes' f1 g1 tYes' el vs1 (hideE own e) ds with
    | some xs => match intsD xs with
      | some zs => if zs.length + 1 < scanBound then .ok (setI zs) e else .bad
      | none => .bad
    | none => .bad
/-- z put at its place in an ascending list -/
def putI (z : Int) : List Int → List Int
  | [] => [z]
  | a :: r => if z < a then z :: a :: r else if z = a then a :: r else a :: putI z r
def upI (zs : List Int) : List Int := zs.foldr putI []
/-- sorted of a set of fewer than 64 members -/
def fSrtS (c : List Sl → Rs (List Int)) (env : List Sl) : Rs Ow := (c env).bind fun zs e => if zs.length < 64 then .ok (.l ((upI zs).map .int)) e else .bad
theorem intsD_app : ∀ {xs ys : List D} {ns : List Int}, intsD (xs ++ ys) = some ns → ∃ as bs, intsD xs = some as ∧ intsD ys = some bs ∧ ns = as ++ bs
  | [], ys, ns, h => ⟨[], ns, rfl, h, rfl⟩
  | .int i :: xs, ys, ns, h => by
    have h : (intsD (xs ++ ys)).map (i :: ·) = some ns := h
    cases q : intsD (xs ++ ys) with
    | none => rw [q] at h; cases h
    | some ms =>
      rw [q] at h
      cases h
      obtain ⟨as, bs, h1, h2, h3⟩ := intsD_app q
      exact ⟨i :: as, bs, by show (intsD xs).map (i :: ·) = _; rw [h1]; rfl, h2, by rw [h3]; rfl⟩
  | .non :: _, _, _, h => by cases h
  | .bl _ :: _, _, _, h => by cases h
  | .str _ :: _, _, _, h => by cases h
  | .lst _ :: _, _, _, h => by cases h
  | .tup _ :: _, _, _, h => by cases h
  | .scr _ :: _, _, _, h => by cases h
  | .rng _ _ :: _, _, _, h => by cases h
theorem setI_len (acc zs : List Int) : (zs.foldl insI acc).length ≤ acc.length + zs.length := by
  induction zs generalizing acc with
  | nil => simp
  | cons z r ih =>
    simp only [List.length_cons, List.foldl_cons]
    have h1 := ih (insI acc z)
    have h2 : (insI acc z).length ≤ acc.length + 1 := by
      unfold insI
      split
      · omega
      · simp
    omega
/-- the set's place -/
def setH (w : World) (D0 : Addr) (acc : List Int) : HO := SetO w D0 (fun j => decide (j ∈ acc)) acc.length
theorem setH_ins (w : World) (D0 : Addr) (acc : List Int) (z : Int) :
    SetO w D0 (fun j => decide (j ∈ acc) || decide (j = z)) (if decide (z ∈ acc) = true then acc.length else acc.length + 1) = setH w D0 (insI acc z) := by
  unfold setH insI
  by_cases c : z ∈ acc
  · rw [if_pos (decide_eq_true c), if_pos c]
    congr 1
    funext j
    by_cases e : j = z
    · subst e; simp [c]
    · simp [e]
  · rw [if_neg (by simpa using c), if_neg c, List.length_append]
    congr 1
    funext j
    simp [List.mem_append, Bool.decide_or]
theorem sem_sc2 {K : PySem.W.Frag} {w : World} {f : List Sl → Rs (List D)} {g : D → List Sl → Option (List Sl)} {f1 : List Sl → Rs (List D)} {g1 : D → List Sl → Option (List Sl)} {el : List Sl → Rs D} {own vs1 L L1 : List Nat}
    (hL : ∀ i ∈ L, i ∈ own) (hL1 : ∀ i ∈ L1, i ∈ vs1) :
    ∀ σ H Q, (∃ B env, Rel K S B env σ H ∧ Post K S M σ B H env (fSc2 f g f1 g1 el own vs1 env) fun zs _ _ H' => ∀ a, H' a = some (setH w a zs) → Q (.ref a) H') →
      tSc2 w (semI K S M f) (semG K S g L) (semI K S M.calm f1) (semG K S g1 L1) (semE K S M.calm el) own vs1 σ H Q := by
  rintro σ H Q ⟨B, env, R, P⟩
  refine ⟨B, env, R, (Post.bind P).mono fun ds e B1 H1 R1 X1 P1 J wk D0 hD => ?_⟩
  cases q : turns2 g tYes' f1 g1 tYes' el vs1 (hideE own e) ds with
  | none => rw [q] at P1; exact P1.elim
  | some total =>
    rw [q] at P1
    dsimp only at P1
    cases qz : intsD total with
    | none => rw [qz] at P1; exact P1.elim
    | some zs =>
      rw [qz] at P1
      dsimp only at P1
      split at P1
      · rename_i hlen
        have hs0 : S.H0 D0 = none := R1.old.none hD
        have nown : ¬ OwnA e σ D0 := fun ow => by
          obtain ⟨_, _, o', w', h1, _⟩ := R1.ownB ow
          rw [hD] at h1
          cases h1
        refine ⟨fun i m H' => ∃ B' acc rest, m = ds.length - i ∧ i ≤ ds.length ∧ Rel K S B' e σ H' ∧ Ext e e σ B1 H1 B' H' ∧ Loose K S D0 B' H' e σ (setH w D0 (acc.foldl insI [])) ∧
          turns2 g tYes' f1 g1 tYes' el vs1 (hideE own e) (ds.drop i) = some rest ∧ ∃ bs, intsD rest = some bs ∧ acc ++ bs = zs, ?_, ?_⟩
        · have F := R1.lay (o := setH w D0 []) hD
          exact ⟨_, B1, [], total, rfl, Nat.zero_le _, F.1, F.2, ⟨upd_same, R1.bh.free hD, fun ps h => (by cases h), nown⟩, q, zs, qz, rfl⟩
        · rintro i m H' ⟨B', acc, rest, rfl, hle, R', X', Lo, hrest, bs, hbs, hsum⟩
          by_cases hl : i < ds.length
          · right
            refine ⟨wk.go B' H' i R'.sit X'.same hl, fun H2 => ∃ B2 acc rest, Rel K S B2 e σ H2 ∧ Ext e e σ B1 H1 B2 H2 ∧ Loose K S D0 B2 H2 e σ (setH w D0 (acc.foldl insI [])) ∧
              turns2 g tYes' f1 g1 tYes' el vs1 (hideE own e) (ds.drop (i + 1)) = some rest ∧ ∃ bs, intsD rest = some bs ∧ acc ++ bs = zs, ?_, ?_⟩
            · rintro H2 ⟨B2, acc, rest, R2, X2, h1, h2, h3⟩
              exact ⟨ds.length - (i + 1), by omega, B2, acc, rest, rfl, hl, R2, X2, h1, h2, h3⟩
            · intro x H2 hy
              obtain ⟨B2, gr, dq⟩ := wk.yld B' H' i x H2 ds[i] R'.sit X'.same (List.getElem?_eq_getElem hl) hy
              have R2 := (gr.relK R').1
              rw [drop_cons hl, turns2] at hrest
              cases qt : turn2 g tYes' f1 g1 tYes' el vs1 (hideE own e) ds[i] with
              | none => rw [qt] at hrest; cases hrest
              | some r =>
                rw [qt] at hrest
                dsimp only at hrest
                cases q2 : turns2 g tYes' f1 g1 tYes' el vs1 (hideE own e) (ds.drop (i + 1)) with
                | none => rw [q2] at hrest; cases hrest
                | some rest2 =>
                  rw [q2] at hrest
                  have hrest : some (r ++ rest2) = some rest := hrest
                  cases hrest
                  obtain ⟨as, bs2, h1, h2, rfl⟩ := intsD_app hbs
                  have main := turn2_sem (M := M) (N := fun _ => True) (KI := fun σ2 J1 H4 => ∃ W1 : Nat → Nat → Hp → Prop, (∃ m, W1 0 m H4) ∧ ∀ j k H, W1 j k H →
                      (J1.stop j H ∧ (∃ B2 acc rest, Rel K S B2 e σ H ∧ Ext e e σ B1 H1 B2 H ∧ Loose K S D0 B2 H e σ (setH w D0 (acc.foldl insI [])) ∧ some rest2 = some rest ∧ ∃ bs, intsD rest = some bs ∧ acc ++ bs = zs)) ∨
                      (J1.go j H ∧ ∃ Nx1 : Hp → Prop, (∀ H', Nx1 H' → ∃ k', k' < k ∧ W1 (j + 1) k' H') ∧ ∀ x H', J1.yld j H x H' → semG K S g1 L1 x (wipe σ2 vs1) H' fun σ3 H5 => wipe σ3 vs1 = wipe σ2 vs1 ∧
                        semE K S M.calm el σ3 H5 fun y H7 => ∃ z Sx n, y = V.int z ∧ H7 D0 = some (SetO w D0 Sx n) ∧ n + 1 < scanBound ∧ Nx1 (upd H7 D0 (SetO w D0 (fun j => Sx j || decide (j = z)) (if Sx z = true then n else n + 1)))))
                    hL (R2.hide own) hide_own dq qt (fun σ2 J1 B4 H4 e2 ds1 hds g4 R4 no4 wk1 => ?_) (fun _ _ _ _ => trivial)
                  · obtain ⟨Bx, ex, dx, ey, a1, a2, a3, a4⟩ := main
                    refine ⟨Bx, ex, dx, ey, a1, a2, a3, fun σ3 b1 b2 b3 => ?_⟩
                    obtain ⟨c1, c2⟩ := a4 σ3 b1 b2 b3
                    refine ⟨c1, ?_⟩
                    obtain ⟨By, ez, d1, d2⟩ := c2
                    exact d2.ok d1
                  · have g5 := gr.trans g4
                    have Ro := (g5.relK R').1
                    have Xo := X'.trans (g5.relK R').2
                    have Lo4 := Lo.grow g5
                    refine ⟨fun j k H5 => ∃ B5 acc5 rest5, k = ds1.length - j ∧ j ≤ ds1.length ∧ Same B4 B5 ∧ Rel K S B5 e σ H5 ∧ Ext e e σ B1 H1 B5 H5 ∧ Rel K S B5 e2 σ2 H5 ∧ Loose K S D0 B5 H5 e σ (setH w D0 (acc5.foldl insI [])) ∧
                      turnsD g1 tYes' el (hideE vs1 e2) (ds1.drop j) = some rest5 ∧ ∃ cs, intsD rest5 = some cs ∧ acc5 ++ (cs ++ bs2) = zs, ?_, ?_⟩
                    · exact ⟨_, B4, acc, r, rfl, Nat.zero_le _, Same.refl _, Ro, Xo, R4, Lo4, hds, as, h1, hsum⟩
                    · rintro j k H5 ⟨B5, acc5, rest5, rfl, hj, sm5, Ro5, Xo5, R5, Lo5, hr5, cs, hcs, hsum5⟩
                      by_cases hj2 : j < ds1.length
                      · right
                        refine ⟨wk1.go B5 H5 j Ro5.sit sm5 hj2, fun H6 => ∃ B6 acc6 rest6, Same B4 B6 ∧ Rel K S B6 e σ H6 ∧ Ext e e σ B1 H1 B6 H6 ∧ Rel K S B6 e2 σ2 H6 ∧ Loose K S D0 B6 H6 e σ (setH w D0 (acc6.foldl insI [])) ∧
                          turnsD g1 tYes' el (hideE vs1 e2) (ds1.drop (j + 1)) = some rest6 ∧ ∃ cs, intsD rest6 = some cs ∧ acc6 ++ (cs ++ bs2) = zs, ?_, ?_⟩
                        · rintro H6 ⟨B6, acc6, rest6, s1, s2, s3, s4, s5, s6, s7⟩
                          exact ⟨ds1.length - (j + 1), by omega, B6, acc6, rest6, rfl, hj2, s1, s2, s3, s4, s5, s6, s7⟩
                        · intro x1 H6 hy1
                          obtain ⟨B6, gr6, dq6⟩ := wk1.yld B5 H5 j x1 H6 ds1[j] Ro5.sit sm5 (List.getElem?_eq_getElem hj2) hy1
                          have R6 := (gr6.relK R5).1
                          rw [drop_cons hj2, turnsD] at hr5
                          cases qt6 : turnD g1 tYes' el (hideE vs1 e2) ds1[j] with
                          | none => rw [qt6] at hr5; cases hr5
                          | some rr =>
                            rw [qt6] at hr5
                            have main1 := turn_sem (M := M) (N := fun _ => False) (Y := fun y H7 => ∃ z Sx n, y = V.int z ∧ H7 D0 = some (SetO w D0 Sx n) ∧ n + 1 < scanBound ∧
                                ∃ B6 acc6 rest6, Same B4 B6 ∧ Rel K S B6 e σ (upd H7 D0 (SetO w D0 (fun j => Sx j || decide (j = z)) (if Sx z = true then n else n + 1))) ∧ Ext e e σ B1 H1 B6 (upd H7 D0 (SetO w D0 (fun j => Sx j || decide (j = z)) (if Sx z = true then n else n + 1))) ∧
                                  Rel K S B6 e2 σ2 (upd H7 D0 (SetO w D0 (fun j => Sx j || decide (j = z)) (if Sx z = true then n else n + 1))) ∧ Loose K S D0 B6 (upd H7 D0 (SetO w D0 (fun j => Sx j || decide (j = z)) (if Sx z = true then n else n + 1))) e σ (setH w D0 (acc6.foldl insI [])) ∧
                                  turnsD g1 tYes' el (hideE vs1 e2) (ds1.drop (j + 1)) = some rest6 ∧ ∃ cs, intsD rest6 = some cs ∧ acc6 ++ (cs ++ bs2) = zs)
                              hL1 (R6.hide vs1) hide_own dq6 qt6 (fun zd B7 H7 y hz g7 hyz => ?_) (fun B7 H7 hz g7 => ?_)
                            · obtain ⟨Bx, ex, dx, ey, a1, a2, a3, a4⟩ := main1
                              refine ⟨Bx, ex, dx, ey, a1, a2, a3, fun σ3 b1 b2 b3 => ?_⟩
                              obtain ⟨c1, c2⟩ := a4 σ3 b1 b2 b3
                              refine ⟨c1, ?_⟩
                              obtain ⟨By, ez, d1, d2⟩ := c2
                              exact d2.ok d1
                            · subst hz
                              dsimp only at hr5
                              cases q6 : turnsD g1 tYes' el (hideE vs1 e2) (ds1.drop (j + 1)) with
                              | none => rw [q6] at hr5; cases hr5
                              | some rest6 =>
                                rw [q6] at hr5
                                have hr5 : some (zd :: rest6) = some rest5 := hr5
                                cases hr5
                                cases hyz <;> first | cases hcs | skip
                                rename_i z
                                have hcs : (intsD rest6).map (z :: ·) = some cs := hcs
                                cases q7 : intsD rest6 with
                                | none => rw [q7] at hcs; cases hcs
                                | some cs6 =>
                                  rw [q7] at hcs
                                  cases hcs
                                  have g8 := gr6.trans g7
                                  have Lo7 := Lo5.grow g8
                                  have Ro7 := (g8.relK Ro5).1
                                  have Xo7 := Xo5.trans (g8.relK Ro5).2
                                  have Ri7 := (g8.relK R5).1
                                  have ni : ¬ OwnA e2 σ2 D0 := fun h => by
                                    obtain ⟨_, _, o', w', h1, h2⟩ := Ri7.ownB h
                                    rw [Lo7.at'] at h1
                                    cases h1
                                    exact h2.elim
                                  refine ⟨z, fun j => decide (j ∈ acc5.foldl insI []), (acc5.foldl insI []).length, rfl, Lo7.at', ?_, B7, acc5 ++ [z], rest6, sm5.trans g8.same, ?_⟩
                                  · have h9 := setI_len [] acc5
                                    have h10 : zs.length = acc5.length + ((z :: cs6).length + bs2.length) := by rw [← hsum5, List.length_append, List.length_append]
                                    rw [List.length_nil] at h9
                                    omega
                                  · rw [setH_ins]
                                    have e9 : insI (acc5.foldl insI []) z = (acc5 ++ [z]).foldl insI [] := by rw [List.foldl_append]; rfl
                                    rw [e9]
                                    refine ⟨Ro7.turn hs0 Lo7.b Lo7.at' Lo7.nt nown, ⟨Xo7.sub, Xo7.same, Xo7.new, fun a o ha hn => ?_, fun a ha => ?_⟩, Ri7.turn hs0 Lo7.b Lo7.at' Lo7.nt ni, ⟨upd_same, Lo7.b, fun ps h => (by cases h), nown⟩, rfl, cs6, q7, by rw [← hsum5]; simp⟩
                                    · have : a ≠ D0 := ne_of_none ha hD
                                      rw [upd_ne this]
                                      exact Xo7.kept a o ha hn
                                    · have : a ≠ D0 := fun z => by rw [z, upd_same] at ha; cases ha
                                      rw [upd_ne this] at ha
                                      exact Xo7.live a ha
                            · unfold turnD at qt6
                              subst hz
                              exfalso
                              cases q8 : g1 ds1[j] (hideE vs1 e2) with
                              | none => rw [q8] at qt6; cases qt6
                              | some e8 =>
                                rw [q8] at qt6
                                have qt6 : (match el e8 with | .ok x _ => some (some x) | _ => none) = some none := qt6
                                cases q9 : el e8 with
                                | ok x y => rw [q9] at qt6; cases qt6
                                | ex x => rw [q9] at qt6; cases qt6
                                | bad => rw [q9] at qt6; cases qt6
                      · left
                        have h0 : ds1.drop j = [] := List.drop_eq_nil_of_le (by omega)
                        rw [h0, turnsD] at hr5
                        cases hr5
                        cases hcs
                        exact ⟨wk1.stop B5 H5 j Ro5.sit sm5 (by omega), B5, acc5, rest2, Ro5, Xo5, Lo5, rfl, bs2, h2, hsum5⟩
          · left
            have h0 : ds.drop i = [] := List.drop_eq_nil_of_le (by omega)
            rw [h0, turns2] at hrest
            cases hrest
            cases hbs
            rw [List.append_nil] at hsum
            subst hsum
            exact ⟨wk.stop B' H' i R'.sit X'.same (by omega), P1 B' H' R' X' D0 Lo.at'⟩
      · exact P1.elim
theorem putI_mem {z x : Int} : ∀ {l : List Int}, x ∈ putI z l ↔ x = z ∨ x ∈ l
  | [] => by simp [putI]
  | a :: r => by
    unfold putI
    split
    · simp
    · split
      · rename_i e
        subst e
        simp
      · rw [List.mem_cons, putI_mem, List.mem_cons]
        constructor
        · rintro (h | h | h)
          · exact .inr (.inl h)
          · exact .inl h
          · exact .inr (.inr h)
        · rintro (h | h | h)
          · exact .inr (.inl h)
          · exact .inl h
          · exact .inr (.inr h)
theorem putI_up {z : Int} : ∀ {l : List Int}, l.Pairwise (· < ·) → (putI z l).Pairwise (· < ·)
  | [], _ => by simp [putI]
  | a :: r, h => by
    rw [List.pairwise_cons] at h
    unfold putI
    split
    · rename_i lt
      refine List.Pairwise.cons (fun x hx => ?_) (List.Pairwise.cons h.1 h.2)
      obtain rfl | hx := List.mem_cons.mp hx
      · exact lt
      · exact Int.lt_trans lt (h.1 x hx)
    · split
      · exact .cons h.1 h.2
      · refine List.Pairwise.cons (fun x hx => ?_) (putI_up h.2)
        rw [putI_mem] at hx
        obtain rfl | hx := hx
        · omega
        · exact h.1 x hx
theorem upI_mem {x : Int} : ∀ {l : List Int}, x ∈ upI l ↔ x ∈ l
  | [] => by simp [upI]
  | a :: r => by
    show x ∈ putI a (upI r) ↔ _
    rw [putI_mem, upI_mem, List.mem_cons]
theorem upI_up : ∀ {l : List Int}, (upI l).Pairwise (· < ·)
  | [] => List.Pairwise.nil
  | a :: r => putI_up upI_up
theorem up_one : ∀ {a b : List Int}, a.Pairwise (· < ·) → b.Pairwise (· < ·) → (∀ x, x ∈ a ↔ x ∈ b) → a = b
  | [], [], _, _, _ => rfl
  | [], y :: b, _, _, h => absurd ((h y).mpr List.mem_cons_self) (by simp)
  | x :: a, [], _, _, h => absurd ((h x).mp List.mem_cons_self) (by simp)
  | x :: a, y :: b, ha, hb, h => by
    rw [List.pairwise_cons] at ha hb
    have e : x = y := by
      have h1 := List.mem_cons.mp ((h x).mp List.mem_cons_self)
      have h2 := List.mem_cons.mp ((h y).mpr List.mem_cons_self)
      obtain h1 | h1 := h1
      · exact h1
      · obtain h2 | h2 := h2
        · exact h2.symm
        · have := hb.1 x h1
          have := ha.1 y h2
          omega
    subst e
    rw [up_one ha.2 hb.2 fun z => ?_]
    constructor
    · intro hz
      have h1 := List.mem_cons.mp ((h z).mp (List.mem_cons_of_mem _ hz))
      obtain rfl | h1 := h1
      · exact absurd (ha.1 _ hz) (Int.lt_irrefl _)
      · exact h1
    · intro hz
      have h1 := List.mem_cons.mp ((h z).mpr (List.mem_cons_of_mem _ hz))
      obtain rfl | h1 := h1
      · exact absurd (hb.1 _ hz) (Int.lt_irrefl _)
      · exact h1
theorem dq_ints {K : PySem.W.Frag} {B : Hp} : ∀ ns : List Int, DqAll K B (ns.map V.int) (ns.map D.int)
  | [] => .nil
  | _ :: r => .cons (.int _) (dq_ints r)
/-- sorted({e for x in xs for y in ys}), ints -/
theorem pn_sortSc2 {lp pos spos : Pos} {elt tg iter tg1 iter1 : Expr} {scope : Scope} {own : List (Str × Nat)} {vs1 L L1 : List Nat} {f : List Sl → Rs (List D)} {g : D → List Sl → Option (List Sl)} {f1 : List Sl → Rs (List D)} {g1 : D → List Sl → Option (List Sl)} {el : List Sl → Rs D}
    (hl : Gl X "sorted") (hm : X.mg "sorted" = none) (hc : X.calm = true) (hN : X.N.Nodup) (hi : PIt X S M tg iter f) (ok : BlkOk X.N X.env.scope scope own) (hv : ∀ i ∈ vs1, i ∈ own.map (·.2))
    (hg : ∀ (s : Shared) (H : Hp) (C : Addr) (cl : List (Str × Addr)) (fp : List Addr), PTg (X.blk s H scope (compEnvC scope cl C X.env) fp) S tg g L)
    (hi1 : ∀ (s : Shared) (H : Hp) (C : Addr) (cl : List (Str × Addr)) (fp : List Addr), PIt (X.blk s H scope (compEnvC scope cl C X.env) fp) S M.calm tg1 iter1 f1)
    (hg1 : ∀ (s : Shared) (H : Hp) (C : Addr) (cl : List (Str × Addr)) (fp : List Addr), PTg (X.blk s H scope (compEnvC scope cl C X.env) fp) S tg1 g1 L1)
    (he : ∀ (s : Shared) (H : Hp) (C : Addr) (cl : List (Str × Addr)) (fp : List Addr), PV (X.blk s H scope (compEnvC scope cl C X.env) fp) S M.calm elt el)
    (hL : ∀ i ∈ L, i ∈ own.map (·.2)) (hL1 : ∀ i ∈ L1, i ∈ vs1)
    (hs : ∀ x, foldedSetIterable iter X.env x = pure x := by intro _; rfl) (hs1 : ∀ env x, foldedSetIterable iter1 env x = pure x := by intro _ _; rfl)
    (h3 : starEach [twoS elt tg iter tg1 iter1 scope spos] X.env = (false, eval (twoS elt tg iter tg1 iter1 scope spos) X.env) :: starEach [] X.env := by rfl) (h4 : ((backTo pos (starEach [] X.env)).any fun x => x.1) = false := by rfl) :
    PN X S M (.Call (.Name "sorted" lp) [twoS elt tg iter tg1 iter1 scope spos] [] pos) (fSrtS (fSc2 f g f1 g1 el (own.map (·.2)) vs1)) :=
  ⟨peI (pe_callB (cr_sortedSet hc) hl hm PyProof.Rows.boot_sorted (pa_cons (pe_sc2 hc hN hi.pi ok hv (fun s H C cl fp => (hg s H C cl fp).pg) (fun s H C cl fp => (he s H C cl fp).pe) (fun s H C cl fp => (hi1 s H C cl fp).pi) (fun s H C cl fp => (hg1 s H C cl fp).pg) hs hs1) pa_nil h3) (by decide) rfl h3 h4) (by
    rintro σ H Q ⟨B, env, R, P⟩
    show tSc2 X.w (semI X.K S M f) (semG X.K S g L) (semI X.K S M.calm f1) (semG X.K S g1 L1) (semE X.K S M.calm el) (own.map (·.2)) vs1 σ H (fun v H' => rSortedSet X.w [v] H' Q)
    refine sem_sc2 hL hL1 σ H _ ⟨B, env, R, (Post.bind P).mono fun zs e B1 H1 R1 X1 P1 a ha => ?_⟩
    split at P1
    · rename_i few
      refine ⟨a, _, _, rfl, ha, few, fun ns p hs hm hl' hp => ?_⟩
      obtain ⟨R2, X2, F⟩ := Fresh.new (o := .lst (ns.map V.int)) R1 hp
      have e1 : upI zs = ns := up_one upI_up hs fun x => by rw [upI_mem, hm x, decide_eq_true_eq]
      subst e1
      exact P1 _ _ R2 X2 p _ (X1.live p hp) F (dq_ints _)
    · exact P1.elim)⟩
/-! ### own dicts -/
def valD (ks : List (Key × D)) (k : Key) : Option D := (ks.find? fun kd => decide (kd.1 = k)).map (·.2)
theorem val_none {K : PySem.W.Frag} {B : Hp} {k : Key} : ∀ {kvs : List (Key × V)} {ks : List (Key × D)}, kvs.map Prod.fst = ks.map Prod.fst → DqAll K B (kvs.map Prod.snd) (ks.map Prod.snd) →
    (valV kvs k = none ∧ valD ks k = none) ∨ ∃ v d, valV kvs k = some v ∧ valD ks k = some d ∧ Dq K B v d
  | [], [], _, _ => .inl ⟨rfl, rfl⟩
  | [], _ :: _, h, _ => (by cases h)
  | _ :: _, [], h, _ => (by cases h)
  | (a, v) :: kvs, (b, d) :: ks, h, hd => by
    simp only [List.map_cons] at h
    injection h with h1 h2
    have h1 : a = b := h1
    subst h1
    obtain ⟨⟩ := hd
    rename_i e1 e2
    by_cases c : a = k
    · right
      refine ⟨v, d, ?_, ?_, e1⟩
      · unfold valV; rw [List.find?_cons_of_pos (by simpa using c)]; rfl
      · unfold valD; rw [List.find?_cons_of_pos (by simpa using c)]; rfl
    · have s1 : valV ((a, v) :: kvs) k = valV kvs k := by unfold valV; rw [List.find?_cons_of_neg (by simpa using c)]
      have s2 : valD ((a, d) :: ks) k = valD ks k := by unfold valD; rw [List.find?_cons_of_neg (by simpa using c)]
      rw [s1, s2]
      exact val_none h2 e2
theorem val_any {k : Key} : ∀ {kvs : List (Key × V)}, valV kvs k = none → (kvs.any fun kv => decide (kv.1 = k)) = false
  | [], _ => rfl
  | (a, v) :: kvs, h => by
    by_cases c : a = k
    · unfold valV at h
      rw [List.find?_cons_of_pos (by simpa using c)] at h
      cases h
    · have s1 : valV ((a, v) :: kvs) k = valV kvs k := by unfold valV; rw [List.find?_cons_of_neg (by simpa using c)]
      rw [s1] at h
      rw [List.any_cons, val_any h]
      simpa using c
def D.key : D → Option Key
  | .int i => some (.inl i)
  | .str x => some (.inr x)
  | _ => none
theorem dq_key {K : PySem.W.Frag} {B : Hp} {v : V} {d : D} {k : Key} (h : Dq K B v d) (e : d.key = some k) : v = kV k := by
  cases h <;> cases e <;> rfl
theorem pn_dict {pos : Pos} : PN X S M (.Dict [] [] pos) (fun env => .ok (.d []) env) := ⟨peI pe_dnewK (by
  rintro σ H Q ⟨B, env, R, P⟩ p hp
  obtain ⟨R2, X2, F⟩ := Fresh.new (o := .dK []) R hp
  exact P _ _ R2 X2 p _ hp F ⟨rfl, .nil⟩)⟩
def dNew (env : List Sl) : Rs Ow := .ok (.d []) env
theorem q_dict {pos : Pos} : PN X S M (.Dict [] [] pos) dNew := pn_dict
def fSetd (i : Nat) (f g : List Sl → Rs D) (env : List Sl) : Rs D :=
  match env[i]? with
  | some (.ow (.d _)) => (f env).bind fun kd e => (g e).bind fun d e2 => match e2[i]?, kd.key with
    | some (.ow (.d ks)), some k => if ks.length < sizeLine then match valD ks k with
        | some d' => .ok d' e2
        | none => .ok d (e2.set i (.ow (.d (ks ++ [(k, d)]))))
      else .bad
    | _, _ => .bad
  | _ => .bad
theorem od_v {B H : Hp} {env : List Sl} {σ : L2.St} {i : Nat} {ks : List (Key × D)} (R : Rel X.K S B env σ H) (h : env[i]? = some (.ow (.d ks))) :
    ∃ p kvs, σ[i]? = some (some (.ref p)) ∧ H p = some (.dK kvs) ∧ kvs.map Prod.fst = ks.map Prod.fst ∧ DqAll X.K B (kvs.map Prod.snd) (ks.map Prod.snd) := by
  obtain ⟨p, o, e1, _, _, e4, e5⟩ := R.sl i _ h
  obtain ⟨kvs, rfl, e6, e7⟩ := e5.d
  exact ⟨p, kvs, e1, e4, e6, e7⟩
theorem pv_setd {x : Str} {i : Nat} {e1 e2 : Expr} {pos apos p1 : Pos} {f g : List Sl → Rs D} (hN : X.N[i]? = some x) (hv : Vis X.env.scope x) (h1 : PV X S M e1 f) (h2 : PV X S M e2 g)
    (m : M2 X (.Name x p1) "setdefault" apos e1 e2 pos := by exact ⟨rfl, rfl, rfl, rfl⟩)
    (hd1 : (x == Str.ofString "__debug__") = false := by rfl) (hd2 : (x == Str.ofString "__classdict__") = false := by rfl) :
    PV X S M (.Call (.Attribute (.Name x p1) "setdefault" apos) [e1, e2] [] pos) (fSetd i f g) := ⟨peI (pe_dsetd (pe_var hN hv hd1 hd2) h1.pe h2.pe m) (by
  rintro σ H Q ⟨B, env, R, P⟩
  unfold fSetd at P
  split at P
  · rename_i ks0 hx
    obtain ⟨p, kvs0, a1, a2, a3, a4⟩ := od_v R hx
    refine ⟨.ref p, a1, p, rfl, .inl ⟨kvs0, .inl a2⟩, B, env, R, (Post.bind P).mono fun kd e B1 H1 R1 X1 P1 y hy => ⟨B1, e, R1, (Post.bind P1).mono fun d e3 B2 H2 R2 X2 P2 z hz => ?_⟩⟩
    split at P2
    · rename_i ks k hx2 hk
      obtain ⟨p', kvs, b1, b2, b3, b4⟩ := od_v R2 hx2
      rw [a1] at b1
      cases b1
      have hlen : kvs.length = ks.length := by
        have := congrArg List.length b3
        simpa using this
      split at P2
      · rename_i hl
        refine ⟨kvs, k, b2, dq_key hy hk, by rw [hlen]; exact hl, fun v hv => ?_, fun hv => ?_⟩
        · rcases val_none (k := k) b3 b4 with ⟨c1, c2⟩ | ⟨v', d', c1, c2, c3⟩
          · rw [hv] at c1; cases c1
          · rw [hv] at c1
            cases c1
            rw [c2] at P2
            exact P2.ok R2 v c3
        · rcases val_none (k := k) b3 b4 with ⟨c1, c2⟩ | ⟨v', d', c1, c2, c3⟩
          · rw [c2] at P2
            have e5 : putK kvs k z = kvs ++ [(k, z)] := by
              unfold putK
              rw [if_neg (by rw [val_any hv]; exact Bool.false_ne_true)]
            rw [e5]
            obtain ⟨R4, X4⟩ := R2.mut (ys := .d (ks ++ [(k, d)])) (us := .dK (kvs ++ [(k, z)])) hx2 a1 ⟨by rw [List.map_append, List.map_append, b3]; rfl, by rw [List.map_append, List.map_append]; exact b4.append (.cons hz .nil)⟩
            exact P2 _ _ R4 X4 z (hz.mono X4.same)
          · rw [hv] at c1; cases c1
      · exact P2.elim
    · exact P2.elim
  · exact P.elim)⟩
end
end Pf
namespace Pf
open PySem PySem.Spec PyProof.Rows L2 GxR GenW Gx Wk
/-! ### from the head's facts to the promises -/
def fdG (K : PySem.W.Frag) (x : Str) (z : FuncData) : FuncData := match K.lookup (He.ga K x) with
  | some ⟨_, _, .func fd, _⟩ => fd
  | _ => z
abbrev dOf (x : Str) (st : Stmt) : He.DefD := ⟨(x, none), x, x, defArgs st, defBody st, defScope st, [], []⟩
theorem funC_of {K : PySem.W.Frag} {x : Str} {st : Stmt} {z : FuncData} (h : ∃ fd, FunD K x x (defArgs st) (defBody st) (defScope st) [] [] (He.ga K x) fd) :
    FunC K x x st (He.ga K x) (fdG K x z) (He.codeOf K (x, none)) := by
  obtain ⟨fd, F⟩ := h
  obtain ⟨oc, od, dV, kV, doc, pm, an, cdv, ct, osl, h1, h2, h3, h4, h5⟩ := F.ex
  have hd : dV = .none := by
    rcases h4 with ⟨_, q⟩ | ⟨q, _⟩
    · exact q
    · exact absurd rfl q
  obtain ⟨c, rfl⟩ := He.codeIn_ref h3
  have e1 : fdG K x z = fd := by unfold fdG; rw [h2]
  have e2 : He.codeOf K (x, none) = c := He.codeOf_eq (p := (x, none)) h2 (by rw [h1] <;> rfl)
  rw [e1, e2]
  subst hd
  exact ⟨⟨oc, od, kV, doc, pm, an, ct, osl, h1, h2, h3⟩, F.kp⟩
theorem tabB_of {base : Heap} {mg : Str → Option Value} {c P : Addr} (h : LamX.TabB base mg c P) : GxR.TabB base mg c P := ⟨h.code, h.bm, h.gP⟩
/-- the law's own beginning: its script is at a -/
theorem sp_law {K : PySem.W.Frag} {T : List Addr} {xc : Str → Option Value} {F : List D → Rf} {H : Hp} {a : Addr} {ns : List Int} (hT : ∀ P ∈ T, H P = some (.tbl #[])) (hS : SqL K H a (ns.map V.int)) (hF : F [.scr ns] = .ok (.bl true)) :
    spP K T xc 1 F [.ref a] H (fun v _ => v = .bl true) fun _ _ _ => False := by
  have fin : ∀ B : Hp, Same B H → NoT B → SqL K B a (ns.map V.int) → spP K T xc 1 F [.ref a] H (fun v _ => v = .bl true) fun _ _ _ => False := fun B bh nt sq => by
    refine ⟨rfl, B, [.scr ns], ⟨fun P hP => ⟨#[], hT P hP, by trivial⟩, bh, nt⟩, .cons (.scr sq) .nil, ?_⟩
    rw [hF]
    intro v B' H' g hv
    cases hv
    rfl
  have one : ∀ o : HO, H a = some o → (∀ ps, o ≠ .tbl ps) → Rd (fun b => if b = a then some o else none) a (.lst (ns.map V.int)) → spP K T xc 1 F [.ref a] H (fun v _ => v = .bl true) fun _ _ _ => False := fun o ho no rd => by
    refine fin (fun b => if b = a then some o else none) (fun b u h => ?_) (fun b ps h => ?_) (.inl rd)
    · dsimp only at h
      split at h
      · rename_i e; subst e; cases h; exact ho
      · cases h
    · dsimp only at h
      split at h
      · cases h; exact no ps rfl
      · cases h
  rcases hS with (h | ⟨o, h⟩) | h
  · exact one _ h (fun ps z => by cases z) (.inl (if_pos rfl))
  · exact one _ h (fun ps z => by cases z) (.inr ⟨o, if_pos rfl⟩)
  · exact fin (fun _ => none) (fun b u h => by cases h) (fun b ps h => by cases h) (.inr h)
theorem FunC.bindsA {K : PySem.W.Frag} {x qual : Str} {st : Stmt} {f : Addr} {fd : FuncData} {c : Addr} {ps : List Str} (F : FunC K x qual st f fd c)
    (hb : ∀ (kV doc pm : Value) (an : Option Addr) (cdv ct : Value) (us : List Value), us.length = ps.length → bindArgs (PySem.W.fnOf x qual (defArgs st) (defBody st) (defScope st) .none kV doc pm an cdv ct) { pos := us } = pure (ps.zip us))
    (s : Shared) (us : List Value) (hl : us.length = ps.length) : BindsTo s fd { pos := us } (ps.zip us) := by
  obtain ⟨oc, od, kV, doc, pm, an, ct, osl, h1, _⟩ := F.ex
  subst h1
  exact .of_eq (hb _ _ _ _ _ _ us hl)
theorem cx_end {P : Program} (w : World) (H : Hp) (s : Shared) (e : Value) (s' : Shared) (h : CX P w [] H s (fun _ _ _ => False) e s') : False := by
  obtain ⟨_, _, _, _, _, _, _, _, _, _, _, _, h⟩ := h
  exact h
/-- without the empty tables -/
def flt (K : PySem.W.Frag) : PySem.W.Frag := K.filter fun q => !He.emptyTab q.2
theorem flt_mem {K : PySem.W.Frag} {a : Addr} {o : Obj} (h : (flt K).lookup a = some o) : (a, o) ∈ K ∧ He.emptyTab o = false := by
  obtain ⟨h1, h2⟩ := List.mem_filter.mp (He.lookup_mem h)
  refine ⟨h1, ?_⟩
  cases q : He.emptyTab o with
  | false => rfl
  | true =>
    have h3 : (!He.emptyTab o) = true := h2
    rw [q] at h3
    cases h3
/-- no place twice -/
def onceB : List Addr → Bool
  | [] => true
  | a :: r => !r.contains a && onceB r
theorem lookup_once : ∀ {l : PySem.W.Frag} {a : Addr} {o : Obj}, onceB (l.map (·.1)) = true → (a, o) ∈ l → l.lookup a = some o
  | [], _, _, _, h => (by cases h)
  | (b, u) :: r, a, o, n, h => by
    rw [List.map_cons, onceB, Bool.and_eq_true] at n
    rcases List.mem_cons.mp h with e | h2
    · cases e
      simp [List.lookup]
    · have ne : a ≠ b := fun e => by
        subst e
        have m : a ∈ r.map (·.1) := List.mem_map.mpr ⟨(a, o), h2, rfl⟩
        have n1 := n.1
        rw [Bool.not_eq_true', ← Bool.not_eq_true, List.contains_iff_mem] at n1
        exact n1 m
      have hb : (a == b) = false := by simpa using ne
      have ih := lookup_once n.2 h2
      simp [List.lookup, hb]
      exact ih
theorem flt_in {K : PySem.W.Frag} {h : Heap} (X : K.In h) (n : onceB (K.map (·.1)) = true) : (flt K).In h := fun _ _ e => X _ _ (lookup_once n (flt_mem e).1)
theorem saysX_lit {K : PySem.W.Frag} {h : Heap} {w : World} {fa : List He.Fa} {fn : List He.DefD} {ts : List He.Tab} {tf : List He.Defn} {ex : PySem.W.Frag → Bool} (X : K.In h)
    (e1 : He.obsT fa fn ts (flt K) = He.valT fn ts w) (e2 : ex (flt K) = true)
    (e3 : (tf.all fun p => PySem.W.codeHdIn (flt K) (He.cT (flt K) p).1 (He.cT (flt K) p).2 && (((flt K).lookup (He.cT (flt K) p).2).isNone && (match K.lookup (He.cT (flt K) p).2 with
      | some o => He.emptyTab o
      | none => false))) = true) : He.SaysX fa fn ts tf ex w h (flt K) := by
  have key : ∀ p ∈ tf, PySem.W.codeHdIn (flt K) (He.cT (flt K) p).1 (He.cT (flt K) p).2 = true ∧ (flt K).lookup (He.cT (flt K) p).2 = none ∧ ∃ o, K.lookup (He.cT (flt K) p).2 = some o ∧ He.emptyTab o = true := fun p hp => by
    have q := List.all_eq_true.mp e3 p hp
    simp only [Bool.and_eq_true] at q
    refine ⟨q.1, Option.isNone_iff_eq_none.mp q.2.1, ?_⟩
    have q2 := q.2.2
    cases z : K.lookup (He.cT (flt K) p).2 with
    | none => rw [z] at q2; cases q2
    | some o => rw [z] at q2; exact ⟨o, rfl, q2⟩
  exact ⟨e1, e2, fun p hp => (key p hp).1, fun p hp => (key p hp).2.1, fun p hp => by
    obtain ⟨_, _, o, q, z⟩ := key p hp
    rw [X _ _ q, He.emptyTab_eq z]⟩
end Pf
namespace Pf
open PySem PySem.Spec PyProof.Rows L2 GxR GenW Gx Wk
section
variable {X : Cx} {S : Se} {M : Xw}
/-! ### list comprehensions of two clauses -/
structure Acc (K : PySem.W.Frag) (S : Se) (D0 : Addr) (B H : Hp) (e : List Sl) (σ : L2.St) (xs : List D) : Prop where
  ex : ∃ av, Loose K S D0 B H e σ (.lst av) ∧ DqAll K B av xs
theorem Acc.grow {K : PySem.W.Frag} {D0 : Addr} {B H B' H' : Hp} {e : List Sl} {σ : L2.St} {xs : List D} (a : Acc K S D0 B H e σ xs) (g : Grow K S B H B' H') : Acc K S D0 B' H' e σ xs := by
  obtain ⟨av, l, d⟩ := a.ex
  exact ⟨av, l.grow g, d.mono g.same⟩
theorem sem_lc2 {K : PySem.W.Frag} {f : List Sl → Rs (List D)} {g : D → List Sl → Option (List Sl)} {t : List Sl → Rs Bool} {f1 : List Sl → Rs (List D)} {g1 : D → List Sl → Option (List Sl)} {t1 : List Sl → Rs Bool} {el : List Sl → Rs D} {own vs1 L L1 : List Nat}
    (hL : ∀ i ∈ L, i ∈ own) (hL1 : ∀ i ∈ L1, i ∈ vs1) :
    ∀ σ H Q, semN K S M (fLc2 f g t f1 g1 t1 el own vs1) σ H Q → tLc2 (semI K S M f) (semG K S g L) (semT K S M.calm t) (semI K S M.calm f1) (semG K S g1 L1) (semT K S M.calm t1) (semE K S M.calm el) own vs1 σ H Q := by
  rintro σ H Q ⟨B, env, R, P⟩
  refine ⟨B, env, R, (Post.bind P).mono fun ds e B1 H1 R1 X1 P1 J wk D0 hD => ?_⟩
  cases q : turns2 g t f1 g1 t1 el vs1 (hideE own e) ds with
  | none => rw [q] at P1; exact P1.elim
  | some total =>
    rw [q] at P1
    dsimp only at P1
    split at P1
    · rename_i hlen
      have hs0 : S.H0 D0 = none := R1.old.none hD
      have hD0 : H D0 = none := X1.live D0 hD
      have nown : ¬ OwnA e σ D0 := fun ow => by
        obtain ⟨_, _, o', w', h1, _⟩ := R1.ownB ow
        rw [hD] at h1
        cases h1
      let St2 : Nat → Hp → Prop := fun i H' => ∃ B' acc rest, i ≤ ds.length ∧ Rel K S B' e σ H' ∧ Ext e e σ B1 H1 B' H' ∧ Acc K S D0 B' H' e σ acc ∧ turns2 g t f1 g1 t1 el vs1 (hideE own e) (ds.drop i) = some rest ∧ acc ++ rest = total
      refine ⟨fun i m H' => m = ds.length - i ∧ St2 i H', ?_, ?_⟩
      · have F := R1.lay (o := .lst []) hD
        exact ⟨_, rfl, B1, [], total, Nat.zero_le _, F.1, F.2, ⟨[], ⟨upd_same, R1.bh.free hD, fun ps h => (by cases h), nown⟩, .nil⟩, q, rfl⟩
      · rintro i m H' ⟨rfl, B', acc, rest, hle, R', X', Lo, hrest, hsum⟩
        by_cases hl : i < ds.length
        · right
          refine ⟨wk.go B' H' i R'.sit X'.same hl, St2 (i + 1), ?_, ?_⟩
          · exact fun H2 h2 => ⟨ds.length - (i + 1), by omega, rfl, h2⟩
          · intro x H2 hy
            obtain ⟨B2, gr, dq⟩ := wk.yld B' H' i x H2 ds[i] R'.sit X'.same (List.getElem?_eq_getElem hl) hy
            have R2 := (gr.relK R').1
            rw [drop_cons hl, turns2] at hrest
            cases qt : turn2 g t f1 g1 t1 el vs1 (hideE own e) ds[i] with
            | none => rw [qt] at hrest; cases hrest
            | some r =>
              rw [qt] at hrest
              dsimp only at hrest
              cases q2 : turns2 g t f1 g1 t1 el vs1 (hideE own e) (ds.drop (i + 1)) with
              | none => rw [q2] at hrest; cases hrest
              | some rest2 =>
                rw [q2] at hrest
                have hrest : some (r ++ rest2) = some rest := hrest
                cases hrest
                refine turn2_sem (M := M) hL (R2.hide own) hide_own dq qt (fun σ2 J1 B4 H4 e2 ds1 hds g4 R4 no4 wk1 => ?_) (fun B4 H4 hz g4 => ?_)
                · have g5 := gr.trans g4
                  have Ro := (g5.relK R').1
                  have Xo := X'.trans (g5.relK R').2
                  let In : Nat → Hp → Prop := fun j H5 => ∃ B5 acc5 rest5, j ≤ ds1.length ∧ Same B4 B5 ∧ Rel K S B5 e σ H5 ∧ Ext e e σ B1 H1 B5 H5 ∧ Rel K S B5 e2 σ2 H5 ∧ Acc K S D0 B5 H5 e σ acc5 ∧
                    turnsD g1 t1 el (hideE vs1 e2) (ds1.drop j) = some rest5 ∧ acc5 ++ (rest5 ++ rest2) = total
                  refine ⟨fun j k H5 => k = ds1.length - j ∧ In j H5, ?_, ?_⟩
                  · exact ⟨_, rfl, B4, acc, r, Nat.zero_le _, Same.refl _, Ro, Xo, R4, Lo.grow g5, hds, hsum⟩
                  · rintro j k H5 ⟨rfl, B5, acc5, rest5, hj, sm5, Ro5, Xo5, R5, Lo5, hr5, hsum5⟩
                    by_cases hj2 : j < ds1.length
                    · right
                      refine ⟨wk1.go B5 H5 j Ro5.sit sm5 hj2, In (j + 1), ?_, ?_⟩
                      · exact fun H6 h6 => ⟨ds1.length - (j + 1), by omega, rfl, h6⟩
                      · intro x1 H6 hy1
                        obtain ⟨B6, gr6, dq6⟩ := wk1.yld B5 H5 j x1 H6 ds1[j] Ro5.sit sm5 (List.getElem?_eq_getElem hj2) hy1
                        have R6 := (gr6.relK R5).1
                        rw [drop_cons hj2, turnsD] at hr5
                        cases qt6 : turnD g1 t1 el (hideE vs1 e2) ds1[j] with
                        | none => rw [qt6] at hr5; cases hr5
                        | some rr =>
                          rw [qt6] at hr5
                          refine turn_sem (M := M) hL1 (R6.hide vs1) hide_own dq6 qt6 (fun zd B7 H7 y hz g7 hyz => ?_) (fun B7 H7 hz g7 => ?_)
                          · subst hz
                            dsimp only at hr5
                            cases q6 : turnsD g1 t1 el (hideE vs1 e2) (ds1.drop (j + 1)) with
                            | none => rw [q6] at hr5; cases hr5
                            | some rest6 =>
                              rw [q6] at hr5
                              have hr5 : some (zd :: rest6) = some rest5 := hr5
                              cases hr5
                              have g8 := gr6.trans g7
                              obtain ⟨av, Lo7, hav⟩ := (Lo5.grow g8).ex
                              have Ro7 := (g8.relK Ro5).1
                              have Xo7 := Xo5.trans (g8.relK Ro5).2
                              have Ri7 := (g8.relK R5).1
                              have ni : ¬ OwnA e2 σ2 D0 := no4 D0
                              have hlt : av.length < sizeLine := by
                                rw [hav.length]
                                have : total.length = acc5.length + ((rest6.length + 1) + rest2.length) := by rw [← hsum5, List.length_append, List.length_append, List.length_cons]
                                omega
                              refine ⟨av, Lo7.at', hlt, B7, acc5 ++ [zd], rest6, hj2, sm5.trans g8.same, Ro7.turn hs0 Lo7.b Lo7.at' Lo7.nt nown, ⟨Xo7.sub, Xo7.same, Xo7.new, fun a o ha hn => ?_, fun a ha => ?_⟩, Ri7.turn hs0 Lo7.b Lo7.at' Lo7.nt ni,
                                ⟨av ++ [y], ⟨upd_same, Lo7.b, fun ps h => (by cases h), nown⟩, hav.append (.cons hyz .nil)⟩, q6, by rw [← hsum5]; simp⟩
                              · have : a ≠ D0 := ne_of_none ha hD
                                rw [upd_ne this]
                                exact Xo7.kept a o ha hn
                              · have : a ≠ D0 := fun z => by rw [z, upd_same] at ha; cases ha
                                rw [upd_ne this] at ha
                                exact Xo7.live a ha
                          · subst hz
                            have g8 := gr6.trans g7
                            exact ⟨B7, acc5, rest5, hj2, sm5.trans g8.same, (g8.relK Ro5).1, Xo5.trans (g8.relK Ro5).2, (g8.relK R5).1, Lo5.grow g8, hr5, hsum5⟩
                    · left
                      have h0 : ds1.drop j = [] := List.drop_eq_nil_of_le (by omega)
                      rw [h0, turnsD] at hr5
                      cases hr5
                      exact ⟨wk1.stop B5 H5 j Ro5.sit sm5 (by omega), B5, acc5, rest2, hl, Ro5, Xo5, Lo5, q2, hsum5⟩
                · subst hz
                  have g5 := gr.trans g4
                  exact ⟨B4, acc, rest2, hl, (g5.relK R').1, X'.trans (g5.relK R').2, Lo.grow g5, q2, hsum⟩
        · left
          have h0 : ds.drop i = [] := List.drop_eq_nil_of_le (by omega)
          rw [h0, turns2] at hrest
          cases hrest
          rw [List.append_nil] at hsum
          subst hsum
          obtain ⟨av, Lo2, hav⟩ := Lo.ex
          exact ⟨wk.stop B' H' i R'.sit X'.same (by omega), P1 B' H' R' X' D0 _ hD0 ⟨hs0, Lo2.b, Lo2.at', nown⟩ hav⟩
    · exact P1.elim
theorem pn_lc2 {elt tg iter tg1 iter1 : Expr} {ifs ifs1 : List Expr} {scope : Scope} {own : List (Str × Nat)} {vs1 L L1 : List Nat} {pos : Pos} {f : List Sl → Rs (List D)} {g : D → List Sl → Option (List Sl)} {t : List Sl → Rs Bool} {f1 : List Sl → Rs (List D)}
    {g1 : D → List Sl → Option (List Sl)} {t1 : List Sl → Rs Bool} {el : List Sl → Rs D}
    (hc : X.calm = true) (hN : X.N.Nodup) (hi : PIt X S M tg iter f) (ok : BlkOk X.N X.env.scope scope own) (hv : ∀ i ∈ vs1, i ∈ own.map (·.2))
    (hg : ∀ (s : Shared) (H : Hp) (C : Addr) (cl : List (Str × Addr)) (fp : List Addr), PTg (X.blk s H scope (compEnvC scope cl C X.env) fp) S tg g L)
    (ht : ∀ (s : Shared) (H : Hp) (C : Addr) (cl : List (Str × Addr)) (fp : List Addr), PIf (X.blk s H scope (compEnvC scope cl C X.env) fp) S M.calm ifs t)
    (hi1 : ∀ (s : Shared) (H : Hp) (C : Addr) (cl : List (Str × Addr)) (fp : List Addr), PIt (X.blk s H scope (compEnvC scope cl C X.env) fp) S M.calm tg1 iter1 f1)
    (hg1 : ∀ (s : Shared) (H : Hp) (C : Addr) (cl : List (Str × Addr)) (fp : List Addr), PTg (X.blk s H scope (compEnvC scope cl C X.env) fp) S tg1 g1 L1)
    (ht1 : ∀ (s : Shared) (H : Hp) (C : Addr) (cl : List (Str × Addr)) (fp : List Addr), PIf (X.blk s H scope (compEnvC scope cl C X.env) fp) S M.calm ifs1 t1)
    (he : ∀ (s : Shared) (H : Hp) (C : Addr) (cl : List (Str × Addr)) (fp : List Addr), PV (X.blk s H scope (compEnvC scope cl C X.env) fp) S M.calm elt el)
    (hL : ∀ i ∈ L, i ∈ own.map (·.2)) (hL1 : ∀ i ∈ L1, i ∈ vs1)
    (hs : ∀ x, foldedSetIterable iter X.env x = pure x := by intro _; rfl) (hs1 : ∀ env x, foldedSetIterable iter1 env x = pure x := by intro _ _; rfl) :
    PN X S M (.ListComp elt [⟨tg, iter, ifs, 0⟩, ⟨tg1, iter1, ifs1, 0⟩] scope pos) (fLc2 f g t f1 g1 t1 el (own.map (·.2)) vs1) :=
  ⟨peI (pe_lc2 hc hN hi.pi ok hv (fun s H C cl fp => (hg s H C cl fp).pg) (fun s H C cl fp => (ht s H C cl fp).pts) (fun s H C cl fp => (hi1 s H C cl fp).pi) (fun s H C cl fp => (hg1 s H C cl fp).pg) (fun s H C cl fp => (ht1 s H C cl fp).pts) (fun s H C cl fp => (he s H C cl fp).pe) hs hs1)
    (sem_lc2 hL hL1)⟩
end
end Pf
namespace Pf
open PySem PySem.Spec PyProof.Rows L2 GxR GenW Gx Wk
theorem DqAll.reverse {K : PySem.W.Frag} {B : Hp} : ∀ {vs : List V} {ds : List D}, DqAll K B vs ds → DqAll K B vs.reverse ds.reverse
  | _, _, .nil => .nil
  | _, _, .cons a r => by
    simp only [List.reverse_cons]
    exact (DqAll.reverse r).append (.cons a .nil)
section
variable {X : Cx} {S : Se} {M : Xw}
def wRev (f : List Sl → Rs D) (env : List Sl) : Rs (List D) := (f env).bind fun d e => Rs.opt (d.items.map List.reverse) e
/-- xs[::-1] -/
def fRev (f : List Sl → Rs D) (env : List Sl) : Rs Ow := (f env).bind fun d e => match d with
  | .lst xs => .ok (.l xs.reverse) e
  | _ => .bad
/-! ### texts -/
end
end Pf
namespace Pf
open PySem PySem.Spec PyProof.Rows L2 GxR GenW Gx Wk
end Pf
namespace Pf
open PySem PySem.Spec PyProof.Rows L2 GxR GenW Gx Wk
section
variable {X : Cx} {S : Se} {M : Xw}
/-! ### `or` and `and` of any data: one of both -/
def fOrT (f g : List Sl → Rs D) (env : List Sl) : Rs D := (f env).bind fun d e => (Rs.opt d.tru e).bind fun b e => if b = true then .ok d e else g e
def fAndT (f g : List Sl → Rs D) (env : List Sl) : Rs D := (f env).bind fun d e => (Rs.opt d.tru e).bind fun b e => if b = true then g e else .ok d e
theorem pv_orT {a b : Expr} {pos : Pos} {rest : List Expr} {f g : List Sl → Rs D} (ha : PV X S M a f) (hb : PV X S M (.BoolOp .Or (b :: rest) pos) g) : PV X S M (.BoolOp .Or (a :: b :: rest) pos) (fOrT f g) := ⟨peI (pe_orT ha.pe hb.pe) (by
  rintro σ H Q ⟨B, env, R, P⟩
  refine ⟨B, env, R, (Post.bind P).mono fun d e B1 H1 R1 X1 P1 x hx => ?_⟩
  cases q : d.tru with
  | none => rw [q] at P1; exact P1.elim
  | some k =>
    rw [q] at P1
    have P2 : Post X.K S M σ B1 H1 e (if k = true then .ok d e else g e) _ := P1
    refine ⟨k, dq_tru R1.bh hx q, ?_⟩
    cases k with
    | true => exact P2.ok R1 x hx
    | false => exact ⟨B1, e, R1, P2⟩)⟩
end
end Pf
namespace Pf
open PySem PySem.Spec PyProof.Rows L2 GxR GenW Gx Wk
end Pf
namespace Gx
open L2 PyProof.Rows PySem.Spec PySem
end Gx
namespace Pf
open PySem PySem.Spec PyProof.Rows L2 GxR GenW Gx
/-! ### sets of ints, made of a sequence -/
section
variable {X : Cx} {S : Se} {M : Xw}
theorem Post.pre {K : PySem.W.Frag} {σ : L2.St} {B H B0 H0 : Hp} {env env0 : List Sl} {α : Type} {r : Rs α} {k : α → List Sl → Hp → Hp → Prop} (x : Ext env env0 σ B H B0 H0) (h : Post K S M σ B H env r k) : Post K S M σ B0 H0 env0 r k := by
  cases r with
  | bad => exact h
  | ex x => exact h
  | ok a e => exact fun B' H' R X => h B' H' R (x.trans X)
theorem dq_of_ints {K : PySem.W.Frag} {B : Hp} : ∀ {vs : List V} {ds : List D} {ns : List Int}, DqAll K B vs ds → intsD ds = some ns → vs = ns.map V.int
  | _, [], _, .nil, h => by cases h; rfl
  | _, .int b :: ds, ns, .cons h1 h2, h => by
    have h : (intsD ds).map (b :: ·) = some ns := h
    cases q : intsD ds with
    | none => rw [q] at h; cases h
    | some bs =>
      rw [q] at h
      cases h
      cases h1
      rw [dq_of_ints h2 q]; rfl
  | _, .non :: _, _, _, h => by cases h
  | _, .bl _ :: _, _, _, h => by cases h
  | _, .str _ :: _, _, _, h => by cases h
  | _, .lst _ :: _, _, _, h => by cases h
  | _, .tup _ :: _, _, _, h => by cases h
  | _, .scr _ :: _, _, _, h => by cases h
  | _, .rng _ _ :: _, _, _, h => by cases h
end
end Pf
namespace Pf
open PySem PySem.Spec PyProof.Rows L2 GxR GenW Gx
section
variable {X : Cx} {S : Se} {M : Xw}
/-- of which nothing is promised -/
def rBad (_ : List Sl) : Ro := .bad
/-- sum of a tuple of integers -/
theorem cr_sumT (hc : X.calm = true) : CallR X (.builtin "sum") fun vs H Q => ∃ (a : Addr) (ns : List Int), vs = [V.ref a] ∧ SqT X.K H a (ns.map V.int) ∧ Q (.int ns.sum) H := by
  intro pins s σ H vs us Qv I r h
  obtain ⟨a, zs, rfl, hs, qq⟩ := h
  obtain ⟨its, rv, hl, _⟩ := I.tuple hs
  rw [Vals.ref1 r]
  obtain ⟨xs, e⟩ := rv.ints.allInts.items
  have hn : numsOf (intItems xs).toList = zs := by rw [← e]; exact rv.ints.numsOf
  rw [nums_intItems] at hn
  rw [e] at hl
  refine PySem.W.ktm_sumG (I.ok.hd hc) hl fun h' tk t' hk => ⟨.int _, H, I.kept hk, ?_, qq⟩
  refine ⟨t', ?_⟩
  rw [preSum_eq]
  have tk2 : List.take xs.size (List.map (fun x => x.fst) xs.toList) = zs := by
    rw [hn]
    exact List.take_of_length_le (by rw [← hn]; simp)
  rw [tk2]
def cSumL : List D → Option D
  | [.lst ds] => (intsD ds).map fun ns => .int ns.sum
  | [.tup ds] => (intsD ds).map fun ns => .int ns.sum
  | _ => none
theorem cd_sumL (hc : X.calm = true) : CalD X S (.builtin "sum") cSumL := ⟨_, CallR.or (cr_sum hc) (cr_sumT hc), fun B H vs ds z Q s hd hc w => by
  unfold cSumL at hc
  split at hc <;> first | cases hc | skip
  · rename_i ds
    obtain ⟨v, rfl, hv⟩ := dqall_one hd
    cases hv with
    | lst h1 h2 =>
      cases q : intsD ds with
      | none => rw [q] at hc; cases hc
      | some ns =>
        rw [q] at hc
        cases hc
        exact .inl ⟨_, ns, rfl, by rw [← dq_of_ints h2 q]; exact SqL.of (s.bh _ _ h1), w.now s (.int _)⟩
  · rename_i ds
    obtain ⟨v, rfl, hv⟩ := dqall_one hd
    cases hv with
    | tup h1 h2 =>
      cases q : intsD ds with
      | none => rw [q] at hc; cases hc
      | some ns =>
        rw [q] at hc
        cases hc
        exact .inr ⟨_, ns, rfl, by rw [← dq_of_ints h2 q]; exact same_seqT s.bh h1.1, w.now s (.int _)⟩⟩
end
end Pf
namespace Pf
open PySem PySem.Spec PyProof.Rows L2 GxR GenW Gx
section
variable {X : Cx} {S : Se} {M : Xw}
/-! ### name = [..] on one line: the name is stored within -/
structure PSw (X : Cx) (S : Se) (M : Xw) (st : Stmt) (i : Nat) (f : List Sl → Rs Ow) : Prop where
  ex : ∃ te, PS X st (tAsg te (gName i)) ∧ ∀ σ H Q, semN X.K S M f σ H Q → te σ H Q
theorem psw_frz {st : Stmt} {i : Nat} {f : List Sl → Rs Ow} (j : Nat) (h : PSw X S M st i f) : PSw X S M st i (fun env => f (frzE j env)) := by
  obtain ⟨te, h1, h2⟩ := h.ex
  refine ⟨te, h1, ?_⟩
  rintro σ H Q ⟨B, env, R, P⟩
  obtain ⟨B', R', E'⟩ := frz_rel R j
  exact h2 σ H Q ⟨B', frzE j env, R', P.shift E'⟩
theorem q_sw {st : Stmt} {i : Nat} {f : List Sl → Rs Ow} (h : PSw X S M st i f) : PX X S M st (rSet i (fFrz f)) := by
  obtain ⟨te, h1, h2⟩ := h.ex
  refine ⟨psI h1 ?_⟩
  rintro D0 σ H ⟨B, env, R, P⟩
  have P2 : Post X.K S M σ B H env (fFrz f env) fun d _ B' H' => ∀ v, Dq X.K B' v d → gName i v σ H' D0.nx :=
    (PostS.of P).mono fun d e B1 H1 R1 X1 P1 v hv => P1 B1 H1 _ (R1.setIm i hv) (Same.refl _)
  exact h2 σ H _ ⟨B, env, R, Post.frz P2⟩
theorem psw_lc {i : Nat} {y : Str} {py : Pos} {elt tg iter : Expr} {ifs : List Expr} {scope : Scope} {own : List (Str × Nat)} {pos spos : Pos} {f : List Sl → Rs (List D)} {g : D → List Sl → Option (List Sl)} {t : List Sl → Rs Bool} {el : List Sl → Rs D} {L : List Nat}
    (hc : X.calm = true) (hN : X.N.Nodup) (hi : PIt X S M tg iter f) (ok : BlkOk X.N X.env.scope scope own)
    (hg : ∀ (s : Shared) (H : Hp) (C : Addr) (cl : List (Str × Addr)) (fp : List Addr), PTg (X.blk s H scope (compEnvC scope cl C X.env) fp) S tg g L)
    (ht : ∀ (s : Shared) (H : Hp) (C : Addr) (cl : List (Str × Addr)) (fp : List Addr), PIf (X.blk s H scope (compEnvC scope cl C X.env) fp) S M.calm ifs t)
    (he : ∀ (s : Shared) (H : Hp) (C : Addr) (cl : List (Str × Addr)) (fp : List Addr), PV (X.blk s H scope (compEnvC scope cl C X.env) fp) S M.calm elt el)
    (hL : ∀ i ∈ L, i ∈ own.map (·.2)) (hy : X.N[i]? = some y) (hyl : X.env.scope.names.lookup y = some .local)
    (hsw : swapsWith (.ListComp elt [⟨tg, iter, ifs, 0⟩] scope pos) (some (.Name y py)) spos.line X.env = pure true) (hq : ∀ x, foldedSetIterable iter X.env x = pure x := by exact fun _ => rfl) :
    PSw X S M (.Assign [.Name y py] (.ListComp elt [⟨tg, iter, ifs, 0⟩] scope pos) spos) i (fLc f g t el (own.map (·.2))) :=
  ⟨_, ps_setLc hc hN hy hyl hsw hi.pi ok (fun s H C cl fp => (hg s H C cl fp).pg) (fun s H C cl fp => (ht s H C cl fp).pts) (fun s H C cl fp => (he s H C cl fp).pe) hq, sem_lc hL⟩
/-! ### min of a list -/
end
end Pf
namespace Pf
open PySem PySem.Spec PyProof.Rows L2 GxR GenW Gx
section
variable {X : Cx} {S : Se} {M : Xw}
/-! ### targets that change a list of one's own -/
def Nxt (K : PySem.W.Frag) (S : Se) (B : Hp) (r : Ro) (Q : L2.St → Hp → Prop) : Prop := ∃ e, r = .nx e ∧ ∀ B' H' σ', Rel K S B' e σ' H' → Same B B' → Q σ' H'
theorem Nxt.mono {B B1 : Hp} {r : Ro} {Q : L2.St → Hp → Prop} (h : Nxt X.K S B r Q) (sm : Same B B1) : Nxt X.K S B1 r Q := by
  obtain ⟨e, rfl, k⟩ := h
  exact ⟨e, rfl, fun B' H' σ' R s => k B' H' σ' R (sm.trans s)⟩
def gOf (g : D → List Sl → Option (List Sl)) (d : D) (env : List Sl) : Ro := match g d env with | some e => .nx e | none => .bad
def gIt (i : Nat) (f : List Sl → Rs D) (d : D) (env : List Sl) : Ro :=
  if pkN i env = true then match f env with
    | .ok k e => match e[i]?, k with
      | some (.ow (.l ys)), .int j => if 0 ≤ j ∧ j < ys.length then .nx (e.set i (.ow (.l (ys.set j.toNat d)))) else .bad
      | _, _ => .bad
    | _ => .bad
  else .bad
def gmN : List D → List Sl → Ro
  | [], env => .nx env
  | _ :: _, _ => .bad
def gmC (g : D → List Sl → Ro) (h : List D → List Sl → Ro) : List D → List Sl → Ro
  | d :: ds, env => match g d env with | .nx e => h ds e | _ => .bad
  | [], _ => .bad
def gmT (n : Nat) (h : List D → List Sl → Ro) : D → List Sl → Ro
  | .tup ds, env => if ds.length = n then h ds env else .bad
  | _, _ => .bad
def rAsgM (g : D → List Sl → Ro) (f : List Sl → Rs D) (env : List Sl) : Ro := (f env).ro fun d e => match g d e with | .nx e' => .nx e' | _ => .bad
/-! ### a, b = x, y: plain names -/
def rPar (i j : Nat) (f : List Sl → Rs (List D)) (env : List Sl) : Ro := (f env).ro fun ds e => match ds with
  | [d, d2] => .nx ((e.set i (.im d)).set j (.im d2))
  | _ => .bad
/-! ### gcd -/
/-! ### range(i, j, -1) -/
def rng3 : List D → Option (List D)
  | [.int i, .int j, .int c] => if c = -1 ∧ -(2 ^ 62) ≤ i ∧ i < 2 ^ 62 ∧ -(2 ^ 62) ≤ j ∧ j < 2 ^ 62 then some ((List.range (i - j).toNat).map fun (k : Nat) => D.int (i + (k : Int) * (-1))) else none
  | _ => none
def wRng3 (g : List Sl → Rs (List D)) (env : List Sl) : Rs (List D) := (g env).bind fun ds e => Rs.opt (rng3 ds) e
/-! ### sorted(xs), ints -/
end
end Pf
namespace Pf
open PySem PySem.Spec PyProof.Rows L2 GxR GenW Gx
section
variable {X : Cx} {S : Se} {M : Xw}
/-! ### lcm -/
/-! ### xs.index(k), ints -/
theorem mt_ixL : MtR X "list.index" fun x xs H Q => ∃ (p : Addr) (ns : List Int) (k : Int), x = .ref p ∧ xs = [.int k] ∧ SqL X.K H p (ns.map V.int) ∧ k ∈ ns ∧ Q (.int (ns.idxOf k : Nat)) H := by
  intro pins s σ H x xs v us Qv I rx rs h
  obtain ⟨p, ns, k, rfl, rfl, hq, hk, q⟩ := h
  cases rx
  obtain ⟨one, rfl, tk, rfl⟩ := vals1 rs
  obtain ⟨cells, r, pl, hz⟩ := I.list hq
  rw [List.length_map] at hz
  exact PySem.SeqAt.list_index_ints pl.isList (by simpa using r.ints) hz hk ⟨.int _, H, I.tok _, ⟨_, rfl⟩, q⟩
end
end Pf
namespace Pf
open L2 PySem PyProof.Rows PySem.Spec
/-! ### a law's own call, where no repr is under way -/
/-- what is tracked there: the tables of the code objects, and the script if it is not the top's own -/
def topH (T : List Addr) (a : Addr) (vs : List Value) (ns : List Int) (own : Bool) : Hp := fun b =>
  if b ∈ T then some (.tbl #[]) else if own = true ∧ b = a then some (.frz { cls := .type "list", data := .seq vs.toArray } (.lst (ns.map V.int))) else none
section
variable {T : List Addr} {a b : Addr} {vs : List Value} {ns : List Int} {own : Bool}
theorem topH_in (h : b ∈ T) : topH T a vs ns own b = some (.tbl #[]) := if_pos h
theorem topH_cases {u : HO} (h : topH T a vs ns own b = some u) : (b ∈ T ∧ u = .tbl #[]) ∨ (b ∉ T ∧ own = true ∧ b = a ∧ u = .frz { cls := .type "list", data := .seq vs.toArray } (.lst (ns.map V.int))) := by
  unfold topH at h
  by_cases hT : b ∈ T
  · rw [if_pos hT] at h
    exact .inl ⟨hT, (Option.some.inj h).symm⟩
  · rw [if_neg hT] at h
    by_cases ho : own = true ∧ b = a
    · rw [if_pos ho] at h
      exact .inr ⟨hT, ho.1, ho.2, (Option.some.inj h).symm⟩
    · rw [if_neg ho] at h
      cases h
/-- an object of another sort is not tracked -/
theorem topH_off {h : Heap} {o : Obj} (isT : ∀ b ∈ T, h.get? b = some { cls := .none, data := .fields #[] }) (ha : h.get? a = some { cls := .type "list", data := .seq vs.toArray }) (hb : h.get? b = some o)
    (h1 : o.data ≠ .fields #[]) (h2 : o.data ≠ .seq vs.toArray) : topH T a vs ns own b = none := by
  cases q : topH T a vs ns own b with
  | none => rfl
  | some u =>
    rcases topH_cases q with ⟨m, -⟩ | ⟨-, -, e, -⟩
    · rw [isT b m] at hb
      exact absurd (congrArg Obj.data (Option.some.inj hb)).symm h1
    · rw [e, ha] at hb
      exact absurd (congrArg Obj.data (Option.some.inj hb)).symm h2
end
/-- the call ends well: True, nothing changed but code tables that grew, nothing left open -/
def EndsWell (s₁ : Shared) (r : Except Value Flow) (s2 : Shared) : Prop := r = .ok (.ret (.bool true)) ∧ OldK s₁.heap s2.heap ∧ s2.os = s₁.os ∧ AllBare s2.gens
/-- a table stands at b -/
def TabAt (h : Heap) (b : Addr) : Prop := ∃ us : Array Value, h.get? b = some ⟨.none, none, .fields us, #[]⟩
theorem top_call {P : Program} {w : World} {K : PySem.W.Frag} {mg mb : Str → Option Value} {CX : CXT} {fa a : Addr} {cs : List (Addr × Addr)} {s₁ : Shared} {vs : List Value} {ns : List Int}
    (kin : K.In s₁.heap) (gl : s₁.heap.Ns mainGlobals mg) (bl : s₁.heap.Ns builtinsNs mb) (boot : ∀ x : Str, x ≠ "__name__" → mb x = bootBuiltins x) (nolim : s₁.heap.NoLimit) (gens : s₁.gens = #[])
    (tabs : ∀ p ∈ cs, s₁.heap.get? p.2 = some { cls := .none, data := .fields #[] }) (loose : ∀ p ∈ cs, K.lookup p.2 = none) (hds : ∀ p ∈ cs, PySem.W.CodeHd s₁.heap p.1 p.2)
    (mods : ∃ (bm : Addr) (ob : Obj), mg "__builtins__" = some (.ref bm) ∧ bm ≠ builtinsNs ∧ s₁.heap.get? bm = some ob ∧ ob.cls = .type "module" ∧ ob.dict = some builtinsNs ∧ ob.data = .plain)
    (script : s₁.heap.get? a = some { cls := .type "list", data := .seq vs.toArray }) (nums : IntsAre vs ns) (few : ns.length ≤ sizeLine)
    (run : ∀ (base : Heap) (H : Hp), K.In base → base.Ns mainGlobals mg → (∀ p ∈ cs, LamX.TabB base mg p.1 p.2) → Env0 P w K mg base callerA [] s₁ H → (∀ p ∈ cs, H p.2 = some (.tbl #[])) → SqL K H a (ns.map V.int) →
      codeAny (model P w) callerA (.call (.ref fa) ⟨[.ref a], []⟩) (CR CX [] P w H s₁ (fun v _ => v = .bl true) fun _ _ _ => False) s₁)
    (noerr : ∀ H e s', CX [] H s₁ (fun _ _ _ => False) e s' → False) :
    codeAny (model P w) callerA (.call (.ref fa) ⟨[.ref a], []⟩) (EndsWell s₁) s₁ := by
  have isT : ∀ b ∈ cs.map (·.2), s₁.heap.get? b = some { cls := .none, data := .fields #[] } := fun b hb => by
    obtain ⟨p, hp, rfl⟩ := List.mem_map.mp hb
    exact tabs p hp
  have outT : ∀ b ∈ cs.map (·.2), K.lookup b = none := fun b hb => by
    obtain ⟨p, hp, rfl⟩ := List.mem_map.mp hb
    exact loose p hp
  have aOff : a ∉ cs.map (·.2) := fun m => by
    have q := (isT a m).symm.trans script
    cases q
  have own : ∃ k : Bool, (k = true → K.lookup a = none) ∧ (k = false → ∃ o, K.lookup a = some o) := by
    cases q : K.lookup a with
    | none => exact ⟨true, fun _ => rfl, fun z => nomatch z⟩
    | some o => exact ⟨false, fun z => (nomatch z), fun _ => ⟨o, rfl⟩⟩
  obtain ⟨k, k1, k2⟩ := own
  obtain ⟨H, hH⟩ : ∃ H, H = topH (cs.map (·.2)) a vs ns k := ⟨_, rfl⟩
  have off : ∀ {b : Addr} {o : Obj}, s₁.heap.get? b = some o → o.data ≠ .fields #[] → o.data ≠ .seq vs.toArray → H b = none := fun e h1 h2 => by
    rw [hH]
    exact topH_off isT script e h1 h2
  have rvs : Vals (ns.map V.int) vs := vals_ints nums
  have seen : ∀ {b : Addr} {o : Obj}, s₁.heap.get? b = some o → H b = none → (hidT s₁.heap H).get? b = some o := fun e n => hidT_get e n
  have names : ∀ {b : Addr} {m : Str → Option Value}, s₁.heap.Ns b m → (hidT s₁.heap H).Ns b m := fun {b m} n => by
    obtain ⟨o, es, ep, e, d, r⟩ := n
    exact ⟨o, es, ep, seen e (off e (by rw [d]; exact fun z => nomatch z) (by rw [d]; exact fun z => nomatch z)), d, r⟩
  have kin2 : K.In (hidT s₁.heap H) := fun b o e => by
    refine seen (kin b o e) ?_
    cases q : H b with
    | none => rfl
    | some u =>
      rw [hH] at q
      rcases topH_cases q with ⟨m, -⟩ | ⟨-, ho, e', -⟩
      · rw [outT b m] at e; cases e
      · rw [e', k1 ho] at e; cases e
  have M0 : L2.Mod K mg (hidT s₁.heap H) := by
    obtain ⟨mc, l1, l2⟩ := nolim
    exact ⟨kin2, names gl, ⟨mb, names bl, boot⟩, ⟨mc, names l1, l2⟩⟩
  have held : HOk P w H s₁.heap := fun b u q => by
    rw [hH] at q
    rcases topH_cases q with ⟨m, rfl⟩ | ⟨-, -, rfl, rfl⟩
    · exact isT b m
    · exact ⟨script, by rw [List.length_map]; exact few, vs, _, rvs, script⟩
  have E0 : Env0 P w K mg (hidT s₁.heap H) callerA [] s₁ H := by
    refine ⟨rfl, M0, fun b o e => of_hidT e, Nat.le_of_eq (hidT_size _ _), trivial, fun b hb => ?_, held, .of_eq gens⟩
    cases hb
  have notSeq : ∀ (xs : Array Value) (us : Array Value) (n : Nat), Data.fields us ≠ Data.seq xs n := fun xs us n z => nomatch z
  have TB : ∀ p ∈ cs, LamX.TabB (hidT s₁.heap H) mg p.1 p.2 := fun p hp => by
    have tp := tabs p hp
    constructor
    · obtain ⟨o, us, file, tf, flags, tg, inF, text, tt, e1, r1, r2, r3, r⟩ := hds p hp
      refine ⟨o, us, file, tf, flags, tg, inF, text, tt, seen e1 (off e1 (fun z => ?_) fun z => ?_), r1, r2, r3, r⟩
      · rw [r2] at z
        have e : us = #[] := Data.fields.inj z
        rw [e] at r3
        simp at r3
      · rw [r2] at z
        exact notSeq _ _ _ z
    · obtain ⟨bm, ob, b1, b2, b3, b4, b5, b6⟩ := mods
      have pl : ∀ d : Data, d ≠ .plain → ob.data ≠ d := fun d hd z => hd (by rw [← z, b6])
      refine ⟨bm, ob, b1, b2, fun z => ?_, fun z => ?_, seen b3 (off b3 (pl _ fun z => nomatch z) (pl _ fun z => nomatch z)), b4, b5, b6⟩
      · obtain ⟨o, es, ep, e, hd, _⟩ := gl
        rw [z] at b3
        have q := e.symm.trans b3
        cases q
        rw [hd] at b6
        cases b6
      · rw [z] at b3
        have q := tp.symm.trans b3
        cases q
        cases b6
    · intro z
      obtain ⟨o, es, ep, e, hd, _⟩ := gl
      rw [z] at e
      have q := tp.symm.trans e
      cases q
      cases hd
  have atT : ∀ p ∈ cs, H p.2 = some (.tbl #[]) := fun p hp => by
    rw [hH]
    exact topH_in (List.mem_map.mpr ⟨p, hp, rfl⟩)
  have sq : SqL K H a (ns.map V.int) := by
    cases hk : k with
    | true =>
      refine .inl (.inr ⟨{ cls := .type "list", data := .seq vs.toArray }, ?_⟩)
      rw [hH, hk]
      unfold topH
      rw [if_neg aOff, if_pos ⟨rfl, rfl⟩]
    | false =>
      obtain ⟨o, ho⟩ := k2 hk
      have e := (kin a o ho).symm.trans script
      cases e
      exact .inr ⟨_, vs.toArray, _, ho, rfl, rfl, rfl, by rw [List.size_toArray, nums.length]; exact few, by simpa using rvs⟩
  refine codeAny_mono (run _ H kin2 (names gl) TB E0 atT sq) fun r s' h => ?_
  cases r with
  | error e => exact (noerr H e s' h).elim
  | ok fl =>
    cases fl <;> first | exact False.elim h | skip
    rename_i u
    obtain ⟨v, H', os, bare, un, held', ru, rfl⟩ := h
    cases ru
    have frs0 : ∀ b : Addr, b ∉ frs [] := fun b z => nomatch (show b ∈ ([] : List Addr) from z)
    -- what becomes of each thing that stood before
    have fate : ∀ b o, s₁.heap.get? b = some o → s'.heap.get? b = some o ∨ ∃ p ∈ cs, p.2 = b ∧ TabAt s'.heap b := fun b o e => by
      cases q : H b with
      | none => exact .inl (un.keep b o e q (frs0 b) (by simp))
      | some u =>
        rw [hH] at q
        rcases topH_cases q with ⟨m, -⟩ | ⟨-, -, eb, eu⟩
        · obtain ⟨p, hp, ep⟩ := List.mem_map.mp m
          obtain ⟨us, z⟩ := un.tbls p.2 #[] (atT p hp)
          exact .inr ⟨p, hp, ep, #[] ++ us, by rw [← ep]; exact held' p.2 _ z⟩
        · subst eb
          subst eu
          rw [← hH] at q
          have e2 := e.symm.trans script
          cases e2
          exact .inl (held' b _ (un.frzs b _ _ q)).1
    have old : OldK s₁.heap s'.heap := by
      constructor
      · intro b o e
        rcases fate b o e with z | ⟨p, hp, rfl, us, z⟩
        · exact .inl z
        · have t0 := tabs p hp
          have e2 := e.symm.trans t0
          cases e2
          exact .inr (.inl ⟨((hds p hp).tab t0).isCodeTable, rfl, #[], us, rfl, by rw [Array.empty_append]; exact z⟩)
      · intro b o e
        rcases fate b o e with z | ⟨p, hp, rfl, us, z⟩
        · exact ⟨o, z⟩
        · exact ⟨_, z⟩
    exact ⟨rfl, old, os, bare⟩
end Pf
namespace Pf
open L2 PySem PyProof.Rows PySem.Spec
/-- one call of a def of the top, at one place -/
theorem fn_run {CX : CXT} {P : Program} {w : World} {K : PySem.W.Frag} {mg : Str → Option Value} {base : Heap} {k : Nat} {f : Addr} {name qual : Str} {params : Arguments} {body : List Stmt} {scope : Scope} {dV kV doc pm cdv ct oc : Value} {an od : Option Addr}
    {osl : Array (Option Value)} {N ps : List Str} {A : Around} {outer : List Env} {s : Shared} {H : Hp} {given : Args} {us : List Value} {vs : List V} {Q : VK} {E : XK}
    (lk : K.lookup f = some ⟨oc, od, .func (PySem.W.fnOf name qual params body scope dV kV doc pm an cdv ct), osl⟩) (code : PySem.W.codeIn K cdv qual = true) (S : FnScope N ps scope)
    (room : Room (k + 1) A) (e0 : Env0 P w K mg base A outer s H) (bt : BindsTo s (PySem.W.fnOf name qual params body scope dV kV doc pm an cdv ct) given (ps.zip us)) (rv : Vals vs us) (many : vs.length = ps.length)
    (inside : ∃ t, PSs (cxOf CX P w K mg base N qual scope f cdv A outer s H E) body t ∧ t { nx := fun _ H' => Q .non H', rt := Q } (start N vs) H) :
    codeAny (model P w) A (.call (.ref f) given) (CR CX outer P w H s Q E) s := by
  obtain ⟨t, ht, q⟩ := inside
  have up : ∀ b o, base.get? b = some o → s.heap.get? b = some o := fun b o e => (e0.bs b o e).1
  have KX : K.In s.heap := e0.mod.kin.keeps up
  have kinds : ∀ y ∈ ps.zip us, scope.names.lookup y.1 = some .local ∨ (scope.names.lookup y.1 = some .cell ∧ ((cellsFrom (s.heap.objs.size + 1) scope.names []).lookup y.1).isSome = true) := by
    intro y hy
    obtain ⟨n, v⟩ := y
    exact (S.par n (List.of_mem_zip hy).1).imp (fun l => l) fun c => ⟨c, PySem.W.cellsFrom_some _ _ _ (.inl c)⟩
  refine codeAny_call_function room.depth (KX _ _ lk) rfl S.co S.gen rfl (PySem.W.codeRec_of KX code) (bt _ _ _ _ (wpAny_newFunctionEnv_cells S.kind kinds fun env he s1 x => ?_))
  cases he
  refine ⟨(e0.mod.nolimit.keeps up).keeps x.toInCall.keep, codeAny_func (wpAny_mono (ht.run [] s1 (start N vs) H _ (inv_start S room.hd e0 many rv x) q) (fun fl s' end' => ?_) fun e s' z => z)⟩
  cases fl
  case ret u =>
    obtain ⟨v, σ', H', J, r, qv⟩ := end'
    exact ⟨v, H', J.os, J.bare, J.base, J.hok, r, qv⟩
  case next =>
    obtain ⟨σ', H', J, qv⟩ := end'
    exact ⟨V.non, H', J.os, J.bare, J.base, J.hok, rfl, qv⟩
  all_goals
    obtain ⟨_, _, _, z⟩ := end'
    exact False.elim z
end Pf
namespace Pf
open L2 PySem PyProof.Rows PySem.Spec
/-- the law's def, run at its own call -/
theorem law_run {P : Program} {w : World} {K : PySem.W.Frag} {mg : Str → Option Value} {base : Heap} {x qual : Str} {st : Stmt} {f c : Addr} {fd : FuncData} {N ps : List Str} {k : Nat}
    {T : List Addr} {xc : Str → Option Value} {F : List D → Rf} {b : List Sl → Ro} {s : Shared} {H : Hp} {args : Args} {us : List Value} {vs : List V} {Q : VK} {E : XK}
    (Fu : FunC K x qual st f fd c) (Sc : FnScope N ps (defScope st)) (hF : ∀ ds, ds.length = ps.length → F ds = (b (env0 N.length ds)).fn) (room : Room (k + 1) callerA)
    (e0 : Env0 P w K mg base callerA [] s H) (bt : BindsTo s fd args (ps.zip us)) (rv : Vals vs us) (sp : spP K T xc ps.length F vs H Q E)
    (h : ∀ B : Hp, Room k (callerA.deeper (envOfC qual (defScope st) s.heap.objs.size f (.ref c))) →
      PXs (cxOf (CX P w) P w K mg base N qual (defScope st) f (.ref c) callerA [] s H E) ⟨T, H, B⟩ ⟨E, xc⟩ (defBody st) b) :
    codeAny (model P w) callerA (.call (.ref f) args) (CR (CX P w) [] P w H s Q E) s := by
  obtain ⟨oc, od, kV, doc, pm, an, ct, osl, h1, h2, h3⟩ := Fu.ex
  subst h1
  obtain ⟨hl, B, ds, sit, hd, hk⟩ := sp
  refine fn_run h2 h3 Sc room e0 bt rv hl ⟨_, (h B (room.deeper _)).ps, B, env0 N.length ds, ?_, ?_⟩
  · refine rel0 (S := ⟨T, H, B⟩) sit hd ?_
    rw [hl, ← Sc.pre]
    exact List.length_take_le' _ _
  · rw [hF ds (by rw [← hd.length]; exact hl)] at hk
    have grow : ∀ {B' H' : Hp} {e : List Sl} {σ' : L2.St}, Rel K ⟨T, H, B⟩ B' e σ' H' → Grow K ⟨T, H, B⟩ B H B' H' := fun R => ⟨R.old, R.tab, R.b0, R.bh, R.nt, R.new⟩
    revert hk
    cases b (env0 N.length ds) with
    | nx e => exact fun hk B' H' σ' R sm => hk V.non B' H' (grow R) .non
    | rt d => exact fun hk B' H' v R sm dq => hk v B' H' (grow R) dq
    | ex x => exact fun hk => hk
    | bk e => exact fun hk => hk.elim
    | ct e => exact fun hk => hk.elim
    | bad => exact fun hk => hk.elim
/-- what a law's head must give for it -/
def LawG (l : PySem.W.OpenLaw) (w : World) (K : PySem.W.Frag) (n : Nat) (mg : Str → Option Value) (fa : Addr) (h : Heap) : Prop :=
  ∃ cs : List (Addr × Addr), (∀ p ∈ cs, h.get? p.2 = some { cls := .none, data := .fields #[] }) ∧ (∀ p ∈ cs, K.lookup p.2 = none) ∧ (∀ p ∈ cs, PySem.W.CodeHd h p.1 p.2) ∧
    ∀ (s₁ : Shared) (base : Heap) (H : Hp) (a : Addr) (ns : List Int), ns.length ≤ n → (∀ z ∈ ns, Builtin.Int.intBits z ≤ 1048576) → K.In base → base.Ns mainGlobals mg → (∀ p ∈ cs, LamX.TabB base mg p.1 p.2) →
      Env0 l.prog w K mg base callerA [] s₁ H → (∀ p ∈ cs, H p.2 = some (.tbl #[])) → SqL K H a (ns.map V.int) →
      codeAny (model l.prog w) callerA (.call (.ref fa) ⟨[.ref a], []⟩) (CR (CX l.prog w) [] l.prog w H s₁ (fun v _ => v = .bl true) fun _ _ _ => False) s₁
theorem walk_top {l : PySem.W.OpenLaw} {n : Nat} {q : Program} {free : List Str} {Xt : (Str → Option Value) → Heap → Prop} {Yt : World → Heap → Prop} {d : DefRec} (most : l.most = some n) (small : n ≤ sizeLine) (nodef : d.params.defaults = [])
    (F : ∀ (w : World) (mg : Str → Option Value) (fa : Addr) (h : Heap), Yt w h → h.Ns mainGlobals mg → mg d.name = some (.ref fa) → ∃ K : PySem.W.Frag, K.In h ∧ LawG l w K n mg fa h)
    (noerr : ∀ (w : World) (H : Hp) (s : Shared) (e : Value) (s' : Shared), CX l.prog w [] H s (fun _ _ _ => False) e s' → False) :
    PySem.W.WalkO q free Xt Yt l.row.toRowW d [] (fun f vs => PySem.call f vs) := by
  refine Att.attach_callB most nodef ?_
  intro w s₀ s₁ mg mb fa o pm cd doc a vs ns G Y ho hd hcd hmg hobj hnums hlen hbits hg
  obtain ⟨K, kin, cs, c1, c2, c3, run⟩ := F w mg fa _ Y G.T.g hmg
  exact top_call kin G.T.g G.T.b G.T.builtins G.T.nolimit hg c1 c2 c3 G.T.bmain hobj hnums (Nat.le_trans hlen small) (fun base H => run s₁ base H a ns hlen hbits) fun H e s' => noerr w H s₁ e s'
end Pf
namespace Pf
open PySem PySem.Spec PyProof.Rows L2 GxR GenW Gx
end Pf
namespace Pf
open PySem PySem.Spec PyProof.Rows L2 GxR GenW Gx
section
variable {X : Cx} {S : Se} {M : Xw}
/-! ### a method of a tuple that has no dict -/
/-- x is a tuple whose object is known to have no dict -/
def bareT (K : PySem.W.Frag) (x : V) (H : Hp) : Prop := ∃ (p : Addr) (ob : Obj) (u : HO) (xs : List V), x = .ref p ∧ H p = some (.frz ob u) ∧ ob.dict = none ∧ SqT K H p xs
theorem SqU.bare {K : PySem.W.Frag} {B H : Hp} {a : Addr} {vs : List V} (h : SqU K B a vs) (sm : Same B H) : bareT K (.ref a) H := by
  obtain ⟨sq, ob, u, e, d⟩ := h
  exact ⟨a, ob, u, vs, rfl, sm _ _ e, d, same_seqT sm sq⟩
theorem bareT_is {pins : List (Addr × Obj)} {σ : L2.St} {H : Hp} {s : Shared} {x : V} {v : Value} (I : Inv X pins σ H s) (r : RelV x v) (h : bareT X.K x H) : s.TypeIs v "tuple" ∧ ∀ a, v = .ref a → ∃ o, s.heap.get? a = some o ∧ o.dict = none := by
  obtain ⟨p, ob, u, xs, rfl, e, d, sq⟩ := h
  cases r
  obtain ⟨_, _, ⟨o, e2, c, _⟩, _⟩ := I.tuple sq
  exact ⟨⟨o, e2, c⟩, fun a ea => by cases ea; exact ⟨ob, (I.hok p _ e).1, d⟩⟩
theorem pe_bmT {o e : Expr} {es : List Expr} {to : TE} {t : TA} {name : Str} {apos cpos : Pos} {id : String} {r : V → List V → Hp → VK → Prop} (slot : Slot "tuple" name id) (hty : typeOf (.builtin id) = pure (.type "method_descriptor")) (hm : MtR X id r)
    (ho : PE X o to) (ha : PA X (e :: es) t) (q1 : attributeBase o name X.env (eval o X.env) = eval o X.env)
    (q2 : ((backTo cpos (starEach (e :: es) X.env)).all (fun x => !x.1) && (backToKw cpos (keywordEach [] X.env)).all (fun x => x.1.isSome) && decide ((e :: es).length + ([] : List Keyword).length + (if ([] : List Keyword).isEmpty then 0 else 1) < 30)) = true)
    (q3 : (apos.endLine == cpos.line) = true) (q4 : starEach (e :: es) X.env = (false, eval e X.env) :: starEach es X.env) (q5 : (backTo cpos (starEach es X.env)).any (·.1) = false) :
    PE X (.Call (.Attribute o name apos) (e :: es) [] cpos) fun σ H Q => to σ H fun x H1 => bareT X.K x H1 ∧ t σ H1 fun xs H2 => r x xs H2 Q := by
  constructor
  intro pins s σ H Q I h
  refine wpAny_Call_method_late q1 q2 q3 rfl (thn (ho.run pins s σ H _ I h) fun v s1 h1 => ?_)
  obtain ⟨x, H1, I1, r1, bt, q⟩ := h1
  obtain ⟨k1, k2⟩ := bareT_is I1 r1 bt
  refine ⟨"tuple", id, PySem.F.plainAttrs_tuple, slot, hty, k1, k2, ?_⟩
  have args := ha.run cpos pins s1 σ H1 _ I1 q
  rw [q4] at args ⊢
  refine Calls.callWith_builtin ?_ (Calls.evalArgs_plain (thn args fun us s2 h2 => ?_))
  · show (false || (backTo cpos (starEach es X.env)).any (·.1)) = false
    rw [q5]
    rfl
  · obtain ⟨vs, H2, I2, r2, q'⟩ := h2
    exact hm pins s2 σ H2 x vs v us Q I2 r1 r2 q'
/-! ### count and index of integers in a list or a tuple -/
theorem mt_cntL : MtR X "list.count" fun x xs H Q => ∃ (p : Addr) (ns : List Int) (k : Int), x = .ref p ∧ xs = [.int k] ∧ SqL X.K H p (ns.map V.int) ∧ Q (.int (ns.count k : Nat)) H := by
  intro pins s σ H x xs v us Qv I rx rs h
  obtain ⟨p, ns, k, rfl, rfl, hq, q⟩ := h
  cases rx
  obtain ⟨one, rfl, tk, rfl⟩ := vals1 rs
  obtain ⟨its, r, pl, _⟩ := I.list hq
  exact PyProof.Rows.count_list_ints pl.isList (by simpa using r.ints) ⟨.int _, H, I.tok _, ⟨_, rfl⟩, q⟩
theorem mt_cntT : MtR X "tuple.count" fun x xs H Q => ∃ (p : Addr) (ns : List Int) (k : Int), x = .ref p ∧ xs = [.int k] ∧ SqT X.K H p (ns.map V.int) ∧ Q (.int (ns.count k : Nat)) H := by
  intro pins s σ H x xs v us Qv I rx rs h
  obtain ⟨p, ns, k, rfl, rfl, hq, q⟩ := h
  cases rx
  obtain ⟨one, rfl, tk, rfl⟩ := vals1 rs
  obtain ⟨its, r, ht, _⟩ := I.tuple hq
  have hi : IntsAre its.toArray.toList ns := by simpa using r.ints
  obtain ⟨⟨cls, dd, body, sl⟩, ho, hc, n, hd⟩ := id ht
  simp only at hc hd
  subst hc hd
  refine call_meets PySem.F.slot_tuple_count ⟨_, ho, rfl⟩ PySem.F.entry_tuple_count (PySem.F.args_tuple_count_2 _ _) (PySem.SeqAt.tuple_countAt p its.toArray n dd sl (.int k tk) (isInt k)) ⟨ho, fun y hy => (eq_isInt k tk hi y (by simpa using hy)).at _ _, ?_⟩
  rw [countP_isInt k hi]
  exact ⟨.int _, H, I.tok _, ⟨_, rfl⟩, q⟩
theorem mt_ixT : MtR X "tuple.index" fun x xs H Q => ∃ (p : Addr) (ns : List Int) (k : Int), x = .ref p ∧ xs = [.int k] ∧ SqT X.K H p (ns.map V.int) ∧ k ∈ ns ∧ Q (.int (ns.idxOf k : Nat)) H := by
  intro pins s σ H x xs v us Qv I rx rs h
  obtain ⟨p, ns, k, rfl, rfl, hq, hk, q⟩ := h
  cases rx
  obtain ⟨one, rfl, tk, rfl⟩ := vals1 rs
  obtain ⟨its, r, ht, _⟩ := I.tuple hq
  exact PySem.SeqAt.tuple_index_ints ht (by simpa using r.ints) hk ⟨.int _, H, I.tok _, ⟨_, rfl⟩, q⟩
/-- the integers of a list or of a tuple -/
def seqI : D → Option (List Int)
  | .lst ds => intsD ds
  | .tup ds => intsD ds
  | _ => none
/-- o.m(k) for a list or a tuple of integers -/
def fSeqM (res : List Int → Int → Option Int) (f g : List Sl → Rs D) (env : List Sl) : Rs D := (f env).bind fun d e => match seqI d with
  | some ns => (g e).bind fun d2 e2 => match d2 with
    | .int k => Rs.opt ((res ns k).map D.int) e2
    | _ => .bad
  | none => .bad
def resCnt (ns : List Int) (k : Int) : Option Int := some (ns.count k : Nat)
def resIdx (ns : List Int) (k : Int) : Option Int := if k ∈ ns then some (ns.idxOf k : Nat) else none
def rMeth (sq : Hp → Addr → List V → Prop) (res : List Int → Int → Option Int) (x : V) (xs : List V) (H : Hp) (Q : VK) : Prop := ∃ (p : Addr) (ns : List Int) (k z : Int), x = .ref p ∧ xs = [.int k] ∧ sq H p (ns.map V.int) ∧ res ns k = some z ∧ Q (.int z) H
theorem sem_seqm {o e : Expr} {name : Str} {apos pos : Pos} {f g : List Sl → Rs D} {res : List Int → Int → Option Int} {idl idt : String} (slL : Slot "list" name idl) (tyL : typeOf (.builtin idl) = pure (.type "method_descriptor")) (slT : Slot "tuple" name idt) (tyT : typeOf (.builtin idt) = pure (.type "method_descriptor"))
    (mL : MtR X idl (rMeth (SqL X.K) res)) (mT : MtR X idt (rMeth (SqT X.K) res)) (ho : PV X S M o f) (he : PV X S M e g)
    (q1 : attributeBase o name X.env (eval o X.env) = eval o X.env) (q3 : (apos.endLine == pos.line) = true)
    (q2 : (((backTo pos (starEach [e] X.env)).all (fun x => !x.1) && (backToKw pos (keywordEach [] X.env)).all (fun x => x.1.isSome) && decide (([e].length + ([] : List Keyword).length + if ([] : List Keyword).isEmpty = true then 0 else 1) < 30))) = true)
    (q4 : starEach [e] X.env = (false, eval e X.env) :: starEach [] X.env) (q5 : ((backTo pos (starEach [] X.env)).any fun x => x.1) = false) :
    PV X S M (.Call (.Attribute o name apos) [e] [] pos) (fSeqM res f g) := by
  have ga := (pas_cons he pas_nil q4).pa
  refine ⟨peOr (pe_bm PySem.F.plainAttrs_list slL tyL mL ho.pe ga q1 q2 q3 q4 q5) (pe_bmT slT tyT mT ho.pe ga q1 q2 q3 q4 q5) ?_⟩
  rintro σ H Q ⟨B, env, R, P⟩
  -- what is left once the sequence is told
  have rest : ∀ (B1 H1 : Hp) (e1 : List Sl) (ns : List Int), Rel X.K S B1 e1 σ H1 → Post X.K S M σ B1 H1 e1 ((g e1).bind fun d2 e2 => match d2 with | .int k => Rs.opt ((res ns k).map D.int) e2 | _ => .bad) (fun d _ B' H' => ∀ v, Dq X.K B' v d → Q v H') →
      ∀ (sq : Hp → Addr → List V → Prop) (p : Addr), (∀ B2 H2 e2, Rel X.K S B2 e2 σ H2 → Same B1 B2 → sq H2 p (ns.map V.int)) → semA X.K S M (fCons g (fun env => .ok [] env)) σ H1 fun xs H2 => rMeth sq res (.ref p) xs H2 Q := by
    intro B1 H1 e1 ns R1 P1 sq p hsq
    refine ⟨B1, e1, R1, ?_⟩
    unfold fCons
    cases qg : g e1 with
    | bad => rw [qg] at P1; exact P1.elim
    | ex x => rw [qg] at P1; exact P1
    | ok d2 e2 =>
      intro B2 H2 R2 X2 us hus
      have P2 := Post.bind P1
      rw [qg] at P2
      have P3 := P2 B2 H2 R2 X2
      obtain ⟨v2, rfl, hv2⟩ := dqall_one hus
      cases hv2 <;> first | exact P3.elim | skip
      rename_i k
      have P3 : Post X.K S M σ B2 H2 e2 (Rs.opt ((res ns k).map D.int) e2) _ := P3
      cases qr : res ns k with
      | none => rw [qr] at P3; exact P3.elim
      | some z =>
        rw [qr] at P3
        exact ⟨p, ns, k, z, rfl, rfl, hsq B2 H2 e2 R2 X2.same, qr, P3.ok R2 _ (.int _)⟩
  cases qf : f env with
  | bad => unfold fSeqM at P; rw [qf] at P; exact P.elim
  | ex x =>
    left
    refine ⟨B, env, R, ?_⟩
    unfold fSeqM at P
    rw [qf] at P ⊢
    exact P
  | ok d e1 =>
    have P' := Post.bind P
    rw [qf] at P'
    cases d with
    | lst ds =>
      left
      refine ⟨B, env, R, ?_⟩
      rw [qf]
      intro B1 H1 R1 X1 v hv
      have P1 := P' B1 H1 R1 X1
      cases hv with
      | lst h1 h2 =>
        have P1 : Post X.K S M σ B1 H1 e1 (match intsD ds with | some ns => _ | none => _) _ := P1
        cases qi : intsD ds with
        | none => rw [qi] at P1; exact P1.elim
        | some ns =>
          rw [qi] at P1
          exact ⟨.inl ⟨rfl, _, SqL.of (R1.bh _ _ h1)⟩, rest B1 H1 e1 ns R1 P1 (SqL X.K) _ fun B2 H2 e2 R2 sm => by rw [← dq_of_ints h2 qi]; exact SqL.of (R2.bh _ _ (sm _ _ h1))⟩
    | tup ds =>
      right
      refine ⟨B, env, R, ?_⟩
      rw [qf]
      intro B1 H1 R1 X1 v hv
      have P1 := P' B1 H1 R1 X1
      cases hv with
      | tup h1 h2 =>
        have P1 : Post X.K S M σ B1 H1 e1 (match intsD ds with | some ns => _ | none => _) _ := P1
        cases qi : intsD ds with
        | none => rw [qi] at P1; exact P1.elim
        | some ns =>
          rw [qi] at P1
          refine ⟨h1.bare R1.bh, rest B1 H1 e1 ns R1 P1 (SqT X.K) _ fun B2 H2 e2 R2 sm => ?_⟩
          rw [← dq_of_ints h2 qi]
          exact same_seqT R2.bh (same_tup sm h1)
    | _ =>
      left
      refine ⟨B, env, R, ?_⟩
      rw [qf]
      intro B1 H1 R1 X1
      exact (P' B1 H1 R1 X1).elim
theorem q_cnt {o e : Expr} {apos pos : Pos} {f g : List Sl → Rs D} (ho : PV X S M o f) (he : PV X S M e g)
    (q1 : attributeBase o "count" X.env (eval o X.env) = eval o X.env := by rfl) (q3 : (apos.endLine == pos.line) = true := by rfl)
    (q2 : (((backTo pos (starEach [e] X.env)).all (fun x => !x.1) && (backToKw pos (keywordEach [] X.env)).all (fun x => x.1.isSome) && decide (([e].length + ([] : List Keyword).length + if ([] : List Keyword).isEmpty = true then 0 else 1) < 30))) = true := by rfl)
    (q4 : starEach [e] X.env = (false, eval e X.env) :: starEach [] X.env := by rfl) (q5 : ((backTo pos (starEach [] X.env)).any fun x => x.1) = false := by rfl) :
    PV X S M (.Call (.Attribute o "count" apos) [e] [] pos) (fSeqM resCnt f g) :=
  sem_seqm PySem.F.slot_list_count PySem.F.type_list_count PySem.F.slot_tuple_count PySem.F.type_tuple_count
    (fun pins s σ H x xs v us Q I rx rs ⟨p, ns, k, z, e1, e2, sq, r, q⟩ => mt_cntL pins s σ H x xs v us Q I rx rs ⟨p, ns, k, e1, e2, sq, by cases r; exact q⟩)
    (fun pins s σ H x xs v us Q I rx rs ⟨p, ns, k, z, e1, e2, sq, r, q⟩ => mt_cntT pins s σ H x xs v us Q I rx rs ⟨p, ns, k, e1, e2, sq, by cases r; exact q⟩) ho he q1 q3 q2 q4 q5
theorem q_idxI {o e : Expr} {apos pos : Pos} {f g : List Sl → Rs D} (ho : PV X S M o f) (he : PV X S M e g)
    (q1 : attributeBase o "index" X.env (eval o X.env) = eval o X.env := by rfl) (q3 : (apos.endLine == pos.line) = true := by rfl)
    (q2 : (((backTo pos (starEach [e] X.env)).all (fun x => !x.1) && (backToKw pos (keywordEach [] X.env)).all (fun x => x.1.isSome) && decide (([e].length + ([] : List Keyword).length + if ([] : List Keyword).isEmpty = true then 0 else 1) < 30))) = true := by rfl)
    (q4 : starEach [e] X.env = (false, eval e X.env) :: starEach [] X.env := by rfl) (q5 : ((backTo pos (starEach [] X.env)).any fun x => x.1) = false := by rfl) :
    PV X S M (.Call (.Attribute o "index" apos) [e] [] pos) (fSeqM resIdx f g) :=
  sem_seqm PySem.F.slot_list_index PySem.F.type_list_index PySem.F.slot_tuple_index PySem.F.type_tuple_index
    (fun pins s σ H x xs v us Q I rx rs ⟨p, ns, k, z, e1, e2, sq, r, q⟩ => by
      unfold resIdx at r
      split at r <;> cases r
      rename_i hk
      exact mt_ixL pins s σ H x xs v us Q I rx rs ⟨p, ns, k, e1, e2, sq, hk, q⟩)
    (fun pins s σ H x xs v us Q I rx rs ⟨p, ns, k, z, e1, e2, sq, r, q⟩ => by
      unfold resIdx at r
      split at r <;> cases r
      rename_i hk
      exact mt_ixT pins s σ H x xs v us Q I rx rs ⟨p, ns, k, e1, e2, sq, hk, q⟩) ho he q1 q3 q2 q4 q5
end
end Pf
namespace Pf
open PySem PySem.Spec PyProof.Rows L2 GxR GenW Gx
section
variable {X : Cx} {S : Se} {M : Xw}
/-! ### an expression of which nothing is promised -/
def vBad (_ : List Sl) : Rs D := .bad
theorem q_bad {e : Expr} : PV X S M e vBad := ⟨⟨fun p s σ H Q i q => by
  obtain ⟨B, env, R, P⟩ := q
  exact P.elim⟩⟩
/-! ### a range that is kept under a name -/
theorem cr_range1 : CallR X (.type "range") fun vs H Q => ∃ j, vs = [V.int j] ∧ ∀ p, H p = none → Q (.ref p) (upd H p (.rng 0 j)) := by
  intro _ s σ H given us Q I rel told
  obtain ⟨j, rfl, q⟩ := told
  obtain ⟨one, rfl, tk, rfl⟩ := vals1 rel
  refine call_range_1 ⟨.ref s.heap.objs.size, upd H s.heap.objs.size (.rng 0 j), I.laid (t' := s.toks + 2) (fun b o e => Heap.get?_push_of_some _ e) (Nat.le_refl _) ?_, rfl, q _ (I.hok.fresh (Nat.le_refl _))⟩
  exact ⟨_, _, _, Heap.get?_push_size _ rfl⟩
def cRange1 : List D → Option D
  | [.int j] => some (.rng 0 j)
  | _ => none
theorem cd_range1 : CalD X S (.type "range") cRange1 := ⟨_, cr_range1, fun B H vs ds z Q s hd hc w => by
  unfold cRange1 at hc
  split at hc <;> first | cases hc | skip
  obtain ⟨v, rfl, hv⟩ := dqall_one hd
  cases hv
  exact ⟨_, rfl, fun p hp => w _ _ _ (Grow.alloc (X := X) s.tab s.bh s.nt hp (fun ps h => by cases h)) (.rng upd_same)⟩⟩
/-- a range object that is told by an expression, walked -/
theorem pi_rngV {tg e : Expr} {te : TE} (he : PE X e te) : PI X tg e fun σ H R => te σ H fun x H1 => ∃ (a : Addr) (lo hi : Int), x = .ref a ∧ H1 a = some (.rng lo hi) ∧ (-(2 ^ 62) ≤ lo ∧ lo < 2 ^ 62 ∧ -(2 ^ 62) ≤ hi ∧ hi < 2 ^ 62) ∧ R (Itr lo (hi - lo).toNat) H1 := by
  constructor
  intro pins s σ H R I h
  refine thn (he.run pins s σ H _ I h) fun v s1 h1 => ?_
  obtain ⟨x, H1, I1, r1, a, lo, hi, rfl, at', ⟨b1, b2, b3, b4⟩, q⟩ := h1
  cases r1
  obtain ⟨t, u, w, ob⟩ := I1.hok a _ at'
  refine wpAny_pyIter_range (r := a) ob (small_one b1 b2 b3 b4) ?_
  have fresh := I1.fpOk (b := s1.heap.objs.size) (Nat.le_refl _) (I1.hok.fresh (Nat.le_refl _))
  refine ⟨s1.heap.objs.size, [s1.heap.objs.size], _, _, H1, rfl, I1.kept (t' := s1.toks) fun b o e => Heap.get?_push_of_some _ e, turn_range _ lo (hi - lo).toNat, ?_, fun b hb => ?_, q⟩
  · have z1 : lo + ((0 : Nat) : Int) * 1 = lo := by omega
    have z2 : (((hi - lo).toNat : Nat) : Int) - ((0 : Nat) : Int) = Builtin.Range.rangeSize lo hi 1 := by
      rw [rangeSize_one]
      split <;> omega
    have made := fun (o : Obj) (live : o.isFreed = false) => Heap.get?_push_size s1.heap live
    change IsRangeIter _ _ (lo + ((0 : Nat) : Int) * 1) ((((hi - lo).toNat : Nat) : Int) - ((0 : Nat) : Int)) 1
    rw [z1, z2]
    exact made _ rfl
  · have only := List.mem_singleton.mp hb
    rw [only]
    exact fresh
/-- the items of a range -/
def itsR : D → Option (List D)
  | .rng lo hi => if -(2 ^ 62) ≤ lo ∧ lo < 2 ^ 62 ∧ -(2 ^ 62) ≤ hi ∧ hi < 2 ^ 62 then some ((List.range (hi - lo).toNat).map fun (k : Nat) => D.int (lo + (k : Int))) else none
  | _ => none
def fItR (f : List Sl → Rs D) (env : List Sl) : Rs (List D) := (f env).bind fun d e => Rs.opt (itsR d) e
theorem qi_rngV {tg e : Expr} {f : List Sl → Rs D} (h : PV X S M e f) : PIt X S M tg e (fItR f) := ⟨piI (pi_rngV h.pe) (by
  rintro σ H Q ⟨B, env, R, P⟩
  refine ⟨B, env, R, (Post.bind P).mono fun d e B1 H1 R1 X1 P1 v hv => ?_⟩
  cases q : itsR d with
  | none => rw [q] at P1; exact P1.elim
  | some ys =>
    rw [q] at P1
    unfold itsR at q
    split at q
    · rename_i lo hi
      split at q
      · rename_i hb
        cases q
        cases hv with
        | rng h1 => exact ⟨_, lo, hi, rfl, R1.bh _ _ h1, hb, P1.ok R1 _ walk_r⟩
      · cases q
    · cases q)⟩
end
end Pf
namespace Gx
open PySem PySem.Spec PyProof.Rows L2 GxR GenW
/-! ### sets of tuples of ints, made by a comprehension of one walk -/
end Gx
namespace Pf
open PySem PySem.Spec PyProof.Rows L2 GxR GenW Gx
/-! ### sets of tuples of ints, of which the number alone is asked -/
end Pf
namespace Pf
open PySem PySem.Spec PyProof.Rows L2 GxR GenW Gx
end Pf
namespace Pf
open L2 PySem PySem.Spec PyProof.Rows
/-! evaluation of cores -/
theorem rSeq_nx {f g : List Sl → Ro} {env e : List Sl} (h : f env = .nx e) : rSeq f g env = g e := by unfold rSeq; rw [h]; rfl
theorem rSeq_rt {f g : List Sl → Ro} {env : List Sl} {d : D} (h : f env = .rt d) : rSeq f g env = .rt d := by unfold rSeq; rw [h]; rfl
theorem rRet_ok {f : List Sl → Rs D} {env e : List Sl} {d : D} (h : f env = .ok d e) : rRet f env = .rt d := by unfold rRet; rw [h]; rfl
theorem rSet_ok {i : Nat} {f : List Sl → Rs D} {env e : List Sl} {d : D} (h : f env = .ok d e) : rSet i f env = .nx (e.set i (.im d)) := by unfold rSet; rw [h]; rfl
theorem rSetO_ok {i : Nat} {f : List Sl → Rs Ow} {env e : List Sl} {w : Ow} (h : f env = .ok w e) : rSetO i f env = .nx (e.set i (.ow w)) := by unfold rSetO; rw [h]; rfl
theorem rExpr_ok {f : List Sl → Rs D} {env e : List Sl} {d : D} (h : f env = .ok d e) : rExpr f env = .nx e := by unfold rExpr; rw [h]; rfl
theorem rIf_t {t : List Sl → Rs Bool} {f g : List Sl → Ro} {env e : List Sl} (h : t env = .ok true e) : rIf t f g env = f e := by unfold rIf; rw [h]; rfl
theorem rIf_f {t : List Sl → Rs Bool} {f g : List Sl → Ro} {env e : List Sl} (h : t env = .ok false e) : rIf t f g env = g e := by unfold rIf; rw [h]; rfl
theorem rFor_ok {f : List Sl → Rs (List D)} {g : D → List Sl → Option (List Sl)} {b : List Sl → Ro} {env e : List Sl} {ds : List D} (h : f env = .ok ds e) : rFor f g b env = forR g b ds e := by unfold rFor; rw [h]; rfl
theorem fAnd_t {f g : List Sl → Rs D} {env e : List Sl} (h : f env = .ok (.bl true) e) : fAnd f g env = g e := by unfold fAnd; rw [h]; rfl
theorem bOr_t {f g : List Sl → Rs Bool} {env e : List Sl} (h : f env = .ok true e) : bOr f g env = .ok true e := by unfold bOr; rw [h]; rfl
theorem bOr_f {f g : List Sl → Rs Bool} {env e : List Sl} (h : f env = .ok false e) : bOr f g env = g e := by unfold bOr; rw [h]; rfl
theorem bNot_ok {f : List Sl → Rs Bool} {env e : List Sl} {b : Bool} (h : f env = .ok b e) : bNot f env = .ok (!b) e := by unfold bNot; rw [h]; rfl
theorem fTru_ok {f : List Sl → Rs D} {env e : List Sl} {d : D} {b : Bool} (h : f env = .ok d e) (q : d.tru = some b) : fTru f env = .ok b e := by
  unfold fTru; rw [h]; show Rs.opt d.tru e = _; rw [q]; rfl
theorem fAsB_ok {f : List Sl → Rs D} {env e : List Sl} {b : Bool} (h : f env = .ok (.bl b) e) : fAsB f env = .ok b e := by unfold fAsB; rw [h]; rfl
theorem f2_ok {f g : List Sl → Rs D} {c : D → D → Option D} {env e1 e2 : List Sl} {x y z : D} (h : f env = .ok x e1) (h' : g e1 = .ok y e2) (q : c x y = some z) : f2 f g c env = .ok z e2 := by
  unfold f2; rw [h]; show Rs.bind (g e1) _ = _; rw [h']; show Rs.opt (c x y) e2 = _; rw [q]; rfl
theorem vCall_ok {n : Nat} {F : List D → Rf} {g : List Sl → Rs (List D)} {env e : List Sl} {ds : List D} {d : D} (h : g env = .ok ds e) (hl : ds.length = n) (q : F ds = .ok d) : vCall n F g env = .ok d e := by
  unfold vCall; rw [h]; show (if ds.length = n then (F ds).rs e else Rs.bad) = _; rw [if_pos hl, q]; rfl
theorem fCB_ok {g : List Sl → Rs (List D)} {c : List D → Option D} {env e : List Sl} {ds : List D} {d : D} (h : g env = .ok ds e) (q : c ds = some d) : fCB g c env = .ok d e := by
  unfold fCB; rw [h]; show Rs.opt (c ds) e = _; rw [q]; rfl
theorem fFrz_ok {f : List Sl → Rs Ow} {env e : List Sl} {xs : List D} (h : f env = .ok (.l xs) e) : fFrz f env = .ok (.lst xs) e := by unfold fFrz; rw [h]; rfl
theorem wRng1_ok {g : List Sl → Rs (List D)} {env e : List Sl} {ds ys : List D} (h : g env = .ok ds e) (q : rng1 ds = some ys) : wRng1 g env = .ok ys e := by
  unfold wRng1; rw [h]; show Rs.opt (rng1 ds) e = _; rw [q]; rfl
theorem rng1_eq {j : Int} (h : j < 2 ^ 62) (h0 : -(2 ^ 62) ≤ j) : rng1 [.int j] = some ((List.range j.toNat).map fun (i : Nat) => .int (0 + (i : Int))) := by
  unfold rng1
  exact if_pos ⟨h0, h⟩
/-! ### turns -/
theorem turns_map {g : D → List Sl → Option (List Sl)} {t : List Sl → Rs Bool} {el : List Sl → Rs D} {e0 : List Sl} (p : D → D) : ∀ {ds : List D}, (∀ x ∈ ds, turnD g t el e0 x = some (some (p x))) → turnsD g t el e0 ds = some (ds.map p)
  | [], _ => rfl
  | x :: ds, h => by
    rw [turnsD, h x List.mem_cons_self]
    dsimp only
    rw [turns_map p fun y hy => h y (List.mem_cons_of_mem _ hy)]
    rfl
theorem turnD_ok {g : D → List Sl → Option (List Sl)} {el : List Sl → Rs D} {e0 e1 e2 : List Sl} {x y : D} (h1 : g x e0 = some e1) (h2 : el e1 = .ok y e2) : turnD g tYes' el e0 x = some (some y) := by
  unfold turnD
  rw [h1]
  show (match el e1 with | .ok x _ => some (some x) | _ => none) = _
  rw [h2]
theorem bls_map (p : D → Bool) : ∀ xs : List D, bls (xs.map fun x => .bl (p x)) = some (xs.map p)
  | [] => rfl
  | x :: xs => by
    show (bls (xs.map fun x => .bl (p x))).map (p x :: ·) = _
    rw [bls_map p xs]
    rfl
theorem gx_all {f : List Sl → Rs (List D)} {g : D → List Sl → Option (List Sl)} {el : List Sl → Rs D} {own : List Nat} {env e : List Sl} {ds : List D} (p : D → Bool) (h : f env = .ok ds e) (q : ∀ x ∈ ds, turnD g tYes' el (hideE own e) x = some (some (.bl (p x)))) :
    fGx f g tYes' el own resAll env = .ok (.bl (ds.all p)) e := by
  unfold fGx
  rw [h]
  show Rs.opt ((turnsD g tYes' el (hideE own e) ds).bind resAll) e = _
  rw [turns_map (fun x => .bl (p x)) q]
  show Rs.opt ((bls (ds.map fun x => .bl (p x))).map _) e = _
  rw [bls_map]
  show Rs.ok (D.bl ((ds.map p).all id)) e = _
  rw [List.all_map]
  rfl
/-! ### for -/
/-! ### equality of flat data -/
theorem sh_str {a : Str} (h : PyData.strOk a = true) : SeqAt.shaped (.str a) = true := by
  unfold SeqAt.shaped
  simp [PyData.canLay0, PyData.depth, h]
theorem sh_int (a : Int) : SeqAt.shaped (.int a) = true := by
  unfold SeqAt.shaped
  simp [PyData.canLay0, PyData.depth]
theorem eqv_str (a b : Str) : PyData.eqv (.str a) (.str b) = (a == b) := by
  simp [PyData.eqv]
theorem eqv_int (a b : Int) : PyData.eqv (.int a) (.int b) = (a == b) := by
  simp [PyData.eqv]
theorem dEq_str {a b : Str} (ha : PyData.strOk a = true) (hb : PyData.strOk b = true) : dEq (.str a) (.str b) = some (.bl (a == b)) := by
  unfold dEq D.eqv
  show (if (SeqAt.shaped (.str a) && SeqAt.shaped (.str b)) = true then some (PyData.eqv (.str a) (.str b)) else none).map D.bl = _
  rw [sh_str ha, sh_str hb, eqv_str]
  rfl
theorem dEq_int (a b : Int) : dEq (.int a) (.int b) = some (.bl (a == b)) := by
  unfold dEq D.eqv
  show (if (SeqAt.shaped (.int a) && SeqAt.shaped (.int b)) = true then some (PyData.eqv (.int a) (.int b)) else none).map D.bl = _
  rw [sh_int, sh_int, eqv_int]
  rfl
theorem dNe_int (a b : Int) : dNe (.int a) (.int b) = some (.bl (!(a == b))) := by
  unfold dNe D.eqv
  show (if (SeqAt.shaped (.int a) && SeqAt.shaped (.int b)) = true then some (PyData.eqv (.int a) (.int b)) else none).map (fun b => D.bl (!b)) = _
  rw [sh_int, sh_int, eqv_int]
  rfl
end Pf
namespace Pf
open PyProof.Rows L2 PySem.Spec PySem
/-! symbolic runs: what each piece makes of what stood ahead of it -/
theorem xo_some {α : Type} {a : α} {e : List Sl} : Rs.opt (some a) e = .ok a e := Eq.trans rfl rfl
theorem xb_ok {α β : Type} {a : α} {e : List Sl} {f : α → List Sl → Rs β} : Rs.bind (.ok a e) f = f a e := Eq.trans rfl rfl
theorem xb_ex {α β : Type} {x : Exn} {f : α → List Sl → Rs β} : Rs.bind (.ex x) f = .ex x := Eq.trans rfl rfl
theorem xr_ok {α : Type} {a : α} {e : List Sl} {k : α → List Sl → Ro} : Rs.ro (.ok a e) k = k a e := Eq.trans rfl rfl
theorem xr_ex {α : Type} {x : Exn} {k : α → List Sl → Ro} : Rs.ro (.ex x) k = .ex x := Eq.trans rfl rfl
theorem xs_nx {e : List Sl} {g : List Sl → Ro} : Ro.seq (.nx e) g = g e := Eq.trans rfl rfl
theorem xs_rt {d : D} {g : List Sl → Ro} : Ro.seq (.rt d) g = .rt d := Eq.trans rfl rfl
theorem xs_ex {x : Exn} {g : List Sl → Ro} : Ro.seq (.ex x) g = .ex x := Eq.trans rfl rfl
theorem xs_bk {e : List Sl} {g : List Sl → Ro} : Ro.seq (.bk e) g = .bk e := Eq.trans rfl rfl
theorem xs_ct {e : List Sl} {g : List Sl → Ro} : Ro.seq (.ct e) g = .ct e := Eq.trans rfl rfl
theorem xn_rt {d : D} : Ro.fn (.rt d) = .ok d := Eq.trans rfl rfl
theorem xn_nx {e : List Sl} : Ro.fn (.nx e) = .ok .non := Eq.trans rfl rfl
theorem xn_ex {x : Exn} : Ro.fn (.ex x) = .ex x := Eq.trans rfl rfl
theorem len_le {n : Nat} (h : n ≤ 4000) : n ≤ sizeLine := Nat.le_trans h (Nat.le_of_ble_eq_true rfl)
theorem len_lt {n : Nat} (h : n < 4000) : n < sizeLine := Nat.lt_of_lt_of_le h (Nat.le_of_ble_eq_true rfl)
theorem uSeq {f g : List Sl → Ro} {env : List Sl} : rSeq f g env = (f env).seq g := Eq.trans rfl rfl
def kRet  (r : Rs D) : Ro := r.ro fun d _ => .rt d
theorem uRet {f : List Sl → Rs D} {env : List Sl} : rRet f env = kRet  (f env) := Eq.trans rfl rfl
theorem vRet0  {d : D} {e : List Sl} : kRet  (.ok d e) = .rt d := Eq.trans rfl rfl
theorem vRet1  {x : Exn} : kRet  (.ex x) = .ex x := Eq.trans rfl rfl
theorem uRetN {env : List Sl} : rRetN env = .rt .non := Eq.trans rfl rfl
theorem uBad {env : List Sl} : rBad env = .bad := Eq.trans rfl rfl
theorem uRaise {x : Str} {env : List Sl} : rRaise x env = .ex ⟨x, []⟩ := Eq.trans rfl rfl
def kExpr  (r : Rs D) : Ro := r.ro fun _ e => .nx e
theorem uExpr {f : List Sl → Rs D} {env : List Sl} : rExpr f env = kExpr  (f env) := Eq.trans rfl rfl
theorem vExpr0  {d : D} {e : List Sl} : kExpr  (.ok d e) = .nx e := Eq.trans rfl rfl
theorem vExpr1  {x : Exn} : kExpr  (.ex x) = .ex x := Eq.trans rfl rfl
def kIf (f : List Sl → Ro) (g : List Sl → Ro) (r : Rs Bool) : Ro := r.ro fun k e => if k = true then f e else g e
theorem uIf {t : List Sl → Rs Bool} {f : List Sl → Ro} {g : List Sl → Ro} {env : List Sl} : rIf t f g env = kIf f g (t env) := Eq.trans rfl rfl
theorem vIf0 {f : List Sl → Ro} {g : List Sl → Ro} {e : List Sl} : kIf f g (.ok true e) = f e := Eq.trans rfl rfl
theorem vIf1 {f : List Sl → Ro} {g : List Sl → Ro} {e : List Sl} : kIf f g (.ok false e) = g e := Eq.trans rfl rfl
theorem vIf2 {f : List Sl → Ro} {g : List Sl → Ro} {x : Exn} : kIf f g (.ex x) = .ex x := Eq.trans rfl rfl
def kSet (i : Nat) (r : Rs D) : Ro := r.ro fun d e => .nx (e.set i (.im d))
theorem uSet {i : Nat} {f : List Sl → Rs D} {env : List Sl} : rSet i f env = kSet i (f env) := Eq.trans rfl rfl
theorem vSet0 {i : Nat} {d : D} {e : List Sl} : kSet i (.ok d e) = .nx (e.set i (.im d)) := Eq.trans rfl rfl
theorem vSet1 {i : Nat} {x : Exn} : kSet i (.ex x) = .ex x := Eq.trans rfl rfl
def kSetO (i : Nat) (r : Rs Ow) : Ro := r.ro fun d e => .nx (e.set i (.ow d))
theorem uSetO {i : Nat} {f : List Sl → Rs Ow} {env : List Sl} : rSetO i f env = kSetO i (f env) := Eq.trans rfl rfl
theorem vSetO0 {i : Nat} {d : Ow} {e : List Sl} : kSetO i (.ok d e) = .nx (e.set i (.ow d)) := Eq.trans rfl rfl
theorem vSetO1 {i : Nat} {x : Exn} : kSetO i (.ex x) = .ex x := Eq.trans rfl rfl
def kFor (g : D → List Sl → Option (List Sl)) (b : List Sl → Ro) (r : Rs (List D)) : Ro := r.ro fun ds e => forR g b ds e
theorem uFor {f : List Sl → Rs (List D)} {g : D → List Sl → Option (List Sl)} {b : List Sl → Ro} {env : List Sl} : rFor f g b env = kFor g b (f env) := Eq.trans rfl rfl
theorem vFor0 {g : D → List Sl → Option (List Sl)} {b : List Sl → Ro} {ds : List D} {e : List Sl} : kFor g b (.ok ds e) = forR g b ds e := Eq.trans rfl rfl
theorem vFor1 {g : D → List Sl → Option (List Sl)} {b : List Sl → Ro} {x : Exn} : kFor g b (.ex x) = .ex x := Eq.trans rfl rfl
def kOnly : Ro → Ro
  | .nx e => .nx e
  | _ => .bad
def kOnto (r : Ro) (h : List Sl → Ro) : Ro := match r with
  | .nx e => h e
  | _ => .bad
def kRob (r : Rs D) (k : D → List Sl → Ro) : Ro := match r with
  | .ok a e => k a e
  | _ => .bad
theorem xrob_ok {a : D} {e : List Sl} {k : D → List Sl → Ro} : kRob (.ok a e) k = k a e := Eq.trans rfl rfl
theorem xonto_ok {e : List Sl} {k : List Sl → Ro} : kOnto (.nx e) k = k e := Eq.trans rfl rfl
theorem xonly_ok {e : List Sl} : kOnly (.nx e) = .nx e := Eq.trans rfl rfl
def kAsgM (g : D → List Sl → Ro) (r : Rs D) : Ro := r.ro fun d e => kOnly (g d e)
theorem uAsgM {g : D → List Sl → Ro} {f : List Sl → Rs D} {env : List Sl} : rAsgM g f env = kAsgM g (f env) := by
  unfold rAsgM kAsgM
  cases f env <;> rfl
theorem vAsgM {g : D → List Sl → Ro} {d : D} {e : List Sl} : kAsgM g (.ok d e) = kOnly (g d e) := Eq.trans rfl rfl
theorem uGmT2 {h : List D → List Sl → Ro} {a b : D} {env : List Sl} : gmT 2 h (.tup [a, b]) env = h [a, b] env := Eq.trans rfl rfl
theorem uGmC {g : D → List Sl → Ro} {h : List D → List Sl → Ro} {d : D} {ds : List D} {env : List Sl} : gmC g h (d :: ds) env = kOnto (g d env) (h ds) := Eq.trans rfl rfl
theorem uGmN {env : List Sl} : gmN [] env = .nx env := Eq.trans rfl rfl
theorem uGOfN {i : Nat} {d : D} {env : List Sl} : gOf (gNm i) d env = .nx (env.set i (.im d)) := Eq.trans rfl rfl
theorem uNm {i : Nat} {d : D} {env : List Sl} : gNm i d env = some (env.set i (.im d)) := Eq.trans rfl rfl
theorem uTwo {i j : Nat} {a b : D} {env : List Sl} : gTu 2 (gsC (gNm i) (gsC (gNm j) gsN)) (.tup [a, b]) env = some ((env.set i (.im a)).set j (.im b)) := Eq.trans rfl rfl
theorem uThree {i j k : Nat} {a b c : D} {env : List Sl} : gTu 3 (gsC (gNm i) (gsC (gNm j) (gsC (gNm k) gsN))) (.tup [a, b, c]) env = some (((env.set i (.im a)).set j (.im b)).set k (.im c)) := Eq.trans rfl rfl
def kAsg (g : D → List Sl → Option (List Sl)) (r : Rs D) : Ro := r.ro fun d e => match g d e with | some e' => .nx e' | none => .bad
def kAsgZ (o : Option (List Sl)) : Ro := match o with | some e' => .nx e' | none => .bad
theorem uAsg {g : D → List Sl → Option (List Sl)} {f : List Sl → Rs D} {env : List Sl} : rAsg g f env = kAsg g (f env) := Eq.trans rfl rfl
theorem vAsg {g : D → List Sl → Option (List Sl)} {d : D} {e : List Sl} : kAsg g (.ok d e) = kAsgZ (g d e) := Eq.trans rfl rfl
theorem vAsgZ {e : List Sl} : kAsgZ (some e) = .nx e := Eq.trans rfl rfl
def kPar (i j : Nat) (r : Rs (List D)) : Ro := r.ro fun ds e => match ds with
  | [d, d2] => .nx ((e.set i (.im d)).set j (.im d2))
  | _ => .bad
theorem uPar {i j : Nat} {f : List Sl → Rs (List D)} {env : List Sl} : rPar i j f env = kPar i j (f env) := Eq.trans rfl rfl
theorem vPar {i j : Nat} {a b : D} {e : List Sl} : kPar i j (.ok [a, b] e) = .nx ((e.set i (.im a)).set j (.im b)) := Eq.trans rfl rfl
theorem uK {d : D} {env : List Sl} : vK d env = .ok d env := Eq.trans rfl rfl
theorem uYes {env : List Sl} : tYes' env = .ok true env := Eq.trans rfl rfl
theorem uPNo {env : List Sl} : pNo env = .ok none env := Eq.trans rfl rfl
theorem uNil {env : List Sl} : aNil env = .ok [] env := Eq.trans rfl rfl
theorem uIx {f g : List Sl → Rs D} {env : List Sl} : fIx f g env = f2 f g ixD env := Eq.trans rfl rfl
def k2b (c : D → D → Option D) (d : D) (r : Rs D) : Rs D := r.bind fun d2 e2 => Rs.opt (c d d2) e2
def k2 (g : List Sl → Rs D) (c : D → D → Option D) (r : Rs D) : Rs D := r.bind fun d e => k2b c d (g e)
theorem u2 {f : List Sl → Rs D} {g : List Sl → Rs D} {c : D → D → Option D} {env : List Sl} : f2 f g c env = k2 g c (f env) := Eq.trans rfl rfl
theorem v20 {g : List Sl → Rs D} {c : D → D → Option D} {d : D} {e : List Sl} : k2 g c (.ok d e) = k2b c d (g e) := Eq.trans rfl rfl
theorem v21 {g : List Sl → Rs D} {c : D → D → Option D} {x : Exn} : k2 g c (.ex x) = .ex x := Eq.trans rfl rfl
theorem v2b0 {c : D → D → Option D} {d d2 : D} {e : List Sl} : k2b c d (.ok d2 e) = Rs.opt (c d d2) e := Eq.trans rfl rfl
theorem v2b1 {c : D → D → Option D} {d : D} {x : Exn} : k2b c d (.ex x) = .ex x := Eq.trans rfl rfl
def kAsB  (r : Rs D) : Rs Bool := r.bind fun d e => Rs.opt d.asB e
theorem uAsB {f : List Sl → Rs D} {env : List Sl} : fAsB f env = kAsB  (f env) := Eq.trans rfl rfl
theorem vAsB0  {d : D} {e : List Sl} : kAsB  (.ok d e) = Rs.opt d.asB e := Eq.trans rfl rfl
theorem vAsB1  {x : Exn} : kAsB  (.ex x) = .ex x := Eq.trans rfl rfl
def kTru  (r : Rs D) : Rs Bool := r.bind fun d e => Rs.opt d.tru e
theorem uTru {f : List Sl → Rs D} {env : List Sl} : fTru f env = kTru  (f env) := Eq.trans rfl rfl
theorem vTru0  {d : D} {e : List Sl} : kTru  (.ok d e) = Rs.opt d.tru e := Eq.trans rfl rfl
theorem vTru1  {x : Exn} : kTru  (.ex x) = .ex x := Eq.trans rfl rfl
def kNot  (r : Rs D) : Rs D := r.bind fun d e => Rs.opt (d.asB.map fun b => .bl (!b)) e
theorem uNot {f : List Sl → Rs D} {env : List Sl} : fNot f env = kNot  (f env) := Eq.trans rfl rfl
theorem vNot0  {b : Bool} {e : List Sl} : kNot  (.ok (.bl b) e) = .ok (.bl (!b)) e := Eq.trans rfl rfl
theorem vNot1  {x : Exn} : kNot  (.ex x) = .ex x := Eq.trans rfl rfl
def kAnd (g : List Sl → Rs D) (r : Rs D) : Rs D := r.bind fun d e => (Rs.opt d.asB e).bind fun b e => if b = true then g e else .ok (.bl false) e
theorem uAnd {f : List Sl → Rs D} {g : List Sl → Rs D} {env : List Sl} : fAnd f g env = kAnd g (f env) := Eq.trans rfl rfl
theorem vAnd0 {g : List Sl → Rs D} {e : List Sl} : kAnd g (.ok (.bl true) e) = g e := Eq.trans rfl rfl
theorem vAnd1 {g : List Sl → Rs D} {e : List Sl} : kAnd g (.ok (.bl false) e) = .ok (.bl false) e := Eq.trans rfl rfl
theorem vAnd2 {g : List Sl → Rs D} {x : Exn} : kAnd g (.ex x) = .ex x := Eq.trans rfl rfl
def kOr (g : List Sl → Rs D) (r : Rs D) : Rs D := r.bind fun d e => (Rs.opt d.asB e).bind fun b e => if b = true then .ok (.bl true) e else g e
theorem uOr {f : List Sl → Rs D} {g : List Sl → Rs D} {env : List Sl} : fOr f g env = kOr g (f env) := Eq.trans rfl rfl
theorem vOr0 {g : List Sl → Rs D} {e : List Sl} : kOr g (.ok (.bl true) e) = .ok (.bl true) e := Eq.trans rfl rfl
theorem vOr1 {g : List Sl → Rs D} {e : List Sl} : kOr g (.ok (.bl false) e) = g e := Eq.trans rfl rfl
theorem vOr2 {g : List Sl → Rs D} {x : Exn} : kOr g (.ex x) = .ex x := Eq.trans rfl rfl
def kOrZ (g : List Sl → Rs D) (d : D) (e : List Sl) (o : Option Bool) : Rs D := (Rs.opt o e).bind fun b e => if b = true then .ok d e else g e
def kAndZ (g : List Sl → Rs D) (d : D) (e : List Sl) (o : Option Bool) : Rs D := (Rs.opt o e).bind fun b e => if b = true then g e else .ok d e
def kOrT (g : List Sl → Rs D) (r : Rs D) : Rs D := r.bind fun d e => kOrZ g d e d.tru
theorem uOrT {f : List Sl → Rs D} {g : List Sl → Rs D} {env : List Sl} : fOrT f g env = kOrT g (f env) := Eq.trans rfl rfl
theorem vOrT0 {g : List Sl → Rs D} {d : D} {e : List Sl} : kOrT g (.ok d e) = kOrZ g d e d.tru := Eq.trans rfl rfl
theorem vOrT1 {g : List Sl → Rs D} {x : Exn} : kOrT g (.ex x) = .ex x := Eq.trans rfl rfl
def kAndT (g : List Sl → Rs D) (r : Rs D) : Rs D := r.bind fun d e => kAndZ g d e d.tru
theorem uAndT {f : List Sl → Rs D} {g : List Sl → Rs D} {env : List Sl} : fAndT f g env = kAndT g (f env) := Eq.trans rfl rfl
theorem vAndT0 {g : List Sl → Rs D} {d : D} {e : List Sl} : kAndT g (.ok d e) = kAndZ g d e d.tru := Eq.trans rfl rfl
theorem vAndT1 {g : List Sl → Rs D} {x : Exn} : kAndT g (.ex x) = .ex x := Eq.trans rfl rfl
theorem vOrZ0 {g : List Sl → Rs D} {d : D} {e : List Sl} : kOrZ g d e (some true) = .ok d e := Eq.trans rfl rfl
theorem vOrZ1 {g : List Sl → Rs D} {d : D} {e : List Sl} : kOrZ g d e (some false) = g e := Eq.trans rfl rfl
theorem vAndZ0 {g : List Sl → Rs D} {d : D} {e : List Sl} : kAndZ g d e (some true) = g e := Eq.trans rfl rfl
theorem vAndZ1 {g : List Sl → Rs D} {d : D} {e : List Sl} : kAndZ g d e (some false) = .ok d e := Eq.trans rfl rfl
def kbNot  (r : Rs Bool) : Rs Bool := r.bind fun b e => .ok (!b) e
theorem ubNot {f : List Sl → Rs Bool} {env : List Sl} : bNot f env = kbNot  (f env) := Eq.trans rfl rfl
theorem vbNot0  {b : Bool} {e : List Sl} : kbNot  (.ok b e) = .ok (!b) e := Eq.trans rfl rfl
theorem vbNot1  {x : Exn} : kbNot  (.ex x) = .ex x := Eq.trans rfl rfl
def kbAnd (g : List Sl → Rs Bool) (r : Rs Bool) : Rs Bool := r.bind fun b e => if b = true then g e else .ok false e
theorem ubAnd {f : List Sl → Rs Bool} {g : List Sl → Rs Bool} {env : List Sl} : bAnd f g env = kbAnd g (f env) := Eq.trans rfl rfl
theorem vbAnd0 {g : List Sl → Rs Bool} {e : List Sl} : kbAnd g (.ok true e) = g e := Eq.trans rfl rfl
theorem vbAnd1 {g : List Sl → Rs Bool} {e : List Sl} : kbAnd g (.ok false e) = .ok false e := Eq.trans rfl rfl
theorem vbAnd2 {g : List Sl → Rs Bool} {x : Exn} : kbAnd g (.ex x) = .ex x := Eq.trans rfl rfl
def kbOr (g : List Sl → Rs Bool) (r : Rs Bool) : Rs Bool := r.bind fun b e => if b = true then .ok true e else g e
theorem ubOr {f : List Sl → Rs Bool} {g : List Sl → Rs Bool} {env : List Sl} : bOr f g env = kbOr g (f env) := Eq.trans rfl rfl
theorem vbOr0 {g : List Sl → Rs Bool} {e : List Sl} : kbOr g (.ok true e) = .ok true e := Eq.trans rfl rfl
theorem vbOr1 {g : List Sl → Rs Bool} {e : List Sl} : kbOr g (.ok false e) = g e := Eq.trans rfl rfl
theorem vbOr2 {g : List Sl → Rs Bool} {x : Exn} : kbOr g (.ex x) = .ex x := Eq.trans rfl rfl
def kIfE (f : List Sl → Rs D) (g : List Sl → Rs D) (r : Rs Bool) : Rs D := r.bind fun b e => if b = true then f e else g e
theorem uIfE {t : List Sl → Rs Bool} {f : List Sl → Rs D} {g : List Sl → Rs D} {env : List Sl} : fIf t f g env = kIfE f g (t env) := Eq.trans rfl rfl
theorem vIfE0 {f : List Sl → Rs D} {g : List Sl → Rs D} {e : List Sl} : kIfE f g (.ok true e) = f e := Eq.trans rfl rfl
theorem vIfE1 {f : List Sl → Rs D} {g : List Sl → Rs D} {e : List Sl} : kIfE f g (.ok false e) = g e := Eq.trans rfl rfl
theorem vIfE2 {f : List Sl → Rs D} {g : List Sl → Rs D} {x : Exn} : kIfE f g (.ex x) = .ex x := Eq.trans rfl rfl
def kCh4 (c2 : D → D → Option D) (d2 : D) (r : Rs D) : Rs D := r.bind fun d3 e => Rs.opt (c2 d2 d3) e
def kCh3 (h : List Sl → Rs D) (c2 : D → D → Option D) (d2 : D) (r : Rs D) : Rs D := r.bind fun b e => (Rs.opt b.asB e).bind fun k e => if k = true then kCh4 c2 d2 (h e) else .ok (.bl false) e
def kCh2 (h : List Sl → Rs D) (c1 c2 : D → D → Option D) (d : D) (r : Rs D) : Rs D := r.bind fun d2 e => kCh3 h c2 d2 (Rs.opt (c1 d d2) e)
def kCh (g h : List Sl → Rs D) (c1 c2 : D → D → Option D) (r : Rs D) : Rs D := r.bind fun d e => kCh2 h c1 c2 d (g e)
theorem uCh {f g h : List Sl → Rs D} {c1 c2 : D → D → Option D} {env : List Sl} : fChain f g h c1 c2 env = kCh g h c1 c2 (f env) := by
  unfold fChain kCh
  cases f env <;> first | rfl | skip
  rename_i x e
  show Rs.bind (g e) _ = kCh2 h c1 c2 x (g e)
  unfold kCh2
  cases g e <;> first | rfl | skip
  rename_i y e
  show Rs.bind (Rs.opt ((c1 x y).bind D.asB) e) _ = kCh3 h c2 y (Rs.opt (c1 x y) e)
  cases c1 x y <;> rfl
theorem vCh {g h : List Sl → Rs D} {c1 c2 : D → D → Option D} {d : D} {e : List Sl} : kCh g h c1 c2 (.ok d e) = kCh2 h c1 c2 d (g e) := Eq.trans rfl rfl
theorem vCh2 {h : List Sl → Rs D} {c1 c2 : D → D → Option D} {d d2 : D} {e : List Sl} : kCh2 h c1 c2 d (.ok d2 e) = kCh3 h c2 d2 (Rs.opt (c1 d d2) e) := Eq.trans rfl rfl
theorem vCh3t {h : List Sl → Rs D} {c2 : D → D → Option D} {d2 : D} {e : List Sl} : kCh3 h c2 d2 (.ok (.bl true) e) = kCh4 c2 d2 (h e) := Eq.trans rfl rfl
theorem vCh3f {h : List Sl → Rs D} {c2 : D → D → Option D} {d2 : D} {e : List Sl} : kCh3 h c2 d2 (.ok (.bl false) e) = .ok (.bl false) e := Eq.trans rfl rfl
theorem vCh4 {c2 : D → D → Option D} {d2 d3 : D} {e : List Sl} : kCh4 c2 d2 (.ok d3 e) = Rs.opt (c2 d2 d3) e := Eq.trans rfl rfl
def kCons2 (d : D) (r : Rs (List D)) : Rs (List D) := r.bind fun ds e => .ok (d :: ds) e
def kCons (g : List Sl → Rs (List D)) (r : Rs D) : Rs (List D) := r.bind fun d e => kCons2 d (g e)
theorem uCons {f : List Sl → Rs D} {g : List Sl → Rs (List D)} {env : List Sl} : fCons f g env = kCons g (f env) := Eq.trans rfl rfl
theorem vCons0 {g : List Sl → Rs (List D)} {d : D} {e : List Sl} : kCons g (.ok d e) = kCons2 d (g e) := Eq.trans rfl rfl
theorem vCons1 {g : List Sl → Rs (List D)} {x : Exn} : kCons g (.ex x) = .ex x := Eq.trans rfl rfl
theorem vCons2a {d : D} {ds : List D} {e : List Sl} : kCons2 d (.ok ds e) = .ok (d :: ds) e := Eq.trans rfl rfl
theorem vCons2b {d : D} {x : Exn} : kCons2 d (.ex x) = .ex x := Eq.trans rfl rfl
def kRs (e : List Sl) (r : Rf) : Rs D := r.rs e
theorem vRs0 {d : D} {e : List Sl} : kRs e (.ok d) = .ok d e := Eq.trans rfl rfl
theorem vRs1 {x : Exn} {e : List Sl} : kRs e (.ex x) = .ex x := Eq.trans rfl rfl
def kCall (n : Nat) (F : List D → Rf) (r : Rs (List D)) : Rs D := r.bind fun ds e => if ds.length = n then kRs e (F ds) else .bad
theorem uCall {n : Nat} {F : List D → Rf} {g : List Sl → Rs (List D)} {env : List Sl} : vCall n F g env = kCall n F (g env) := Eq.trans rfl rfl
theorem vCall0 {F : List D → Rf} {e : List Sl} : kCall 0 F (.ok [] e) = kRs e (F []) := Eq.trans rfl rfl
theorem vCall1 {F : List D → Rf} {d0 : D} {e : List Sl} : kCall 1 F (.ok [d0] e) = kRs e (F [d0]) := Eq.trans rfl rfl
theorem vCall2 {F : List D → Rf} {d0 d1 : D} {e : List Sl} : kCall 2 F (.ok [d0, d1] e) = kRs e (F [d0, d1]) := Eq.trans rfl rfl
theorem vCall3 {F : List D → Rf} {d0 d1 d2 : D} {e : List Sl} : kCall 3 F (.ok [d0, d1, d2] e) = kRs e (F [d0, d1, d2]) := Eq.trans rfl rfl
theorem vCall4 {F : List D → Rf} {d0 d1 d2 d3 : D} {e : List Sl} : kCall 4 F (.ok [d0, d1, d2, d3] e) = kRs e (F [d0, d1, d2, d3]) := Eq.trans rfl rfl
theorem vCall5 {F : List D → Rf} {d0 d1 d2 d3 d4 : D} {e : List Sl} : kCall 5 F (.ok [d0, d1, d2, d3, d4] e) = kRs e (F [d0, d1, d2, d3, d4]) := Eq.trans rfl rfl
theorem vCall6 {F : List D → Rf} {d0 d1 d2 d3 d4 d5 : D} {e : List Sl} : kCall 6 F (.ok [d0, d1, d2, d3, d4, d5] e) = kRs e (F [d0, d1, d2, d3, d4, d5]) := Eq.trans rfl rfl
theorem vCall7 {F : List D → Rf} {d0 d1 d2 d3 d4 d5 d6 : D} {e : List Sl} : kCall 7 F (.ok [d0, d1, d2, d3, d4, d5, d6] e) = kRs e (F [d0, d1, d2, d3, d4, d5, d6]) := Eq.trans rfl rfl
theorem vCall8 {F : List D → Rf} {d0 d1 d2 d3 d4 d5 d6 d7 : D} {e : List Sl} : kCall 8 F (.ok [d0, d1, d2, d3, d4, d5, d6, d7] e) = kRs e (F [d0, d1, d2, d3, d4, d5, d6, d7]) := Eq.trans rfl rfl
theorem vCallx {n : Nat} {F : List D → Rf} {x : Exn} : kCall n F (.ex x) = .ex x := Eq.trans rfl rfl
def kCB (C : List D → Option D) (r : Rs (List D)) : Rs D := r.bind fun ds e => Rs.opt (C ds) e
theorem uCB {g : List Sl → Rs (List D)} {C : List D → Option D} {env : List Sl} : fCB g C env = kCB C (g env) := Eq.trans rfl rfl
theorem vCB0 {C : List D → Option D} {ds : List D} {e : List Sl} : kCB C (.ok ds e) = Rs.opt (C ds) e := Eq.trans rfl rfl
theorem vCB1 {C : List D → Option D} {x : Exn} : kCB C (.ex x) = .ex x := Eq.trans rfl rfl
def kTup (r : Rs (List D)) : Rs D := r.bind fun ds e => if ds.length ≤ sizeLine then .ok (.tup ds) e else .bad
theorem uTup {f : List Sl → Rs (List D)} {env : List Sl} : fTup f env = kTup (f env) := Eq.trans rfl rfl
def kLst (r : Rs (List D)) : Rs Ow := r.bind fun ds e => if ds.length ≤ sizeLine then .ok (.l ds) e else .bad
theorem kTup_ok {ds : List D} {e : List Sl} (h : ds.length ≤ 4000) : kTup (.ok ds e) = .ok (.tup ds) e := if_pos (len_le h)
theorem kLst_ok {ds : List D} {e : List Sl} (h : ds.length ≤ 4000) : kLst (.ok ds e) = .ok (.l ds) e := if_pos (len_le h)
theorem uLst {f : List Sl → Rs (List D)} {env : List Sl} : fLst f env = kLst (f env) := Eq.trans rfl rfl
theorem vTup0 {e : List Sl} : kTup (.ok [] e) = .ok (.tup []) e := kTup_ok (Nat.le_of_ble_eq_true rfl)
theorem vLst0 {e : List Sl} : kLst (.ok [] e) = .ok (.l []) e := kLst_ok (Nat.le_of_ble_eq_true rfl)
theorem vTup1 {d0 : D} {e : List Sl} : kTup (.ok [d0] e) = .ok (.tup [d0]) e := kTup_ok (Nat.le_of_ble_eq_true rfl)
theorem vLst1 {d0 : D} {e : List Sl} : kLst (.ok [d0] e) = .ok (.l [d0]) e := kLst_ok (Nat.le_of_ble_eq_true rfl)
theorem vTup2 {d0 d1 : D} {e : List Sl} : kTup (.ok [d0, d1] e) = .ok (.tup [d0, d1]) e := kTup_ok (Nat.le_of_ble_eq_true rfl)
theorem vLst2 {d0 d1 : D} {e : List Sl} : kLst (.ok [d0, d1] e) = .ok (.l [d0, d1]) e := kLst_ok (Nat.le_of_ble_eq_true rfl)
theorem vTup3 {d0 d1 d2 : D} {e : List Sl} : kTup (.ok [d0, d1, d2] e) = .ok (.tup [d0, d1, d2]) e := kTup_ok (Nat.le_of_ble_eq_true rfl)
theorem vLst3 {d0 d1 d2 : D} {e : List Sl} : kLst (.ok [d0, d1, d2] e) = .ok (.l [d0, d1, d2]) e := kLst_ok (Nat.le_of_ble_eq_true rfl)
theorem vTup4 {d0 d1 d2 d3 : D} {e : List Sl} : kTup (.ok [d0, d1, d2, d3] e) = .ok (.tup [d0, d1, d2, d3]) e := kTup_ok (Nat.le_of_ble_eq_true rfl)
theorem vLst4 {d0 d1 d2 d3 : D} {e : List Sl} : kLst (.ok [d0, d1, d2, d3] e) = .ok (.l [d0, d1, d2, d3]) e := kLst_ok (Nat.le_of_ble_eq_true rfl)
theorem vTup5 {d0 d1 d2 d3 d4 : D} {e : List Sl} : kTup (.ok [d0, d1, d2, d3, d4] e) = .ok (.tup [d0, d1, d2, d3, d4]) e := kTup_ok (Nat.le_of_ble_eq_true rfl)
theorem vLst5 {d0 d1 d2 d3 d4 : D} {e : List Sl} : kLst (.ok [d0, d1, d2, d3, d4] e) = .ok (.l [d0, d1, d2, d3, d4]) e := kLst_ok (Nat.le_of_ble_eq_true rfl)
theorem vTup6 {d0 d1 d2 d3 d4 d5 : D} {e : List Sl} : kTup (.ok [d0, d1, d2, d3, d4, d5] e) = .ok (.tup [d0, d1, d2, d3, d4, d5]) e := kTup_ok (Nat.le_of_ble_eq_true rfl)
theorem vLst6 {d0 d1 d2 d3 d4 d5 : D} {e : List Sl} : kLst (.ok [d0, d1, d2, d3, d4, d5] e) = .ok (.l [d0, d1, d2, d3, d4, d5]) e := kLst_ok (Nat.le_of_ble_eq_true rfl)
theorem vTup7 {d0 d1 d2 d3 d4 d5 d6 : D} {e : List Sl} : kTup (.ok [d0, d1, d2, d3, d4, d5, d6] e) = .ok (.tup [d0, d1, d2, d3, d4, d5, d6]) e := kTup_ok (Nat.le_of_ble_eq_true rfl)
theorem vLst7 {d0 d1 d2 d3 d4 d5 d6 : D} {e : List Sl} : kLst (.ok [d0, d1, d2, d3, d4, d5, d6] e) = .ok (.l [d0, d1, d2, d3, d4, d5, d6]) e := kLst_ok (Nat.le_of_ble_eq_true rfl)
theorem vTup8 {d0 d1 d2 d3 d4 d5 d6 d7 : D} {e : List Sl} : kTup (.ok [d0, d1, d2, d3, d4, d5, d6, d7] e) = .ok (.tup [d0, d1, d2, d3, d4, d5, d6, d7]) e := kTup_ok (Nat.le_of_ble_eq_true rfl)
theorem vLst8 {d0 d1 d2 d3 d4 d5 d6 d7 : D} {e : List Sl} : kLst (.ok [d0, d1, d2, d3, d4, d5, d6, d7] e) = .ok (.l [d0, d1, d2, d3, d4, d5, d6, d7]) e := kLst_ok (Nat.le_of_ble_eq_true rfl)
theorem vTupx {x : Exn} : kTup (.ex x) = .ex x := Eq.trans rfl rfl
def kFrz  (r : Rs Ow) : Rs D := r.bind fun w e => match w with | .l xs => .ok (.lst xs) e | .d _ => .bad
theorem uFrz {f : List Sl → Rs Ow} {env : List Sl} : fFrz f env = kFrz  (f env) := Eq.trans rfl rfl
theorem vFrz0  {xs : List D} {e : List Sl} : kFrz  (.ok (.l xs) e) = .ok (.lst xs) e := Eq.trans rfl rfl
theorem vFrz1  {x : Exn} : kFrz  (.ex x) = .ex x := Eq.trans rfl rfl
def kOw (e : List Sl) (o : Option (List D)) : Rs Ow := Rs.opt (o.map Ow.l) e
theorem vOw {e : List Sl} {xs : List D} : kOw e (some xs) = .ok (.l xs) e := Eq.trans rfl rfl
def kN2b (c : D → D → Option (List D)) (d : D) (r : Rs D) : Rs Ow := r.bind fun d2 e2 => kOw e2 (c d d2)
def kN2 (g : List Sl → Rs D) (c : D → D → Option (List D)) (r : Rs D) : Rs Ow := r.bind fun d e => kN2b c d (g e)
theorem uN2 {f : List Sl → Rs D} {g : List Sl → Rs D} {c : D → D → Option (List D)} {env : List Sl} : fN2 f g c env = kN2 g c (f env) := Eq.trans rfl rfl
theorem vN20 {g : List Sl → Rs D} {c : D → D → Option (List D)} {d : D} {e : List Sl} : kN2 g c (.ok d e) = kN2b c d (g e) := Eq.trans rfl rfl
theorem vN21 {g : List Sl → Rs D} {c : D → D → Option (List D)} {x : Exn} : kN2 g c (.ex x) = .ex x := Eq.trans rfl rfl
theorem vN2b {c : D → D → Option (List D)} {d d2 : D} {e : List Sl} : kN2b c d (.ok d2 e) = kOw e (c d d2) := Eq.trans rfl rfl
def kItems  (r : Rs D) : Rs (List D) := r.bind fun d e => Rs.opt d.items e
theorem uItems {f : List Sl → Rs D} {env : List Sl} : fItems f env = kItems  (f env) := Eq.trans rfl rfl
theorem vItems0  {d : D} {e : List Sl} : kItems  (.ok d e) = Rs.opt d.items e := Eq.trans rfl rfl
theorem vItems1  {x : Exn} : kItems  (.ex x) = .ex x := Eq.trans rfl rfl
def kNeg  (r : Rs D) : Rs D := r.bind fun d e => match d with | .int i => .ok (.int (-i)) e | _ => .bad
theorem uNeg {f : List Sl → Rs D} {env : List Sl} : fNeg f env = kNeg  (f env) := Eq.trans rfl rfl
theorem vNeg0  {i : Int} {e : List Sl} : kNeg  (.ok (.int i) e) = .ok (.int (-i)) e := Eq.trans rfl rfl
theorem vNeg1  {x : Exn} : kNeg  (.ex x) = .ex x := Eq.trans rfl rfl
def kPart  (r : Rs D) : Rs (Option Int) := r.bind fun d e => match d with | .int i => .ok (some i) e | _ => .bad
theorem uPart {f : List Sl → Rs D} {env : List Sl} : fPart f env = kPart  (f env) := Eq.trans rfl rfl
theorem vPart0  {i : Int} {e : List Sl} : kPart  (.ok (.int i) e) = .ok (some i) e := Eq.trans rfl rfl
theorem vPart1  {x : Exn} : kPart  (.ex x) = .ex x := Eq.trans rfl rfl
def isiD (ts : List String) (d : D) : Option D := d.ty.map fun a => .bl (ts.any (isBT a))
def kOwnT (r : Rs D) : Rs Bool := r.bind fun d e => match d with | .int n => .ok (n != 0) e | _ => .bad
def kIsi (ts : List String) (r : Rs D) : Rs D := r.bind fun d e => Rs.opt (d.ty.map fun a => .bl (ts.any (isBT a))) e
theorem uIsi {f : List Sl → Rs D} {ts : List String} {env : List Sl} : fIsi f ts env = kIsi ts (f env) := Eq.trans rfl rfl
theorem vIsi0 {ts : List String} {d : D} {e : List Sl} : kIsi ts (.ok d e) = Rs.opt (isiD ts d) e := Eq.trans rfl rfl
theorem vIsi1 {ts : List String} {x : Exn} : kIsi ts (.ex x) = .ex x := Eq.trans rfl rfl
def kSl3 (d : D) (lo : Option Int) (r : Rs (Option Int)) : Rs D := r.bind fun hi e => Rs.opt (slD lo hi d) e
def kSl2 (h : List Sl → Rs (Option Int)) (d : D) (r : Rs (Option Int)) : Rs D := r.bind fun lo e => kSl3 d lo (h e)
def kSl (l h : List Sl → Rs (Option Int)) (r : Rs D) : Rs D := r.bind fun d e => kSl2 h d (l e)
theorem uSl {f : List Sl → Rs D} {l h : List Sl → Rs (Option Int)} {env : List Sl} : fSl f l h env = kSl l h (f env) := Eq.trans rfl rfl
theorem vSl {l h : List Sl → Rs (Option Int)} {d : D} {e : List Sl} : kSl l h (.ok d e) = kSl2 h d (l e) := Eq.trans rfl rfl
theorem vSl2 {h : List Sl → Rs (Option Int)} {d : D} {o : Option Int} {e : List Sl} : kSl2 h d (.ok o e) = kSl3 d o (h e) := Eq.trans rfl rfl
theorem vSl3 {d : D} {o p : Option Int} {e : List Sl} : kSl3 d o (.ok p e) = Rs.opt (slD o p d) e := Eq.trans rfl rfl
def kNl (r : Rs (List D)) : Rs Ow := r.bind fun ds e => match ds with
  | [.lst xs] => .ok (.l xs) e
  | [.tup xs] => .ok (.l xs) e
  | _ => .bad
theorem uNl {g : List Sl → Rs (List D)} {env : List Sl} : fNewL g env = kNl (g env) := Eq.trans rfl rfl
theorem vNl0 {xs : List D} {e : List Sl} : kNl (.ok [.lst xs] e) = .ok (.l xs) e := Eq.trans rfl rfl
theorem vNl1 {xs : List D} {e : List Sl} : kNl (.ok [.tup xs] e) = .ok (.l xs) e := Eq.trans rfl rfl
def kRev (r : Rs D) : Rs Ow := r.bind fun d e => match d with
  | .lst xs => .ok (.l xs.reverse) e
  | _ => .bad
theorem uRev {f : List Sl → Rs D} {env : List Sl} : fRev f env = kRev (f env) := Eq.trans rfl rfl
theorem vRev {xs : List D} {e : List Sl} : kRev (.ok (.lst xs) e) = .ok (.l xs.reverse) e := Eq.trans rfl rfl
def kW (c : List D → Option (List D)) (r : Rs (List D)) : Rs (List D) := r.bind fun ds e => Rs.opt (c ds) e
theorem uRng1 {g : List Sl → Rs (List D)} {env : List Sl} : wRng1 g env = kW rng1 (g env) := Eq.trans rfl rfl
theorem uRng2 {g : List Sl → Rs (List D)} {env : List Sl} : wRng2 g env = kW rng2 (g env) := Eq.trans rfl rfl
theorem uRng3 {g : List Sl → Rs (List D)} {env : List Sl} : wRng3 g env = kW rng3 (g env) := Eq.trans rfl rfl
theorem uEnum {g : List Sl → Rs (List D)} {env : List Sl} : wEnumA g env = kW enum0 (g env) := Eq.trans rfl rfl
theorem uZip {g : List Sl → Rs (List D)} {env : List Sl} : wZip g env = kW zip2 (g env) := Eq.trans rfl rfl
theorem vW {c : List D → Option (List D)} {ds : List D} {e : List Sl} : kW c (.ok ds e) = Rs.opt (c ds) e := Eq.trans rfl rfl
def kWRev (r : Rs D) : Rs (List D) := r.bind fun d e => Rs.opt (d.items.map List.reverse) e
theorem uWRev {f : List Sl → Rs D} {env : List Sl} : wRev f env = kWRev (f env) := Eq.trans rfl rfl
theorem vWRev {xs : List D} {e : List Sl} : kWRev (.ok (.lst xs) e) = .ok xs.reverse e := Eq.trans rfl rfl
theorem vWRevT {xs : List D} {e : List Sl} : kWRev (.ok (.tup xs) e) = .ok xs.reverse e := Eq.trans rfl rfl
def kLrg (r : Rs D) : Rs Ow := r.bind fun d e => match d with
  | .int b => if rgOkB 0 b = true then .ok (.l (rngL 0 b)) e else .bad
  | _ => .bad
theorem uLrg {f : List Sl → Rs D} {env : List Sl} : fLrg1 f env = kLrg (f env) := Eq.trans rfl rfl
theorem kLrg_if {b : Int} {c : Bool} {e : List Sl} (h : rgOkB 0 b = c) : kLrg (.ok (.int b) e) = if c = true then .ok (.l (rngL 0 b)) e else .bad := by subst h; rfl
theorem vLrg {n : Nat} {e : List Sl} (h : n ≤ 4000) : kLrg (.ok (.int (n : Int)) e) = .ok (.l ((List.range n).map fun (i : Nat) => D.int (i : Int))) e := by
  have q : rgOkB 0 (n : Int) = true := by
    simp only [rgOkB, decide_eq_true_eq]
    omega
  have r : rngL 0 (n : Int) = (List.range n).map fun (i : Nat) => D.int (i : Int) := by
    unfold rngL
    rw [show ((n : Int) - 0).toNat = n by omega]
    exact List.map_congr_left fun i hi => by rw [Int.zero_add]
  rw [kLrg_if q, r]
  rfl
/-- what a comprehension has gathered -/
def lcK (o : Option (List D)) (e : List Sl) : Rs Ow := match o with
  | some xs => if xs.length ≤ sizeLine then .ok (.l xs) e else .bad
  | none => .bad
def kLc (g : D → List Sl → Option (List Sl)) (t : List Sl → Rs Bool) (el : List Sl → Rs D) (own : List Nat) (r : Rs (List D)) : Rs Ow := r.bind fun ds e => lcK (turnsD g t el (hideE own e) ds) e
theorem uLc {f : List Sl → Rs (List D)} {g : D → List Sl → Option (List Sl)} {t : List Sl → Rs Bool} {el : List Sl → Rs D} {own : List Nat} {env : List Sl} : fLc f g t el own env = kLc g t el own (f env) := Eq.trans rfl rfl
theorem vLc {g : D → List Sl → Option (List Sl)} {t : List Sl → Rs Bool} {el : List Sl → Rs D} {own : List Nat} {ds : List D} {e : List Sl} : kLc g t el own (.ok ds e) = lcK (turnsD g t el (hideE own e) ds) e := Eq.trans rfl rfl
theorem vLcK {xs : List D} {e : List Sl} (h : xs.length ≤ 4000) : lcK (some xs) e = .ok (.l xs) e := if_pos (len_le h)
def kLc2 (g : D → List Sl → Option (List Sl)) (t : List Sl → Rs Bool) (f1 : List Sl → Rs (List D)) (g1 : D → List Sl → Option (List Sl)) (t1 : List Sl → Rs Bool) (el : List Sl → Rs D) (own vs1 : List Nat) (r : Rs (List D)) : Rs Ow := r.bind fun ds e => lcK (turns2 g t f1 g1 t1 el vs1 (hideE own e) ds) e
theorem uLc2 {f : List Sl → Rs (List D)} {g : D → List Sl → Option (List Sl)} {t : List Sl → Rs Bool} {f1 : List Sl → Rs (List D)} {g1 : D → List Sl → Option (List Sl)} {t1 : List Sl → Rs Bool} {el : List Sl → Rs D} {own vs1 : List Nat} {env : List Sl} :
    fLc2 f g t f1 g1 t1 el own vs1 env = kLc2 g t f1 g1 t1 el own vs1 (f env) := Eq.trans rfl rfl
theorem vLc2 {g : D → List Sl → Option (List Sl)} {t : List Sl → Rs Bool} {f1 : List Sl → Rs (List D)} {g1 : D → List Sl → Option (List Sl)} {t1 : List Sl → Rs Bool} {el : List Sl → Rs D} {own vs1 : List Nat} {ds : List D} {e : List Sl} :
    kLc2 g t f1 g1 t1 el own vs1 (.ok ds e) = lcK (turns2 g t f1 g1 t1 el vs1 (hideE own e) ds) e := Eq.trans rfl rfl
def gxK (res : List D → Option D) (e : List Sl) (o : Option (List D)) : Rs D := Rs.opt (o.bind res) e
def kGx (g : D → List Sl → Option (List Sl)) (t : List Sl → Rs Bool) (el : List Sl → Rs D) (own : List Nat) (res : List D → Option D) (r : Rs (List D)) : Rs D := r.bind fun ds e => gxK res e (turnsD g t el (hideE own e) ds)
theorem uGx {f : List Sl → Rs (List D)} {g : D → List Sl → Option (List Sl)} {t : List Sl → Rs Bool} {el : List Sl → Rs D} {own : List Nat} {res : List D → Option D} {env : List Sl} : fGx f g t el own res env = kGx g t el own res (f env) := Eq.trans rfl rfl
theorem vGx {g : D → List Sl → Option (List Sl)} {t : List Sl → Rs Bool} {el : List Sl → Rs D} {own : List Nat} {res : List D → Option D} {ds : List D} {e : List Sl} : kGx g t el own res (.ok ds e) = gxK res e (turnsD g t el (hideE own e) ds) := Eq.trans rfl rfl
theorem vGxK {res : List D → Option D} {e : List Sl} {zs : List D} : gxK res e (some zs) = Rs.opt (res zs) e := Eq.trans rfl rfl
/-- one turn of it, in steps -/
def elK (r : Rs D) : Option (Option D) := match r with
  | .ok x _ => some (some x)
  | _ => none
def tsK (r : Rs Bool) (el : List Sl → Rs D) : Option (Option D) := match r with
  | .ok b e2 => if b = true then elK (el e2) else some none
  | _ => none
def tgK (r : Option (List Sl)) (t : List Sl → Rs Bool) (el : List Sl → Rs D) : Option (Option D) := match r with
  | none => none
  | some e1 => tsK (t e1) el
theorem uTurn {g : D → List Sl → Option (List Sl)} {t : List Sl → Rs Bool} {el : List Sl → Rs D} {e0 : List Sl} {d : D} : turnD g t el e0 d = tgK (g d e0) t el := by
  unfold turnD
  cases g d e0 <;> rfl
theorem vTg {e1 : List Sl} {t : List Sl → Rs Bool} {el : List Sl → Rs D} : tgK (some e1) t el = tsK (t e1) el := Eq.trans rfl rfl
theorem vTsT {e2 : List Sl} {el : List Sl → Rs D} : tsK (.ok true e2) el = elK (el e2) := Eq.trans rfl rfl
theorem vTsF {e2 : List Sl} {el : List Sl → Rs D} : tsK (.ok false e2) el = some none := Eq.trans rfl rfl
theorem vEl {x : D} {e : List Sl} : elK (.ok x e) = some (some x) := Eq.trans rfl rfl
theorem uOwnT {i : Nat} {env : List Sl} : ownTru i env = kOwnT (ownLen i env) := Eq.trans rfl rfl
theorem vOwnT {n : Int} {e : List Sl} : kOwnT (.ok (.int n) e) = .ok (n != 0) e := Eq.trans rfl rfl
/-! what comes of a slot -/
def appK (i : Nat) (d : D) (e : List Sl) : Rs D := match e[i]? with
  | some (.ow (.l xs)) => if xs.length < sizeLine then .ok .non (e.set i (.ow (.l (xs ++ [d])))) else .bad
  | _ => .bad
def extK (i : Nat) (d : D) (e : List Sl) : Rs D := match e[i]?, d with
  | some (.ow (.l xs)), .lst ys => if xs.length + ys.length ≤ sizeLine then .ok .non (e.set i (.ow (.l (xs ++ ys)))) else .bad
  | some (.ow (.l xs)), .tup ys => if xs.length + ys.length ≤ sizeLine then .ok .non (e.set i (.ow (.l (xs ++ ys)))) else .bad
  | _, _ => .bad
def ixK (i : Nat) (k : D) (e : List Sl) : Rs D := match e[i]? with
  | some (.im (.lst xs)) => Rs.opt (ixD (.lst xs) k) e
  | some (.im (.tup xs)) => Rs.opt (ixD (.tup xs) k) e
  | some (.im (.scr xs)) => Rs.opt (ixD (.scr xs) k) e
  | some (.ow (.l xs)) => Rs.opt (ixD (.lst xs) k) e
  | _ => .bad
def augM (i : Nat) (c : D → D → Option D) (j : Int) (a b : D) (e : List Sl) : Ro := match e[i]?, c a b with
  | some (.ow (.l ys)), some z => if j < ys.length then .nx (e.set i (.ow (.l (ys.set j.toNat z)))) else .bad
  | _, _ => .bad
def augZ (i : Nat) (j : Int) (e : List Sl) (o : Option D) : Ro := match e[i]?, o with
  | some (.ow (.l ys)), some z => if j < ys.length then .nx (e.set i (.ow (.l (ys.set j.toNat z)))) else .bad
  | _, _ => .bad
def augK (i : Nat) (g : List Sl → Rs D) (c : D → D → Option D) (k : D) (e : List Sl) : Ro := match e[i]?, k with
  | some (.ow (.l xs)), .int j => if 0 ≤ j then match xs[j.toNat]? with
      | some a => (g e).ro (augM i c j a)
      | none => .bad
    else .bad
  | _, _ => .bad
theorem augK_ok {i : Nat} {g : List Sl → Rs D} {c : D → D → Option D} {j : Int} {e : List Sl} {xs : List D} (h : e[i]? = some (.ow (.l xs))) (h0 : 0 ≤ j) (h1 : j < (xs.length : Int)) : augK i g c (.int j) e = (g e).ro (augM i c j (xs.getD j.toNat .non)) := by
  unfold augK
  rw [h]
  show (if 0 ≤ j then match xs[j.toNat]? with | some a => _ | none => _ else _) = _
  rw [if_pos h0, List.getD_eq_getElem?_getD, List.getElem?_eq_getElem (by omega)]
  rfl
theorem augM_ok {i : Nat} {c : D → D → Option D} {j : Int} {a b : D} {e : List Sl} : augM i c j a b e = augZ i j e (c a b) := Eq.trans rfl rfl
theorem augZ_ok {i : Nat} {j : Int} {z : D} {e : List Sl} {ys : List D} (h : e[i]? = some (.ow (.l ys))) (h1 : j < (ys.length : Int)) : augZ i j e (some z) = .nx (e.set i (.ow (.l (ys.set j.toNat z)))) := by
  unfold augZ
  rw [h]
  exact if_pos h1
def gItK (i : Nat) (d : D) (k : D) (e : List Sl) : Ro := match e[i]?, k with
  | some (.ow (.l ys)), .int j => if 0 ≤ j ∧ j < ys.length then .nx (e.set i (.ow (.l (ys.set j.toNat d)))) else .bad
  | _, _ => .bad
theorem gIt_ok {i : Nat} {f : List Sl → Rs D} {d : D} {env : List Sl} {xs : List D} (h : env[i]? = some (.ow (.l xs))) : gIt i f d env = kRob (f env) (gItK i d) := by
  unfold gIt pkN
  rw [h]
  rfl
def agZ (i : Nat) (e : List Sl) (o : Option D) : Ro := match o with
  | some z => .nx (e.set i (.im z))
  | none => .bad
def agK (i : Nat) (c : D → D → Option D) (x : D) (d : D) (e : List Sl) : Ro := agZ i e (c x d)
theorem vAgK {i : Nat} {c : D → D → Option D} {x d : D} {e : List Sl} : agK i c x d e = agZ i e (c x d) := Eq.trans rfl rfl
theorem vAgZ {i : Nat} {z : D} {e : List Sl} : agZ i e (some z) = .nx (e.set i (.im z)) := Eq.trans rfl rfl
theorem fAug_ok {i : Nat} {f : List Sl → Rs D} {c : D → D → Option D} {env : List Sl} {x : D} (h : env[i]? = some (.im x)) : fAug i f c env = (f env).ro (agK i c x) := by
  unfold fAug
  rw [h]
  rfl
theorem vAugM {i : Nat} {c : D → D → Option D} {j : Int} {a b : D} {e : List Sl} : augM i c j a b e = augZ i j e (c a b) := augM_ok
theorem ri0 {dd : D} {l : List Sl} : rdN 0 (.im dd :: l) = .ok dd (.im dd :: l) := Eq.trans rfl rfl
theorem ro0 {xs : List D} {l : List Sl} : rdN 0 (.ow (.l xs) :: l) = .ok (.lst xs) (.im (.lst xs) :: l) := Eq.trans rfl rfl
theorem rs0 {z x : Sl} {l : List Sl} : (z :: l).set 0 x = x :: l := Eq.trans rfl rfl
theorem ap0 {f : List Sl → Rs D} {xs : List D} {l : List Sl} : fApp 0 f (.ow (.l xs) :: l) = (f (.ow (.l xs) :: l)).bind (appK 0) := Eq.trans rfl rfl
theorem aq0 {dd : D} {xs : List D} {l : List Sl} (h : xs.length < 4000) : appK 0 dd (.ow (.l xs) :: l) = .ok .non (.ow (.l (xs ++ [dd])) :: l) := if_pos (len_lt h)
theorem ix0 {g : List Sl → Rs D} {dd : D} {l : List Sl} : fIxN 0 g (.im dd :: l) = (g (.im dd :: l)).bind (ixK 0) := Eq.trans rfl rfl
theorem iy0 {g : List Sl → Rs D} {w : Ow} {l : List Sl} : fIxN 0 g (.ow w :: l) = (g (.ow w :: l)).bind (ixK 0) := Eq.trans rfl rfl
theorem iz0 {k : D} {xs : List D} {l : List Sl} : ixK 0 k (.im (.lst xs) :: l) = Rs.opt (ixD (.lst xs) k) (.im (.lst xs) :: l) := Eq.trans rfl rfl
theorem it0 {k : D} {xs : List D} {l : List Sl} : ixK 0 k (.im (.tup xs) :: l) = Rs.opt (ixD (.tup xs) k) (.im (.tup xs) :: l) := Eq.trans rfl rfl
theorem iw0 {k : D} {xs : List D} {l : List Sl} : ixK 0 k (.ow (.l xs) :: l) = Rs.opt (ixD (.lst xs) k) (.ow (.l xs) :: l) := Eq.trans rfl rfl
theorem ol0 {xs : List D} {l : List Sl} : ownLen 0 (.ow (.l xs) :: l) = .ok (.int xs.length) (.ow (.l xs) :: l) := Eq.trans rfl rfl
theorem om0 {xs : List D} {l : List Sl} : ownLen 0 (.im (.lst xs) :: l) = .ok (.int xs.length) (.im (.lst xs) :: l) := Eq.trans rfl rfl
theorem on0 {xs : List D} {l : List Sl} : ownLen 0 (.im (.tup xs) :: l) = .ok (.int xs.length) (.im (.tup xs) :: l) := Eq.trans rfl rfl
theorem au0 {f g : List Sl → Rs D} {c : D → D → Option D} {xs : List D} {l : List Sl} : augItem 0 f g c (.ow (.l xs) :: l) = (f (.ow (.l xs) :: l)).ro (augK 0 g c) := Eq.trans rfl rfl
theorem av0 {g : List Sl → Rs D} {c : D → D → Option D} {j : Int} {xs : List D} {l : List Sl} (h0 : 0 ≤ j) (h1 : j < (xs.length : Int)) : augK 0 g c (.int j) (.ow (.l xs) :: l) = (g (.ow (.l xs) :: l)).ro (augM 0 c j (xs.getD j.toNat .non)) := augK_ok rfl h0 h1
theorem aw0 {j : Int} {z : D} {xs : List D} {l : List Sl} (h1 : j < (xs.length : Int)) : augZ 0 j (.ow (.l xs) :: l) (some z) = .nx (.ow (.l (xs.set j.toNat z)) :: l) := augZ_ok rfl h1
theorem gi0 {f : List Sl → Rs D} {dd : D} {xs : List D} {l : List Sl} : gIt 0 f dd (.ow (.l xs) :: l) = kRob (f (.ow (.l xs) :: l)) (gItK 0 dd) := gIt_ok rfl
theorem gj0 {j : Int} {dd : D} {xs : List D} {l : List Sl} (h0 : 0 ≤ j) (h1 : j < (xs.length : Int)) : gItK 0 dd (.int j) (.ow (.l xs) :: l) = .nx (.ow (.l (xs.set j.toNat dd)) :: l) := if_pos ⟨h0, h1⟩
theorem ag0 {f : List Sl → Rs D} {c : D → D → Option D} {x : D} {l : List Sl} : fAug 0 f c (.im x :: l) = (f (.im x :: l)).ro (agK 0 c x) := fAug_ok rfl
theorem xe0 {f : List Sl → Rs D} {xs : List D} {l : List Sl} : fExt 0 f (.ow (.l xs) :: l) = (f (.ow (.l xs) :: l)).bind (extK 0) := Eq.trans rfl rfl
theorem xh0 {xs ys : List D} {l : List Sl} (h : xs.length + ys.length ≤ 4000) : extK 0 (.lst ys) (.ow (.l xs) :: l) = .ok .non (.ow (.l (xs ++ ys)) :: l) := if_pos (len_le h)
theorem fz0 {xs : List D} {l : List Sl} : frzE 0 (.ow (.l xs) :: l) = .im (.lst xs) :: l := Eq.trans rfl rfl
theorem fy0 {dd : D} {l : List Sl} : frzE 0 (.im dd :: l) = .im dd :: l := Eq.trans rfl rfl
theorem ri1 {a0 : Sl} {dd : D} {l : List Sl} : rdN 1 (a0 :: .im dd :: l) = .ok dd (a0 :: .im dd :: l) := Eq.trans rfl rfl
theorem ro1 {a0 : Sl} {xs : List D} {l : List Sl} : rdN 1 (a0 :: .ow (.l xs) :: l) = .ok (.lst xs) (a0 :: .im (.lst xs) :: l) := Eq.trans rfl rfl
theorem rs1 {a0 : Sl} {z x : Sl} {l : List Sl} : (a0 :: z :: l).set 1 x = a0 :: x :: l := Eq.trans rfl rfl
theorem ap1 {a0 : Sl} {f : List Sl → Rs D} {xs : List D} {l : List Sl} : fApp 1 f (a0 :: .ow (.l xs) :: l) = (f (a0 :: .ow (.l xs) :: l)).bind (appK 1) := Eq.trans rfl rfl
theorem aq1 {a0 : Sl} {dd : D} {xs : List D} {l : List Sl} (h : xs.length < 4000) : appK 1 dd (a0 :: .ow (.l xs) :: l) = .ok .non (a0 :: .ow (.l (xs ++ [dd])) :: l) := if_pos (len_lt h)
theorem ix1 {a0 : Sl} {g : List Sl → Rs D} {dd : D} {l : List Sl} : fIxN 1 g (a0 :: .im dd :: l) = (g (a0 :: .im dd :: l)).bind (ixK 1) := Eq.trans rfl rfl
theorem iy1 {a0 : Sl} {g : List Sl → Rs D} {w : Ow} {l : List Sl} : fIxN 1 g (a0 :: .ow w :: l) = (g (a0 :: .ow w :: l)).bind (ixK 1) := Eq.trans rfl rfl
theorem iz1 {a0 : Sl} {k : D} {xs : List D} {l : List Sl} : ixK 1 k (a0 :: .im (.lst xs) :: l) = Rs.opt (ixD (.lst xs) k) (a0 :: .im (.lst xs) :: l) := Eq.trans rfl rfl
theorem it1 {a0 : Sl} {k : D} {xs : List D} {l : List Sl} : ixK 1 k (a0 :: .im (.tup xs) :: l) = Rs.opt (ixD (.tup xs) k) (a0 :: .im (.tup xs) :: l) := Eq.trans rfl rfl
theorem iw1 {a0 : Sl} {k : D} {xs : List D} {l : List Sl} : ixK 1 k (a0 :: .ow (.l xs) :: l) = Rs.opt (ixD (.lst xs) k) (a0 :: .ow (.l xs) :: l) := Eq.trans rfl rfl
theorem ol1 {a0 : Sl} {xs : List D} {l : List Sl} : ownLen 1 (a0 :: .ow (.l xs) :: l) = .ok (.int xs.length) (a0 :: .ow (.l xs) :: l) := Eq.trans rfl rfl
theorem om1 {a0 : Sl} {xs : List D} {l : List Sl} : ownLen 1 (a0 :: .im (.lst xs) :: l) = .ok (.int xs.length) (a0 :: .im (.lst xs) :: l) := Eq.trans rfl rfl
theorem on1 {a0 : Sl} {xs : List D} {l : List Sl} : ownLen 1 (a0 :: .im (.tup xs) :: l) = .ok (.int xs.length) (a0 :: .im (.tup xs) :: l) := Eq.trans rfl rfl
theorem au1 {a0 : Sl} {f g : List Sl → Rs D} {c : D → D → Option D} {xs : List D} {l : List Sl} : augItem 1 f g c (a0 :: .ow (.l xs) :: l) = (f (a0 :: .ow (.l xs) :: l)).ro (augK 1 g c) := Eq.trans rfl rfl
theorem av1 {a0 : Sl} {g : List Sl → Rs D} {c : D → D → Option D} {j : Int} {xs : List D} {l : List Sl} (h0 : 0 ≤ j) (h1 : j < (xs.length : Int)) : augK 1 g c (.int j) (a0 :: .ow (.l xs) :: l) = (g (a0 :: .ow (.l xs) :: l)).ro (augM 1 c j (xs.getD j.toNat .non)) := augK_ok rfl h0 h1
theorem aw1 {a0 : Sl} {j : Int} {z : D} {xs : List D} {l : List Sl} (h1 : j < (xs.length : Int)) : augZ 1 j (a0 :: .ow (.l xs) :: l) (some z) = .nx (a0 :: .ow (.l (xs.set j.toNat z)) :: l) := augZ_ok rfl h1
theorem gi1 {a0 : Sl} {f : List Sl → Rs D} {dd : D} {xs : List D} {l : List Sl} : gIt 1 f dd (a0 :: .ow (.l xs) :: l) = kRob (f (a0 :: .ow (.l xs) :: l)) (gItK 1 dd) := gIt_ok rfl
theorem gj1 {a0 : Sl} {j : Int} {dd : D} {xs : List D} {l : List Sl} (h0 : 0 ≤ j) (h1 : j < (xs.length : Int)) : gItK 1 dd (.int j) (a0 :: .ow (.l xs) :: l) = .nx (a0 :: .ow (.l (xs.set j.toNat dd)) :: l) := if_pos ⟨h0, h1⟩
theorem ag1 {a0 : Sl} {f : List Sl → Rs D} {c : D → D → Option D} {x : D} {l : List Sl} : fAug 1 f c (a0 :: .im x :: l) = (f (a0 :: .im x :: l)).ro (agK 1 c x) := fAug_ok rfl
theorem xe1 {a0 : Sl} {f : List Sl → Rs D} {xs : List D} {l : List Sl} : fExt 1 f (a0 :: .ow (.l xs) :: l) = (f (a0 :: .ow (.l xs) :: l)).bind (extK 1) := Eq.trans rfl rfl
theorem xh1 {a0 : Sl} {xs ys : List D} {l : List Sl} (h : xs.length + ys.length ≤ 4000) : extK 1 (.lst ys) (a0 :: .ow (.l xs) :: l) = .ok .non (a0 :: .ow (.l (xs ++ ys)) :: l) := if_pos (len_le h)
theorem fz1 {a0 : Sl} {xs : List D} {l : List Sl} : frzE 1 (a0 :: .ow (.l xs) :: l) = a0 :: .im (.lst xs) :: l := Eq.trans rfl rfl
theorem fy1 {a0 : Sl} {dd : D} {l : List Sl} : frzE 1 (a0 :: .im dd :: l) = a0 :: .im dd :: l := Eq.trans rfl rfl
theorem ri2 {a0 a1 : Sl} {dd : D} {l : List Sl} : rdN 2 (a0 :: a1 :: .im dd :: l) = .ok dd (a0 :: a1 :: .im dd :: l) := Eq.trans rfl rfl
theorem ro2 {a0 a1 : Sl} {xs : List D} {l : List Sl} : rdN 2 (a0 :: a1 :: .ow (.l xs) :: l) = .ok (.lst xs) (a0 :: a1 :: .im (.lst xs) :: l) := Eq.trans rfl rfl
theorem rs2 {a0 a1 : Sl} {z x : Sl} {l : List Sl} : (a0 :: a1 :: z :: l).set 2 x = a0 :: a1 :: x :: l := Eq.trans rfl rfl
theorem ap2 {a0 a1 : Sl} {f : List Sl → Rs D} {xs : List D} {l : List Sl} : fApp 2 f (a0 :: a1 :: .ow (.l xs) :: l) = (f (a0 :: a1 :: .ow (.l xs) :: l)).bind (appK 2) := Eq.trans rfl rfl
theorem aq2 {a0 a1 : Sl} {dd : D} {xs : List D} {l : List Sl} (h : xs.length < 4000) : appK 2 dd (a0 :: a1 :: .ow (.l xs) :: l) = .ok .non (a0 :: a1 :: .ow (.l (xs ++ [dd])) :: l) := if_pos (len_lt h)
theorem ix2 {a0 a1 : Sl} {g : List Sl → Rs D} {dd : D} {l : List Sl} : fIxN 2 g (a0 :: a1 :: .im dd :: l) = (g (a0 :: a1 :: .im dd :: l)).bind (ixK 2) := Eq.trans rfl rfl
theorem iy2 {a0 a1 : Sl} {g : List Sl → Rs D} {w : Ow} {l : List Sl} : fIxN 2 g (a0 :: a1 :: .ow w :: l) = (g (a0 :: a1 :: .ow w :: l)).bind (ixK 2) := Eq.trans rfl rfl
theorem iz2 {a0 a1 : Sl} {k : D} {xs : List D} {l : List Sl} : ixK 2 k (a0 :: a1 :: .im (.lst xs) :: l) = Rs.opt (ixD (.lst xs) k) (a0 :: a1 :: .im (.lst xs) :: l) := Eq.trans rfl rfl
theorem it2 {a0 a1 : Sl} {k : D} {xs : List D} {l : List Sl} : ixK 2 k (a0 :: a1 :: .im (.tup xs) :: l) = Rs.opt (ixD (.tup xs) k) (a0 :: a1 :: .im (.tup xs) :: l) := Eq.trans rfl rfl
theorem iw2 {a0 a1 : Sl} {k : D} {xs : List D} {l : List Sl} : ixK 2 k (a0 :: a1 :: .ow (.l xs) :: l) = Rs.opt (ixD (.lst xs) k) (a0 :: a1 :: .ow (.l xs) :: l) := Eq.trans rfl rfl
theorem ol2 {a0 a1 : Sl} {xs : List D} {l : List Sl} : ownLen 2 (a0 :: a1 :: .ow (.l xs) :: l) = .ok (.int xs.length) (a0 :: a1 :: .ow (.l xs) :: l) := Eq.trans rfl rfl
theorem om2 {a0 a1 : Sl} {xs : List D} {l : List Sl} : ownLen 2 (a0 :: a1 :: .im (.lst xs) :: l) = .ok (.int xs.length) (a0 :: a1 :: .im (.lst xs) :: l) := Eq.trans rfl rfl
theorem on2 {a0 a1 : Sl} {xs : List D} {l : List Sl} : ownLen 2 (a0 :: a1 :: .im (.tup xs) :: l) = .ok (.int xs.length) (a0 :: a1 :: .im (.tup xs) :: l) := Eq.trans rfl rfl
theorem au2 {a0 a1 : Sl} {f g : List Sl → Rs D} {c : D → D → Option D} {xs : List D} {l : List Sl} : augItem 2 f g c (a0 :: a1 :: .ow (.l xs) :: l) = (f (a0 :: a1 :: .ow (.l xs) :: l)).ro (augK 2 g c) := Eq.trans rfl rfl
theorem av2 {a0 a1 : Sl} {g : List Sl → Rs D} {c : D → D → Option D} {j : Int} {xs : List D} {l : List Sl} (h0 : 0 ≤ j) (h1 : j < (xs.length : Int)) : augK 2 g c (.int j) (a0 :: a1 :: .ow (.l xs) :: l) = (g (a0 :: a1 :: .ow (.l xs) :: l)).ro (augM 2 c j (xs.getD j.toNat .non)) := augK_ok rfl h0 h1
theorem aw2 {a0 a1 : Sl} {j : Int} {z : D} {xs : List D} {l : List Sl} (h1 : j < (xs.length : Int)) : augZ 2 j (a0 :: a1 :: .ow (.l xs) :: l) (some z) = .nx (a0 :: a1 :: .ow (.l (xs.set j.toNat z)) :: l) := augZ_ok rfl h1
theorem gi2 {a0 a1 : Sl} {f : List Sl → Rs D} {dd : D} {xs : List D} {l : List Sl} : gIt 2 f dd (a0 :: a1 :: .ow (.l xs) :: l) = kRob (f (a0 :: a1 :: .ow (.l xs) :: l)) (gItK 2 dd) := gIt_ok rfl
theorem gj2 {a0 a1 : Sl} {j : Int} {dd : D} {xs : List D} {l : List Sl} (h0 : 0 ≤ j) (h1 : j < (xs.length : Int)) : gItK 2 dd (.int j) (a0 :: a1 :: .ow (.l xs) :: l) = .nx (a0 :: a1 :: .ow (.l (xs.set j.toNat dd)) :: l) := if_pos ⟨h0, h1⟩
theorem ag2 {a0 a1 : Sl} {f : List Sl → Rs D} {c : D → D → Option D} {x : D} {l : List Sl} : fAug 2 f c (a0 :: a1 :: .im x :: l) = (f (a0 :: a1 :: .im x :: l)).ro (agK 2 c x) := fAug_ok rfl
theorem xe2 {a0 a1 : Sl} {f : List Sl → Rs D} {xs : List D} {l : List Sl} : fExt 2 f (a0 :: a1 :: .ow (.l xs) :: l) = (f (a0 :: a1 :: .ow (.l xs) :: l)).bind (extK 2) := Eq.trans rfl rfl
theorem xh2 {a0 a1 : Sl} {xs ys : List D} {l : List Sl} (h : xs.length + ys.length ≤ 4000) : extK 2 (.lst ys) (a0 :: a1 :: .ow (.l xs) :: l) = .ok .non (a0 :: a1 :: .ow (.l (xs ++ ys)) :: l) := if_pos (len_le h)
theorem fz2 {a0 a1 : Sl} {xs : List D} {l : List Sl} : frzE 2 (a0 :: a1 :: .ow (.l xs) :: l) = a0 :: a1 :: .im (.lst xs) :: l := Eq.trans rfl rfl
theorem fy2 {a0 a1 : Sl} {dd : D} {l : List Sl} : frzE 2 (a0 :: a1 :: .im dd :: l) = a0 :: a1 :: .im dd :: l := Eq.trans rfl rfl
theorem ri3 {a0 a1 a2 : Sl} {dd : D} {l : List Sl} : rdN 3 (a0 :: a1 :: a2 :: .im dd :: l) = .ok dd (a0 :: a1 :: a2 :: .im dd :: l) := Eq.trans rfl rfl
theorem ro3 {a0 a1 a2 : Sl} {xs : List D} {l : List Sl} : rdN 3 (a0 :: a1 :: a2 :: .ow (.l xs) :: l) = .ok (.lst xs) (a0 :: a1 :: a2 :: .im (.lst xs) :: l) := Eq.trans rfl rfl
theorem rs3 {a0 a1 a2 : Sl} {z x : Sl} {l : List Sl} : (a0 :: a1 :: a2 :: z :: l).set 3 x = a0 :: a1 :: a2 :: x :: l := Eq.trans rfl rfl
theorem ap3 {a0 a1 a2 : Sl} {f : List Sl → Rs D} {xs : List D} {l : List Sl} : fApp 3 f (a0 :: a1 :: a2 :: .ow (.l xs) :: l) = (f (a0 :: a1 :: a2 :: .ow (.l xs) :: l)).bind (appK 3) := Eq.trans rfl rfl
theorem aq3 {a0 a1 a2 : Sl} {dd : D} {xs : List D} {l : List Sl} (h : xs.length < 4000) : appK 3 dd (a0 :: a1 :: a2 :: .ow (.l xs) :: l) = .ok .non (a0 :: a1 :: a2 :: .ow (.l (xs ++ [dd])) :: l) := if_pos (len_lt h)
theorem ix3 {a0 a1 a2 : Sl} {g : List Sl → Rs D} {dd : D} {l : List Sl} : fIxN 3 g (a0 :: a1 :: a2 :: .im dd :: l) = (g (a0 :: a1 :: a2 :: .im dd :: l)).bind (ixK 3) := Eq.trans rfl rfl
theorem iy3 {a0 a1 a2 : Sl} {g : List Sl → Rs D} {w : Ow} {l : List Sl} : fIxN 3 g (a0 :: a1 :: a2 :: .ow w :: l) = (g (a0 :: a1 :: a2 :: .ow w :: l)).bind (ixK 3) := Eq.trans rfl rfl
theorem iz3 {a0 a1 a2 : Sl} {k : D} {xs : List D} {l : List Sl} : ixK 3 k (a0 :: a1 :: a2 :: .im (.lst xs) :: l) = Rs.opt (ixD (.lst xs) k) (a0 :: a1 :: a2 :: .im (.lst xs) :: l) := Eq.trans rfl rfl
theorem it3 {a0 a1 a2 : Sl} {k : D} {xs : List D} {l : List Sl} : ixK 3 k (a0 :: a1 :: a2 :: .im (.tup xs) :: l) = Rs.opt (ixD (.tup xs) k) (a0 :: a1 :: a2 :: .im (.tup xs) :: l) := Eq.trans rfl rfl
theorem iw3 {a0 a1 a2 : Sl} {k : D} {xs : List D} {l : List Sl} : ixK 3 k (a0 :: a1 :: a2 :: .ow (.l xs) :: l) = Rs.opt (ixD (.lst xs) k) (a0 :: a1 :: a2 :: .ow (.l xs) :: l) := Eq.trans rfl rfl
theorem ol3 {a0 a1 a2 : Sl} {xs : List D} {l : List Sl} : ownLen 3 (a0 :: a1 :: a2 :: .ow (.l xs) :: l) = .ok (.int xs.length) (a0 :: a1 :: a2 :: .ow (.l xs) :: l) := Eq.trans rfl rfl
theorem om3 {a0 a1 a2 : Sl} {xs : List D} {l : List Sl} : ownLen 3 (a0 :: a1 :: a2 :: .im (.lst xs) :: l) = .ok (.int xs.length) (a0 :: a1 :: a2 :: .im (.lst xs) :: l) := Eq.trans rfl rfl
theorem on3 {a0 a1 a2 : Sl} {xs : List D} {l : List Sl} : ownLen 3 (a0 :: a1 :: a2 :: .im (.tup xs) :: l) = .ok (.int xs.length) (a0 :: a1 :: a2 :: .im (.tup xs) :: l) := Eq.trans rfl rfl
theorem au3 {a0 a1 a2 : Sl} {f g : List Sl → Rs D} {c : D → D → Option D} {xs : List D} {l : List Sl} : augItem 3 f g c (a0 :: a1 :: a2 :: .ow (.l xs) :: l) = (f (a0 :: a1 :: a2 :: .ow (.l xs) :: l)).ro (augK 3 g c) := Eq.trans rfl rfl
theorem av3 {a0 a1 a2 : Sl} {g : List Sl → Rs D} {c : D → D → Option D} {j : Int} {xs : List D} {l : List Sl} (h0 : 0 ≤ j) (h1 : j < (xs.length : Int)) : augK 3 g c (.int j) (a0 :: a1 :: a2 :: .ow (.l xs) :: l) = (g (a0 :: a1 :: a2 :: .ow (.l xs) :: l)).ro (augM 3 c j (xs.getD j.toNat .non)) := augK_ok rfl h0 h1
theorem aw3 {a0 a1 a2 : Sl} {j : Int} {z : D} {xs : List D} {l : List Sl} (h1 : j < (xs.length : Int)) : augZ 3 j (a0 :: a1 :: a2 :: .ow (.l xs) :: l) (some z) = .nx (a0 :: a1 :: a2 :: .ow (.l (xs.set j.toNat z)) :: l) := augZ_ok rfl h1
theorem gi3 {a0 a1 a2 : Sl} {f : List Sl → Rs D} {dd : D} {xs : List D} {l : List Sl} : gIt 3 f dd (a0 :: a1 :: a2 :: .ow (.l xs) :: l) = kRob (f (a0 :: a1 :: a2 :: .ow (.l xs) :: l)) (gItK 3 dd) := gIt_ok rfl
theorem gj3 {a0 a1 a2 : Sl} {j : Int} {dd : D} {xs : List D} {l : List Sl} (h0 : 0 ≤ j) (h1 : j < (xs.length : Int)) : gItK 3 dd (.int j) (a0 :: a1 :: a2 :: .ow (.l xs) :: l) = .nx (a0 :: a1 :: a2 :: .ow (.l (xs.set j.toNat dd)) :: l) := if_pos ⟨h0, h1⟩
theorem ag3 {a0 a1 a2 : Sl} {f : List Sl → Rs D} {c : D → D → Option D} {x : D} {l : List Sl} : fAug 3 f c (a0 :: a1 :: a2 :: .im x :: l) = (f (a0 :: a1 :: a2 :: .im x :: l)).ro (agK 3 c x) := fAug_ok rfl
theorem xe3 {a0 a1 a2 : Sl} {f : List Sl → Rs D} {xs : List D} {l : List Sl} : fExt 3 f (a0 :: a1 :: a2 :: .ow (.l xs) :: l) = (f (a0 :: a1 :: a2 :: .ow (.l xs) :: l)).bind (extK 3) := Eq.trans rfl rfl
theorem xh3 {a0 a1 a2 : Sl} {xs ys : List D} {l : List Sl} (h : xs.length + ys.length ≤ 4000) : extK 3 (.lst ys) (a0 :: a1 :: a2 :: .ow (.l xs) :: l) = .ok .non (a0 :: a1 :: a2 :: .ow (.l (xs ++ ys)) :: l) := if_pos (len_le h)
theorem fz3 {a0 a1 a2 : Sl} {xs : List D} {l : List Sl} : frzE 3 (a0 :: a1 :: a2 :: .ow (.l xs) :: l) = a0 :: a1 :: a2 :: .im (.lst xs) :: l := Eq.trans rfl rfl
theorem fy3 {a0 a1 a2 : Sl} {dd : D} {l : List Sl} : frzE 3 (a0 :: a1 :: a2 :: .im dd :: l) = a0 :: a1 :: a2 :: .im dd :: l := Eq.trans rfl rfl
theorem ri4 {a0 a1 a2 a3 : Sl} {dd : D} {l : List Sl} : rdN 4 (a0 :: a1 :: a2 :: a3 :: .im dd :: l) = .ok dd (a0 :: a1 :: a2 :: a3 :: .im dd :: l) := Eq.trans rfl rfl
theorem ro4 {a0 a1 a2 a3 : Sl} {xs : List D} {l : List Sl} : rdN 4 (a0 :: a1 :: a2 :: a3 :: .ow (.l xs) :: l) = .ok (.lst xs) (a0 :: a1 :: a2 :: a3 :: .im (.lst xs) :: l) := Eq.trans rfl rfl
theorem rs4 {a0 a1 a2 a3 : Sl} {z x : Sl} {l : List Sl} : (a0 :: a1 :: a2 :: a3 :: z :: l).set 4 x = a0 :: a1 :: a2 :: a3 :: x :: l := Eq.trans rfl rfl
theorem ap4 {a0 a1 a2 a3 : Sl} {f : List Sl → Rs D} {xs : List D} {l : List Sl} : fApp 4 f (a0 :: a1 :: a2 :: a3 :: .ow (.l xs) :: l) = (f (a0 :: a1 :: a2 :: a3 :: .ow (.l xs) :: l)).bind (appK 4) := Eq.trans rfl rfl
theorem aq4 {a0 a1 a2 a3 : Sl} {dd : D} {xs : List D} {l : List Sl} (h : xs.length < 4000) : appK 4 dd (a0 :: a1 :: a2 :: a3 :: .ow (.l xs) :: l) = .ok .non (a0 :: a1 :: a2 :: a3 :: .ow (.l (xs ++ [dd])) :: l) := if_pos (len_lt h)
theorem ix4 {a0 a1 a2 a3 : Sl} {g : List Sl → Rs D} {dd : D} {l : List Sl} : fIxN 4 g (a0 :: a1 :: a2 :: a3 :: .im dd :: l) = (g (a0 :: a1 :: a2 :: a3 :: .im dd :: l)).bind (ixK 4) := Eq.trans rfl rfl
theorem iy4 {a0 a1 a2 a3 : Sl} {g : List Sl → Rs D} {w : Ow} {l : List Sl} : fIxN 4 g (a0 :: a1 :: a2 :: a3 :: .ow w :: l) = (g (a0 :: a1 :: a2 :: a3 :: .ow w :: l)).bind (ixK 4) := Eq.trans rfl rfl
theorem iz4 {a0 a1 a2 a3 : Sl} {k : D} {xs : List D} {l : List Sl} : ixK 4 k (a0 :: a1 :: a2 :: a3 :: .im (.lst xs) :: l) = Rs.opt (ixD (.lst xs) k) (a0 :: a1 :: a2 :: a3 :: .im (.lst xs) :: l) := Eq.trans rfl rfl
theorem it4 {a0 a1 a2 a3 : Sl} {k : D} {xs : List D} {l : List Sl} : ixK 4 k (a0 :: a1 :: a2 :: a3 :: .im (.tup xs) :: l) = Rs.opt (ixD (.tup xs) k) (a0 :: a1 :: a2 :: a3 :: .im (.tup xs) :: l) := Eq.trans rfl rfl
theorem iw4 {a0 a1 a2 a3 : Sl} {k : D} {xs : List D} {l : List Sl} : ixK 4 k (a0 :: a1 :: a2 :: a3 :: .ow (.l xs) :: l) = Rs.opt (ixD (.lst xs) k) (a0 :: a1 :: a2 :: a3 :: .ow (.l xs) :: l) := Eq.trans rfl rfl
theorem ol4 {a0 a1 a2 a3 : Sl} {xs : List D} {l : List Sl} : ownLen 4 (a0 :: a1 :: a2 :: a3 :: .ow (.l xs) :: l) = .ok (.int xs.length) (a0 :: a1 :: a2 :: a3 :: .ow (.l xs) :: l) := Eq.trans rfl rfl
theorem om4 {a0 a1 a2 a3 : Sl} {xs : List D} {l : List Sl} : ownLen 4 (a0 :: a1 :: a2 :: a3 :: .im (.lst xs) :: l) = .ok (.int xs.length) (a0 :: a1 :: a2 :: a3 :: .im (.lst xs) :: l) := Eq.trans rfl rfl
theorem on4 {a0 a1 a2 a3 : Sl} {xs : List D} {l : List Sl} : ownLen 4 (a0 :: a1 :: a2 :: a3 :: .im (.tup xs) :: l) = .ok (.int xs.length) (a0 :: a1 :: a2 :: a3 :: .im (.tup xs) :: l) := Eq.trans rfl rfl
theorem au4 {a0 a1 a2 a3 : Sl} {f g : List Sl → Rs D} {c : D → D → Option D} {xs : List D} {l : List Sl} : augItem 4 f g c (a0 :: a1 :: a2 :: a3 :: .ow (.l xs) :: l) = (f (a0 :: a1 :: a2 :: a3 :: .ow (.l xs) :: l)).ro (augK 4 g c) := Eq.trans rfl rfl
theorem av4 {a0 a1 a2 a3 : Sl} {g : List Sl → Rs D} {c : D → D → Option D} {j : Int} {xs : List D} {l : List Sl} (h0 : 0 ≤ j) (h1 : j < (xs.length : Int)) : augK 4 g c (.int j) (a0 :: a1 :: a2 :: a3 :: .ow (.l xs) :: l) = (g (a0 :: a1 :: a2 :: a3 :: .ow (.l xs) :: l)).ro (augM 4 c j (xs.getD j.toNat .non)) := augK_ok rfl h0 h1
theorem aw4 {a0 a1 a2 a3 : Sl} {j : Int} {z : D} {xs : List D} {l : List Sl} (h1 : j < (xs.length : Int)) : augZ 4 j (a0 :: a1 :: a2 :: a3 :: .ow (.l xs) :: l) (some z) = .nx (a0 :: a1 :: a2 :: a3 :: .ow (.l (xs.set j.toNat z)) :: l) := augZ_ok rfl h1
theorem gi4 {a0 a1 a2 a3 : Sl} {f : List Sl → Rs D} {dd : D} {xs : List D} {l : List Sl} : gIt 4 f dd (a0 :: a1 :: a2 :: a3 :: .ow (.l xs) :: l) = kRob (f (a0 :: a1 :: a2 :: a3 :: .ow (.l xs) :: l)) (gItK 4 dd) := gIt_ok rfl
theorem gj4 {a0 a1 a2 a3 : Sl} {j : Int} {dd : D} {xs : List D} {l : List Sl} (h0 : 0 ≤ j) (h1 : j < (xs.length : Int)) : gItK 4 dd (.int j) (a0 :: a1 :: a2 :: a3 :: .ow (.l xs) :: l) = .nx (a0 :: a1 :: a2 :: a3 :: .ow (.l (xs.set j.toNat dd)) :: l) := if_pos ⟨h0, h1⟩
theorem ag4 {a0 a1 a2 a3 : Sl} {f : List Sl → Rs D} {c : D → D → Option D} {x : D} {l : List Sl} : fAug 4 f c (a0 :: a1 :: a2 :: a3 :: .im x :: l) = (f (a0 :: a1 :: a2 :: a3 :: .im x :: l)).ro (agK 4 c x) := fAug_ok rfl
theorem xe4 {a0 a1 a2 a3 : Sl} {f : List Sl → Rs D} {xs : List D} {l : List Sl} : fExt 4 f (a0 :: a1 :: a2 :: a3 :: .ow (.l xs) :: l) = (f (a0 :: a1 :: a2 :: a3 :: .ow (.l xs) :: l)).bind (extK 4) := Eq.trans rfl rfl
theorem xh4 {a0 a1 a2 a3 : Sl} {xs ys : List D} {l : List Sl} (h : xs.length + ys.length ≤ 4000) : extK 4 (.lst ys) (a0 :: a1 :: a2 :: a3 :: .ow (.l xs) :: l) = .ok .non (a0 :: a1 :: a2 :: a3 :: .ow (.l (xs ++ ys)) :: l) := if_pos (len_le h)
theorem fz4 {a0 a1 a2 a3 : Sl} {xs : List D} {l : List Sl} : frzE 4 (a0 :: a1 :: a2 :: a3 :: .ow (.l xs) :: l) = a0 :: a1 :: a2 :: a3 :: .im (.lst xs) :: l := Eq.trans rfl rfl
theorem fy4 {a0 a1 a2 a3 : Sl} {dd : D} {l : List Sl} : frzE 4 (a0 :: a1 :: a2 :: a3 :: .im dd :: l) = a0 :: a1 :: a2 :: a3 :: .im dd :: l := Eq.trans rfl rfl
theorem ri5 {a0 a1 a2 a3 a4 : Sl} {dd : D} {l : List Sl} : rdN 5 (a0 :: a1 :: a2 :: a3 :: a4 :: .im dd :: l) = .ok dd (a0 :: a1 :: a2 :: a3 :: a4 :: .im dd :: l) := Eq.trans rfl rfl
theorem ro5 {a0 a1 a2 a3 a4 : Sl} {xs : List D} {l : List Sl} : rdN 5 (a0 :: a1 :: a2 :: a3 :: a4 :: .ow (.l xs) :: l) = .ok (.lst xs) (a0 :: a1 :: a2 :: a3 :: a4 :: .im (.lst xs) :: l) := Eq.trans rfl rfl
theorem rs5 {a0 a1 a2 a3 a4 : Sl} {z x : Sl} {l : List Sl} : (a0 :: a1 :: a2 :: a3 :: a4 :: z :: l).set 5 x = a0 :: a1 :: a2 :: a3 :: a4 :: x :: l := Eq.trans rfl rfl
theorem ap5 {a0 a1 a2 a3 a4 : Sl} {f : List Sl → Rs D} {xs : List D} {l : List Sl} : fApp 5 f (a0 :: a1 :: a2 :: a3 :: a4 :: .ow (.l xs) :: l) = (f (a0 :: a1 :: a2 :: a3 :: a4 :: .ow (.l xs) :: l)).bind (appK 5) := Eq.trans rfl rfl
theorem aq5 {a0 a1 a2 a3 a4 : Sl} {dd : D} {xs : List D} {l : List Sl} (h : xs.length < 4000) : appK 5 dd (a0 :: a1 :: a2 :: a3 :: a4 :: .ow (.l xs) :: l) = .ok .non (a0 :: a1 :: a2 :: a3 :: a4 :: .ow (.l (xs ++ [dd])) :: l) := if_pos (len_lt h)
theorem ix5 {a0 a1 a2 a3 a4 : Sl} {g : List Sl → Rs D} {dd : D} {l : List Sl} : fIxN 5 g (a0 :: a1 :: a2 :: a3 :: a4 :: .im dd :: l) = (g (a0 :: a1 :: a2 :: a3 :: a4 :: .im dd :: l)).bind (ixK 5) := Eq.trans rfl rfl
theorem iy5 {a0 a1 a2 a3 a4 : Sl} {g : List Sl → Rs D} {w : Ow} {l : List Sl} : fIxN 5 g (a0 :: a1 :: a2 :: a3 :: a4 :: .ow w :: l) = (g (a0 :: a1 :: a2 :: a3 :: a4 :: .ow w :: l)).bind (ixK 5) := Eq.trans rfl rfl
theorem iz5 {a0 a1 a2 a3 a4 : Sl} {k : D} {xs : List D} {l : List Sl} : ixK 5 k (a0 :: a1 :: a2 :: a3 :: a4 :: .im (.lst xs) :: l) = Rs.opt (ixD (.lst xs) k) (a0 :: a1 :: a2 :: a3 :: a4 :: .im (.lst xs) :: l) := Eq.trans rfl rfl
theorem it5 {a0 a1 a2 a3 a4 : Sl} {k : D} {xs : List D} {l : List Sl} : ixK 5 k (a0 :: a1 :: a2 :: a3 :: a4 :: .im (.tup xs) :: l) = Rs.opt (ixD (.tup xs) k) (a0 :: a1 :: a2 :: a3 :: a4 :: .im (.tup xs) :: l) := Eq.trans rfl rfl
theorem iw5 {a0 a1 a2 a3 a4 : Sl} {k : D} {xs : List D} {l : List Sl} : ixK 5 k (a0 :: a1 :: a2 :: a3 :: a4 :: .ow (.l xs) :: l) = Rs.opt (ixD (.lst xs) k) (a0 :: a1 :: a2 :: a3 :: a4 :: .ow (.l xs) :: l) := Eq.trans rfl rfl
theorem ol5 {a0 a1 a2 a3 a4 : Sl} {xs : List D} {l : List Sl} : ownLen 5 (a0 :: a1 :: a2 :: a3 :: a4 :: .ow (.l xs) :: l) = .ok (.int xs.length) (a0 :: a1 :: a2 :: a3 :: a4 :: .ow (.l xs) :: l) := Eq.trans rfl rfl
theorem om5 {a0 a1 a2 a3 a4 : Sl} {xs : List D} {l : List Sl} : ownLen 5 (a0 :: a1 :: a2 :: a3 :: a4 :: .im (.lst xs) :: l) = .ok (.int xs.length) (a0 :: a1 :: a2 :: a3 :: a4 :: .im (.lst xs) :: l) := Eq.trans rfl rfl
theorem on5 {a0 a1 a2 a3 a4 : Sl} {xs : List D} {l : List Sl} : ownLen 5 (a0 :: a1 :: a2 :: a3 :: a4 :: .im (.tup xs) :: l) = .ok (.int xs.length) (a0 :: a1 :: a2 :: a3 :: a4 :: .im (.tup xs) :: l) := Eq.trans rfl rfl
theorem au5 {a0 a1 a2 a3 a4 : Sl} {f g : List Sl → Rs D} {c : D → D → Option D} {xs : List D} {l : List Sl} : augItem 5 f g c (a0 :: a1 :: a2 :: a3 :: a4 :: .ow (.l xs) :: l) = (f (a0 :: a1 :: a2 :: a3 :: a4 :: .ow (.l xs) :: l)).ro (augK 5 g c) := Eq.trans rfl rfl
theorem av5 {a0 a1 a2 a3 a4 : Sl} {g : List Sl → Rs D} {c : D → D → Option D} {j : Int} {xs : List D} {l : List Sl} (h0 : 0 ≤ j) (h1 : j < (xs.length : Int)) : augK 5 g c (.int j) (a0 :: a1 :: a2 :: a3 :: a4 :: .ow (.l xs) :: l) = (g (a0 :: a1 :: a2 :: a3 :: a4 :: .ow (.l xs) :: l)).ro (augM 5 c j (xs.getD j.toNat .non)) := augK_ok rfl h0 h1
theorem aw5 {a0 a1 a2 a3 a4 : Sl} {j : Int} {z : D} {xs : List D} {l : List Sl} (h1 : j < (xs.length : Int)) : augZ 5 j (a0 :: a1 :: a2 :: a3 :: a4 :: .ow (.l xs) :: l) (some z) = .nx (a0 :: a1 :: a2 :: a3 :: a4 :: .ow (.l (xs.set j.toNat z)) :: l) := augZ_ok rfl h1
theorem gi5 {a0 a1 a2 a3 a4 : Sl} {f : List Sl → Rs D} {dd : D} {xs : List D} {l : List Sl} : gIt 5 f dd (a0 :: a1 :: a2 :: a3 :: a4 :: .ow (.l xs) :: l) = kRob (f (a0 :: a1 :: a2 :: a3 :: a4 :: .ow (.l xs) :: l)) (gItK 5 dd) := gIt_ok rfl
theorem gj5 {a0 a1 a2 a3 a4 : Sl} {j : Int} {dd : D} {xs : List D} {l : List Sl} (h0 : 0 ≤ j) (h1 : j < (xs.length : Int)) : gItK 5 dd (.int j) (a0 :: a1 :: a2 :: a3 :: a4 :: .ow (.l xs) :: l) = .nx (a0 :: a1 :: a2 :: a3 :: a4 :: .ow (.l (xs.set j.toNat dd)) :: l) := if_pos ⟨h0, h1⟩
theorem ag5 {a0 a1 a2 a3 a4 : Sl} {f : List Sl → Rs D} {c : D → D → Option D} {x : D} {l : List Sl} : fAug 5 f c (a0 :: a1 :: a2 :: a3 :: a4 :: .im x :: l) = (f (a0 :: a1 :: a2 :: a3 :: a4 :: .im x :: l)).ro (agK 5 c x) := fAug_ok rfl
theorem xe5 {a0 a1 a2 a3 a4 : Sl} {f : List Sl → Rs D} {xs : List D} {l : List Sl} : fExt 5 f (a0 :: a1 :: a2 :: a3 :: a4 :: .ow (.l xs) :: l) = (f (a0 :: a1 :: a2 :: a3 :: a4 :: .ow (.l xs) :: l)).bind (extK 5) := Eq.trans rfl rfl
theorem xh5 {a0 a1 a2 a3 a4 : Sl} {xs ys : List D} {l : List Sl} (h : xs.length + ys.length ≤ 4000) : extK 5 (.lst ys) (a0 :: a1 :: a2 :: a3 :: a4 :: .ow (.l xs) :: l) = .ok .non (a0 :: a1 :: a2 :: a3 :: a4 :: .ow (.l (xs ++ ys)) :: l) := if_pos (len_le h)
theorem fz5 {a0 a1 a2 a3 a4 : Sl} {xs : List D} {l : List Sl} : frzE 5 (a0 :: a1 :: a2 :: a3 :: a4 :: .ow (.l xs) :: l) = a0 :: a1 :: a2 :: a3 :: a4 :: .im (.lst xs) :: l := Eq.trans rfl rfl
theorem fy5 {a0 a1 a2 a3 a4 : Sl} {dd : D} {l : List Sl} : frzE 5 (a0 :: a1 :: a2 :: a3 :: a4 :: .im dd :: l) = a0 :: a1 :: a2 :: a3 :: a4 :: .im dd :: l := Eq.trans rfl rfl
theorem ri6 {a0 a1 a2 a3 a4 a5 : Sl} {dd : D} {l : List Sl} : rdN 6 (a0 :: a1 :: a2 :: a3 :: a4 :: a5 :: .im dd :: l) = .ok dd (a0 :: a1 :: a2 :: a3 :: a4 :: a5 :: .im dd :: l) := Eq.trans rfl rfl
theorem ro6 {a0 a1 a2 a3 a4 a5 : Sl} {xs : List D} {l : List Sl} : rdN 6 (a0 :: a1 :: a2 :: a3 :: a4 :: a5 :: .ow (.l xs) :: l) = .ok (.lst xs) (a0 :: a1 :: a2 :: a3 :: a4 :: a5 :: .im (.lst xs) :: l) := Eq.trans rfl rfl
theorem rs6 {a0 a1 a2 a3 a4 a5 : Sl} {z x : Sl} {l : List Sl} : (a0 :: a1 :: a2 :: a3 :: a4 :: a5 :: z :: l).set 6 x = a0 :: a1 :: a2 :: a3 :: a4 :: a5 :: x :: l := Eq.trans rfl rfl
theorem ap6 {a0 a1 a2 a3 a4 a5 : Sl} {f : List Sl → Rs D} {xs : List D} {l : List Sl} : fApp 6 f (a0 :: a1 :: a2 :: a3 :: a4 :: a5 :: .ow (.l xs) :: l) = (f (a0 :: a1 :: a2 :: a3 :: a4 :: a5 :: .ow (.l xs) :: l)).bind (appK 6) := Eq.trans rfl rfl
theorem aq6 {a0 a1 a2 a3 a4 a5 : Sl} {dd : D} {xs : List D} {l : List Sl} (h : xs.length < 4000) : appK 6 dd (a0 :: a1 :: a2 :: a3 :: a4 :: a5 :: .ow (.l xs) :: l) = .ok .non (a0 :: a1 :: a2 :: a3 :: a4 :: a5 :: .ow (.l (xs ++ [dd])) :: l) := if_pos (len_lt h)
theorem ix6 {a0 a1 a2 a3 a4 a5 : Sl} {g : List Sl → Rs D} {dd : D} {l : List Sl} : fIxN 6 g (a0 :: a1 :: a2 :: a3 :: a4 :: a5 :: .im dd :: l) = (g (a0 :: a1 :: a2 :: a3 :: a4 :: a5 :: .im dd :: l)).bind (ixK 6) := Eq.trans rfl rfl
theorem iy6 {a0 a1 a2 a3 a4 a5 : Sl} {g : List Sl → Rs D} {w : Ow} {l : List Sl} : fIxN 6 g (a0 :: a1 :: a2 :: a3 :: a4 :: a5 :: .ow w :: l) = (g (a0 :: a1 :: a2 :: a3 :: a4 :: a5 :: .ow w :: l)).bind (ixK 6) := Eq.trans rfl rfl
theorem iz6 {a0 a1 a2 a3 a4 a5 : Sl} {k : D} {xs : List D} {l : List Sl} : ixK 6 k (a0 :: a1 :: a2 :: a3 :: a4 :: a5 :: .im (.lst xs) :: l) = Rs.opt (ixD (.lst xs) k) (a0 :: a1 :: a2 :: a3 :: a4 :: a5 :: .im (.lst xs) :: l) := Eq.trans rfl rfl
theorem it6 {a0 a1 a2 a3 a4 a5 : Sl} {k : D} {xs : List D} {l : List Sl} : ixK 6 k (a0 :: a1 :: a2 :: a3 :: a4 :: a5 :: .im (.tup xs) :: l) = Rs.opt (ixD (.tup xs) k) (a0 :: a1 :: a2 :: a3 :: a4 :: a5 :: .im (.tup xs) :: l) := Eq.trans rfl rfl
theorem iw6 {a0 a1 a2 a3 a4 a5 : Sl} {k : D} {xs : List D} {l : List Sl} : ixK 6 k (a0 :: a1 :: a2 :: a3 :: a4 :: a5 :: .ow (.l xs) :: l) = Rs.opt (ixD (.lst xs) k) (a0 :: a1 :: a2 :: a3 :: a4 :: a5 :: .ow (.l xs) :: l) := Eq.trans rfl rfl
theorem ol6 {a0 a1 a2 a3 a4 a5 : Sl} {xs : List D} {l : List Sl} : ownLen 6 (a0 :: a1 :: a2 :: a3 :: a4 :: a5 :: .ow (.l xs) :: l) = .ok (.int xs.length) (a0 :: a1 :: a2 :: a3 :: a4 :: a5 :: .ow (.l xs) :: l) := Eq.trans rfl rfl
theorem om6 {a0 a1 a2 a3 a4 a5 : Sl} {xs : List D} {l : List Sl} : ownLen 6 (a0 :: a1 :: a2 :: a3 :: a4 :: a5 :: .im (.lst xs) :: l) = .ok (.int xs.length) (a0 :: a1 :: a2 :: a3 :: a4 :: a5 :: .im (.lst xs) :: l) := Eq.trans rfl rfl
theorem on6 {a0 a1 a2 a3 a4 a5 : Sl} {xs : List D} {l : List Sl} : ownLen 6 (a0 :: a1 :: a2 :: a3 :: a4 :: a5 :: .im (.tup xs) :: l) = .ok (.int xs.length) (a0 :: a1 :: a2 :: a3 :: a4 :: a5 :: .im (.tup xs) :: l) := Eq.trans rfl rfl
theorem au6 {a0 a1 a2 a3 a4 a5 : Sl} {f g : List Sl → Rs D} {c : D → D → Option D} {xs : List D} {l : List Sl} : augItem 6 f g c (a0 :: a1 :: a2 :: a3 :: a4 :: a5 :: .ow (.l xs) :: l) = (f (a0 :: a1 :: a2 :: a3 :: a4 :: a5 :: .ow (.l xs) :: l)).ro (augK 6 g c) := Eq.trans rfl rfl
theorem av6 {a0 a1 a2 a3 a4 a5 : Sl} {g : List Sl → Rs D} {c : D → D → Option D} {j : Int} {xs : List D} {l : List Sl} (h0 : 0 ≤ j) (h1 : j < (xs.length : Int)) : augK 6 g c (.int j) (a0 :: a1 :: a2 :: a3 :: a4 :: a5 :: .ow (.l xs) :: l) = (g (a0 :: a1 :: a2 :: a3 :: a4 :: a5 :: .ow (.l xs) :: l)).ro (augM 6 c j (xs.getD j.toNat .non)) := augK_ok rfl h0 h1
theorem aw6 {a0 a1 a2 a3 a4 a5 : Sl} {j : Int} {z : D} {xs : List D} {l : List Sl} (h1 : j < (xs.length : Int)) : augZ 6 j (a0 :: a1 :: a2 :: a3 :: a4 :: a5 :: .ow (.l xs) :: l) (some z) = .nx (a0 :: a1 :: a2 :: a3 :: a4 :: a5 :: .ow (.l (xs.set j.toNat z)) :: l) := augZ_ok rfl h1
theorem gi6 {a0 a1 a2 a3 a4 a5 : Sl} {f : List Sl → Rs D} {dd : D} {xs : List D} {l : List Sl} : gIt 6 f dd (a0 :: a1 :: a2 :: a3 :: a4 :: a5 :: .ow (.l xs) :: l) = kRob (f (a0 :: a1 :: a2 :: a3 :: a4 :: a5 :: .ow (.l xs) :: l)) (gItK 6 dd) := gIt_ok rfl
theorem gj6 {a0 a1 a2 a3 a4 a5 : Sl} {j : Int} {dd : D} {xs : List D} {l : List Sl} (h0 : 0 ≤ j) (h1 : j < (xs.length : Int)) : gItK 6 dd (.int j) (a0 :: a1 :: a2 :: a3 :: a4 :: a5 :: .ow (.l xs) :: l) = .nx (a0 :: a1 :: a2 :: a3 :: a4 :: a5 :: .ow (.l (xs.set j.toNat dd)) :: l) := if_pos ⟨h0, h1⟩
theorem ag6 {a0 a1 a2 a3 a4 a5 : Sl} {f : List Sl → Rs D} {c : D → D → Option D} {x : D} {l : List Sl} : fAug 6 f c (a0 :: a1 :: a2 :: a3 :: a4 :: a5 :: .im x :: l) = (f (a0 :: a1 :: a2 :: a3 :: a4 :: a5 :: .im x :: l)).ro (agK 6 c x) := fAug_ok rfl
theorem xe6 {a0 a1 a2 a3 a4 a5 : Sl} {f : List Sl → Rs D} {xs : List D} {l : List Sl} : fExt 6 f (a0 :: a1 :: a2 :: a3 :: a4 :: a5 :: .ow (.l xs) :: l) = (f (a0 :: a1 :: a2 :: a3 :: a4 :: a5 :: .ow (.l xs) :: l)).bind (extK 6) := Eq.trans rfl rfl
theorem xh6 {a0 a1 a2 a3 a4 a5 : Sl} {xs ys : List D} {l : List Sl} (h : xs.length + ys.length ≤ 4000) : extK 6 (.lst ys) (a0 :: a1 :: a2 :: a3 :: a4 :: a5 :: .ow (.l xs) :: l) = .ok .non (a0 :: a1 :: a2 :: a3 :: a4 :: a5 :: .ow (.l (xs ++ ys)) :: l) := if_pos (len_le h)
theorem fz6 {a0 a1 a2 a3 a4 a5 : Sl} {xs : List D} {l : List Sl} : frzE 6 (a0 :: a1 :: a2 :: a3 :: a4 :: a5 :: .ow (.l xs) :: l) = a0 :: a1 :: a2 :: a3 :: a4 :: a5 :: .im (.lst xs) :: l := Eq.trans rfl rfl
theorem fy6 {a0 a1 a2 a3 a4 a5 : Sl} {dd : D} {l : List Sl} : frzE 6 (a0 :: a1 :: a2 :: a3 :: a4 :: a5 :: .im dd :: l) = a0 :: a1 :: a2 :: a3 :: a4 :: a5 :: .im dd :: l := Eq.trans rfl rfl
theorem ri7 {a0 a1 a2 a3 a4 a5 a6 : Sl} {dd : D} {l : List Sl} : rdN 7 (a0 :: a1 :: a2 :: a3 :: a4 :: a5 :: a6 :: .im dd :: l) = .ok dd (a0 :: a1 :: a2 :: a3 :: a4 :: a5 :: a6 :: .im dd :: l) := Eq.trans rfl rfl
theorem ro7 {a0 a1 a2 a3 a4 a5 a6 : Sl} {xs : List D} {l : List Sl} : rdN 7 (a0 :: a1 :: a2 :: a3 :: a4 :: a5 :: a6 :: .ow (.l xs) :: l) = .ok (.lst xs) (a0 :: a1 :: a2 :: a3 :: a4 :: a5 :: a6 :: .im (.lst xs) :: l) := Eq.trans rfl rfl
theorem rs7 {a0 a1 a2 a3 a4 a5 a6 : Sl} {z x : Sl} {l : List Sl} : (a0 :: a1 :: a2 :: a3 :: a4 :: a5 :: a6 :: z :: l).set 7 x = a0 :: a1 :: a2 :: a3 :: a4 :: a5 :: a6 :: x :: l := Eq.trans rfl rfl
theorem ap7 {a0 a1 a2 a3 a4 a5 a6 : Sl} {f : List Sl → Rs D} {xs : List D} {l : List Sl} : fApp 7 f (a0 :: a1 :: a2 :: a3 :: a4 :: a5 :: a6 :: .ow (.l xs) :: l) = (f (a0 :: a1 :: a2 :: a3 :: a4 :: a5 :: a6 :: .ow (.l xs) :: l)).bind (appK 7) := Eq.trans rfl rfl
theorem aq7 {a0 a1 a2 a3 a4 a5 a6 : Sl} {dd : D} {xs : List D} {l : List Sl} (h : xs.length < 4000) : appK 7 dd (a0 :: a1 :: a2 :: a3 :: a4 :: a5 :: a6 :: .ow (.l xs) :: l) = .ok .non (a0 :: a1 :: a2 :: a3 :: a4 :: a5 :: a6 :: .ow (.l (xs ++ [dd])) :: l) := if_pos (len_lt h)
theorem ix7 {a0 a1 a2 a3 a4 a5 a6 : Sl} {g : List Sl → Rs D} {dd : D} {l : List Sl} : fIxN 7 g (a0 :: a1 :: a2 :: a3 :: a4 :: a5 :: a6 :: .im dd :: l) = (g (a0 :: a1 :: a2 :: a3 :: a4 :: a5 :: a6 :: .im dd :: l)).bind (ixK 7) := Eq.trans rfl rfl
theorem iy7 {a0 a1 a2 a3 a4 a5 a6 : Sl} {g : List Sl → Rs D} {w : Ow} {l : List Sl} : fIxN 7 g (a0 :: a1 :: a2 :: a3 :: a4 :: a5 :: a6 :: .ow w :: l) = (g (a0 :: a1 :: a2 :: a3 :: a4 :: a5 :: a6 :: .ow w :: l)).bind (ixK 7) := Eq.trans rfl rfl
theorem iz7 {a0 a1 a2 a3 a4 a5 a6 : Sl} {k : D} {xs : List D} {l : List Sl} : ixK 7 k (a0 :: a1 :: a2 :: a3 :: a4 :: a5 :: a6 :: .im (.lst xs) :: l) = Rs.opt (ixD (.lst xs) k) (a0 :: a1 :: a2 :: a3 :: a4 :: a5 :: a6 :: .im (.lst xs) :: l) := Eq.trans rfl rfl
theorem it7 {a0 a1 a2 a3 a4 a5 a6 : Sl} {k : D} {xs : List D} {l : List Sl} : ixK 7 k (a0 :: a1 :: a2 :: a3 :: a4 :: a5 :: a6 :: .im (.tup xs) :: l) = Rs.opt (ixD (.tup xs) k) (a0 :: a1 :: a2 :: a3 :: a4 :: a5 :: a6 :: .im (.tup xs) :: l) := Eq.trans rfl rfl
theorem iw7 {a0 a1 a2 a3 a4 a5 a6 : Sl} {k : D} {xs : List D} {l : List Sl} : ixK 7 k (a0 :: a1 :: a2 :: a3 :: a4 :: a5 :: a6 :: .ow (.l xs) :: l) = Rs.opt (ixD (.lst xs) k) (a0 :: a1 :: a2 :: a3 :: a4 :: a5 :: a6 :: .ow (.l xs) :: l) := Eq.trans rfl rfl
theorem ol7 {a0 a1 a2 a3 a4 a5 a6 : Sl} {xs : List D} {l : List Sl} : ownLen 7 (a0 :: a1 :: a2 :: a3 :: a4 :: a5 :: a6 :: .ow (.l xs) :: l) = .ok (.int xs.length) (a0 :: a1 :: a2 :: a3 :: a4 :: a5 :: a6 :: .ow (.l xs) :: l) := Eq.trans rfl rfl
theorem om7 {a0 a1 a2 a3 a4 a5 a6 : Sl} {xs : List D} {l : List Sl} : ownLen 7 (a0 :: a1 :: a2 :: a3 :: a4 :: a5 :: a6 :: .im (.lst xs) :: l) = .ok (.int xs.length) (a0 :: a1 :: a2 :: a3 :: a4 :: a5 :: a6 :: .im (.lst xs) :: l) := Eq.trans rfl rfl
theorem on7 {a0 a1 a2 a3 a4 a5 a6 : Sl} {xs : List D} {l : List Sl} : ownLen 7 (a0 :: a1 :: a2 :: a3 :: a4 :: a5 :: a6 :: .im (.tup xs) :: l) = .ok (.int xs.length) (a0 :: a1 :: a2 :: a3 :: a4 :: a5 :: a6 :: .im (.tup xs) :: l) := Eq.trans rfl rfl
theorem au7 {a0 a1 a2 a3 a4 a5 a6 : Sl} {f g : List Sl → Rs D} {c : D → D → Option D} {xs : List D} {l : List Sl} : augItem 7 f g c (a0 :: a1 :: a2 :: a3 :: a4 :: a5 :: a6 :: .ow (.l xs) :: l) = (f (a0 :: a1 :: a2 :: a3 :: a4 :: a5 :: a6 :: .ow (.l xs) :: l)).ro (augK 7 g c) := Eq.trans rfl rfl
theorem av7 {a0 a1 a2 a3 a4 a5 a6 : Sl} {g : List Sl → Rs D} {c : D → D → Option D} {j : Int} {xs : List D} {l : List Sl} (h0 : 0 ≤ j) (h1 : j < (xs.length : Int)) : augK 7 g c (.int j) (a0 :: a1 :: a2 :: a3 :: a4 :: a5 :: a6 :: .ow (.l xs) :: l) = (g (a0 :: a1 :: a2 :: a3 :: a4 :: a5 :: a6 :: .ow (.l xs) :: l)).ro (augM 7 c j (xs.getD j.toNat .non)) := augK_ok rfl h0 h1
theorem aw7 {a0 a1 a2 a3 a4 a5 a6 : Sl} {j : Int} {z : D} {xs : List D} {l : List Sl} (h1 : j < (xs.length : Int)) : augZ 7 j (a0 :: a1 :: a2 :: a3 :: a4 :: a5 :: a6 :: .ow (.l xs) :: l) (some z) = .nx (a0 :: a1 :: a2 :: a3 :: a4 :: a5 :: a6 :: .ow (.l (xs.set j.toNat z)) :: l) := augZ_ok rfl h1
theorem gi7 {a0 a1 a2 a3 a4 a5 a6 : Sl} {f : List Sl → Rs D} {dd : D} {xs : List D} {l : List Sl} : gIt 7 f dd (a0 :: a1 :: a2 :: a3 :: a4 :: a5 :: a6 :: .ow (.l xs) :: l) = kRob (f (a0 :: a1 :: a2 :: a3 :: a4 :: a5 :: a6 :: .ow (.l xs) :: l)) (gItK 7 dd) := gIt_ok rfl
theorem gj7 {a0 a1 a2 a3 a4 a5 a6 : Sl} {j : Int} {dd : D} {xs : List D} {l : List Sl} (h0 : 0 ≤ j) (h1 : j < (xs.length : Int)) : gItK 7 dd (.int j) (a0 :: a1 :: a2 :: a3 :: a4 :: a5 :: a6 :: .ow (.l xs) :: l) = .nx (a0 :: a1 :: a2 :: a3 :: a4 :: a5 :: a6 :: .ow (.l (xs.set j.toNat dd)) :: l) := if_pos ⟨h0, h1⟩
theorem ag7 {a0 a1 a2 a3 a4 a5 a6 : Sl} {f : List Sl → Rs D} {c : D → D → Option D} {x : D} {l : List Sl} : fAug 7 f c (a0 :: a1 :: a2 :: a3 :: a4 :: a5 :: a6 :: .im x :: l) = (f (a0 :: a1 :: a2 :: a3 :: a4 :: a5 :: a6 :: .im x :: l)).ro (agK 7 c x) := fAug_ok rfl
theorem xe7 {a0 a1 a2 a3 a4 a5 a6 : Sl} {f : List Sl → Rs D} {xs : List D} {l : List Sl} : fExt 7 f (a0 :: a1 :: a2 :: a3 :: a4 :: a5 :: a6 :: .ow (.l xs) :: l) = (f (a0 :: a1 :: a2 :: a3 :: a4 :: a5 :: a6 :: .ow (.l xs) :: l)).bind (extK 7) := Eq.trans rfl rfl
theorem xh7 {a0 a1 a2 a3 a4 a5 a6 : Sl} {xs ys : List D} {l : List Sl} (h : xs.length + ys.length ≤ 4000) : extK 7 (.lst ys) (a0 :: a1 :: a2 :: a3 :: a4 :: a5 :: a6 :: .ow (.l xs) :: l) = .ok .non (a0 :: a1 :: a2 :: a3 :: a4 :: a5 :: a6 :: .ow (.l (xs ++ ys)) :: l) := if_pos (len_le h)
theorem fz7 {a0 a1 a2 a3 a4 a5 a6 : Sl} {xs : List D} {l : List Sl} : frzE 7 (a0 :: a1 :: a2 :: a3 :: a4 :: a5 :: a6 :: .ow (.l xs) :: l) = a0 :: a1 :: a2 :: a3 :: a4 :: a5 :: a6 :: .im (.lst xs) :: l := Eq.trans rfl rfl
theorem fy7 {a0 a1 a2 a3 a4 a5 a6 : Sl} {dd : D} {l : List Sl} : frzE 7 (a0 :: a1 :: a2 :: a3 :: a4 :: a5 :: a6 :: .im dd :: l) = a0 :: a1 :: a2 :: a3 :: a4 :: a5 :: a6 :: .im dd :: l := Eq.trans rfl rfl
theorem ri8 {a0 a1 a2 a3 a4 a5 a6 a7 : Sl} {dd : D} {l : List Sl} : rdN 8 (a0 :: a1 :: a2 :: a3 :: a4 :: a5 :: a6 :: a7 :: .im dd :: l) = .ok dd (a0 :: a1 :: a2 :: a3 :: a4 :: a5 :: a6 :: a7 :: .im dd :: l) := Eq.trans rfl rfl
theorem ro8 {a0 a1 a2 a3 a4 a5 a6 a7 : Sl} {xs : List D} {l : List Sl} : rdN 8 (a0 :: a1 :: a2 :: a3 :: a4 :: a5 :: a6 :: a7 :: .ow (.l xs) :: l) = .ok (.lst xs) (a0 :: a1 :: a2 :: a3 :: a4 :: a5 :: a6 :: a7 :: .im (.lst xs) :: l) := Eq.trans rfl rfl
theorem rs8 {a0 a1 a2 a3 a4 a5 a6 a7 : Sl} {z x : Sl} {l : List Sl} : (a0 :: a1 :: a2 :: a3 :: a4 :: a5 :: a6 :: a7 :: z :: l).set 8 x = a0 :: a1 :: a2 :: a3 :: a4 :: a5 :: a6 :: a7 :: x :: l := Eq.trans rfl rfl
theorem ap8 {a0 a1 a2 a3 a4 a5 a6 a7 : Sl} {f : List Sl → Rs D} {xs : List D} {l : List Sl} : fApp 8 f (a0 :: a1 :: a2 :: a3 :: a4 :: a5 :: a6 :: a7 :: .ow (.l xs) :: l) = (f (a0 :: a1 :: a2 :: a3 :: a4 :: a5 :: a6 :: a7 :: .ow (.l xs) :: l)).bind (appK 8) := Eq.trans rfl rfl
theorem aq8 {a0 a1 a2 a3 a4 a5 a6 a7 : Sl} {dd : D} {xs : List D} {l : List Sl} (h : xs.length < 4000) : appK 8 dd (a0 :: a1 :: a2 :: a3 :: a4 :: a5 :: a6 :: a7 :: .ow (.l xs) :: l) = .ok .non (a0 :: a1 :: a2 :: a3 :: a4 :: a5 :: a6 :: a7 :: .ow (.l (xs ++ [dd])) :: l) := if_pos (len_lt h)
theorem ix8 {a0 a1 a2 a3 a4 a5 a6 a7 : Sl} {g : List Sl → Rs D} {dd : D} {l : List Sl} : fIxN 8 g (a0 :: a1 :: a2 :: a3 :: a4 :: a5 :: a6 :: a7 :: .im dd :: l) = (g (a0 :: a1 :: a2 :: a3 :: a4 :: a5 :: a6 :: a7 :: .im dd :: l)).bind (ixK 8) := Eq.trans rfl rfl
theorem iy8 {a0 a1 a2 a3 a4 a5 a6 a7 : Sl} {g : List Sl → Rs D} {w : Ow} {l : List Sl} : fIxN 8 g (a0 :: a1 :: a2 :: a3 :: a4 :: a5 :: a6 :: a7 :: .ow w :: l) = (g (a0 :: a1 :: a2 :: a3 :: a4 :: a5 :: a6 :: a7 :: .ow w :: l)).bind (ixK 8) := Eq.trans rfl rfl
theorem iz8 {a0 a1 a2 a3 a4 a5 a6 a7 : Sl} {k : D} {xs : List D} {l : List Sl} : ixK 8 k (a0 :: a1 :: a2 :: a3 :: a4 :: a5 :: a6 :: a7 :: .im (.lst xs) :: l) = Rs.opt (ixD (.lst xs) k) (a0 :: a1 :: a2 :: a3 :: a4 :: a5 :: a6 :: a7 :: .im (.lst xs) :: l) := Eq.trans rfl rfl
theorem it8 {a0 a1 a2 a3 a4 a5 a6 a7 : Sl} {k : D} {xs : List D} {l : List Sl} : ixK 8 k (a0 :: a1 :: a2 :: a3 :: a4 :: a5 :: a6 :: a7 :: .im (.tup xs) :: l) = Rs.opt (ixD (.tup xs) k) (a0 :: a1 :: a2 :: a3 :: a4 :: a5 :: a6 :: a7 :: .im (.tup xs) :: l) := Eq.trans rfl rfl
theorem iw8 {a0 a1 a2 a3 a4 a5 a6 a7 : Sl} {k : D} {xs : List D} {l : List Sl} : ixK 8 k (a0 :: a1 :: a2 :: a3 :: a4 :: a5 :: a6 :: a7 :: .ow (.l xs) :: l) = Rs.opt (ixD (.lst xs) k) (a0 :: a1 :: a2 :: a3 :: a4 :: a5 :: a6 :: a7 :: .ow (.l xs) :: l) := Eq.trans rfl rfl
theorem ol8 {a0 a1 a2 a3 a4 a5 a6 a7 : Sl} {xs : List D} {l : List Sl} : ownLen 8 (a0 :: a1 :: a2 :: a3 :: a4 :: a5 :: a6 :: a7 :: .ow (.l xs) :: l) = .ok (.int xs.length) (a0 :: a1 :: a2 :: a3 :: a4 :: a5 :: a6 :: a7 :: .ow (.l xs) :: l) := Eq.trans rfl rfl
theorem om8 {a0 a1 a2 a3 a4 a5 a6 a7 : Sl} {xs : List D} {l : List Sl} : ownLen 8 (a0 :: a1 :: a2 :: a3 :: a4 :: a5 :: a6 :: a7 :: .im (.lst xs) :: l) = .ok (.int xs.length) (a0 :: a1 :: a2 :: a3 :: a4 :: a5 :: a6 :: a7 :: .im (.lst xs) :: l) := Eq.trans rfl rfl
theorem on8 {a0 a1 a2 a3 a4 a5 a6 a7 : Sl} {xs : List D} {l : List Sl} : ownLen 8 (a0 :: a1 :: a2 :: a3 :: a4 :: a5 :: a6 :: a7 :: .im (.tup xs) :: l) = .ok (.int xs.length) (a0 :: a1 :: a2 :: a3 :: a4 :: a5 :: a6 :: a7 :: .im (.tup xs) :: l) := Eq.trans rfl rfl
theorem au8 {a0 a1 a2 a3 a4 a5 a6 a7 : Sl} {f g : List Sl → Rs D} {c : D → D → Option D} {xs : List D} {l : List Sl} : augItem 8 f g c (a0 :: a1 :: a2 :: a3 :: a4 :: a5 :: a6 :: a7 :: .ow (.l xs) :: l) = (f (a0 :: a1 :: a2 :: a3 :: a4 :: a5 :: a6 :: a7 :: .ow (.l xs) :: l)).ro (augK 8 g c) := Eq.trans rfl rfl
theorem av8 {a0 a1 a2 a3 a4 a5 a6 a7 : Sl} {g : List Sl → Rs D} {c : D → D → Option D} {j : Int} {xs : List D} {l : List Sl} (h0 : 0 ≤ j) (h1 : j < (xs.length : Int)) : augK 8 g c (.int j) (a0 :: a1 :: a2 :: a3 :: a4 :: a5 :: a6 :: a7 :: .ow (.l xs) :: l) = (g (a0 :: a1 :: a2 :: a3 :: a4 :: a5 :: a6 :: a7 :: .ow (.l xs) :: l)).ro (augM 8 c j (xs.getD j.toNat .non)) := augK_ok rfl h0 h1
theorem aw8 {a0 a1 a2 a3 a4 a5 a6 a7 : Sl} {j : Int} {z : D} {xs : List D} {l : List Sl} (h1 : j < (xs.length : Int)) : augZ 8 j (a0 :: a1 :: a2 :: a3 :: a4 :: a5 :: a6 :: a7 :: .ow (.l xs) :: l) (some z) = .nx (a0 :: a1 :: a2 :: a3 :: a4 :: a5 :: a6 :: a7 :: .ow (.l (xs.set j.toNat z)) :: l) := augZ_ok rfl h1
theorem gi8 {a0 a1 a2 a3 a4 a5 a6 a7 : Sl} {f : List Sl → Rs D} {dd : D} {xs : List D} {l : List Sl} : gIt 8 f dd (a0 :: a1 :: a2 :: a3 :: a4 :: a5 :: a6 :: a7 :: .ow (.l xs) :: l) = kRob (f (a0 :: a1 :: a2 :: a3 :: a4 :: a5 :: a6 :: a7 :: .ow (.l xs) :: l)) (gItK 8 dd) := gIt_ok rfl
theorem gj8 {a0 a1 a2 a3 a4 a5 a6 a7 : Sl} {j : Int} {dd : D} {xs : List D} {l : List Sl} (h0 : 0 ≤ j) (h1 : j < (xs.length : Int)) : gItK 8 dd (.int j) (a0 :: a1 :: a2 :: a3 :: a4 :: a5 :: a6 :: a7 :: .ow (.l xs) :: l) = .nx (a0 :: a1 :: a2 :: a3 :: a4 :: a5 :: a6 :: a7 :: .ow (.l (xs.set j.toNat dd)) :: l) := if_pos ⟨h0, h1⟩
theorem ag8 {a0 a1 a2 a3 a4 a5 a6 a7 : Sl} {f : List Sl → Rs D} {c : D → D → Option D} {x : D} {l : List Sl} : fAug 8 f c (a0 :: a1 :: a2 :: a3 :: a4 :: a5 :: a6 :: a7 :: .im x :: l) = (f (a0 :: a1 :: a2 :: a3 :: a4 :: a5 :: a6 :: a7 :: .im x :: l)).ro (agK 8 c x) := fAug_ok rfl
theorem xe8 {a0 a1 a2 a3 a4 a5 a6 a7 : Sl} {f : List Sl → Rs D} {xs : List D} {l : List Sl} : fExt 8 f (a0 :: a1 :: a2 :: a3 :: a4 :: a5 :: a6 :: a7 :: .ow (.l xs) :: l) = (f (a0 :: a1 :: a2 :: a3 :: a4 :: a5 :: a6 :: a7 :: .ow (.l xs) :: l)).bind (extK 8) := Eq.trans rfl rfl
theorem xh8 {a0 a1 a2 a3 a4 a5 a6 a7 : Sl} {xs ys : List D} {l : List Sl} (h : xs.length + ys.length ≤ 4000) : extK 8 (.lst ys) (a0 :: a1 :: a2 :: a3 :: a4 :: a5 :: a6 :: a7 :: .ow (.l xs) :: l) = .ok .non (a0 :: a1 :: a2 :: a3 :: a4 :: a5 :: a6 :: a7 :: .ow (.l (xs ++ ys)) :: l) := if_pos (len_le h)
theorem fz8 {a0 a1 a2 a3 a4 a5 a6 a7 : Sl} {xs : List D} {l : List Sl} : frzE 8 (a0 :: a1 :: a2 :: a3 :: a4 :: a5 :: a6 :: a7 :: .ow (.l xs) :: l) = a0 :: a1 :: a2 :: a3 :: a4 :: a5 :: a6 :: a7 :: .im (.lst xs) :: l := Eq.trans rfl rfl
theorem fy8 {a0 a1 a2 a3 a4 a5 a6 a7 : Sl} {dd : D} {l : List Sl} : frzE 8 (a0 :: a1 :: a2 :: a3 :: a4 :: a5 :: a6 :: a7 :: .im dd :: l) = a0 :: a1 :: a2 :: a3 :: a4 :: a5 :: a6 :: a7 :: .im dd :: l := Eq.trans rfl rfl
theorem ri9 {a0 a1 a2 a3 a4 a5 a6 a7 a8 : Sl} {dd : D} {l : List Sl} : rdN 9 (a0 :: a1 :: a2 :: a3 :: a4 :: a5 :: a6 :: a7 :: a8 :: .im dd :: l) = .ok dd (a0 :: a1 :: a2 :: a3 :: a4 :: a5 :: a6 :: a7 :: a8 :: .im dd :: l) := Eq.trans rfl rfl
theorem ro9 {a0 a1 a2 a3 a4 a5 a6 a7 a8 : Sl} {xs : List D} {l : List Sl} : rdN 9 (a0 :: a1 :: a2 :: a3 :: a4 :: a5 :: a6 :: a7 :: a8 :: .ow (.l xs) :: l) = .ok (.lst xs) (a0 :: a1 :: a2 :: a3 :: a4 :: a5 :: a6 :: a7 :: a8 :: .im (.lst xs) :: l) := Eq.trans rfl rfl
theorem rs9 {a0 a1 a2 a3 a4 a5 a6 a7 a8 : Sl} {z x : Sl} {l : List Sl} : (a0 :: a1 :: a2 :: a3 :: a4 :: a5 :: a6 :: a7 :: a8 :: z :: l).set 9 x = a0 :: a1 :: a2 :: a3 :: a4 :: a5 :: a6 :: a7 :: a8 :: x :: l := Eq.trans rfl rfl
theorem ap9 {a0 a1 a2 a3 a4 a5 a6 a7 a8 : Sl} {f : List Sl → Rs D} {xs : List D} {l : List Sl} : fApp 9 f (a0 :: a1 :: a2 :: a3 :: a4 :: a5 :: a6 :: a7 :: a8 :: .ow (.l xs) :: l) = (f (a0 :: a1 :: a2 :: a3 :: a4 :: a5 :: a6 :: a7 :: a8 :: .ow (.l xs) :: l)).bind (appK 9) := Eq.trans rfl rfl
theorem aq9 {a0 a1 a2 a3 a4 a5 a6 a7 a8 : Sl} {dd : D} {xs : List D} {l : List Sl} (h : xs.length < 4000) : appK 9 dd (a0 :: a1 :: a2 :: a3 :: a4 :: a5 :: a6 :: a7 :: a8 :: .ow (.l xs) :: l) = .ok .non (a0 :: a1 :: a2 :: a3 :: a4 :: a5 :: a6 :: a7 :: a8 :: .ow (.l (xs ++ [dd])) :: l) := if_pos (len_lt h)
theorem ix9 {a0 a1 a2 a3 a4 a5 a6 a7 a8 : Sl} {g : List Sl → Rs D} {dd : D} {l : List Sl} : fIxN 9 g (a0 :: a1 :: a2 :: a3 :: a4 :: a5 :: a6 :: a7 :: a8 :: .im dd :: l) = (g (a0 :: a1 :: a2 :: a3 :: a4 :: a5 :: a6 :: a7 :: a8 :: .im dd :: l)).bind (ixK 9) := Eq.trans rfl rfl
theorem iy9 {a0 a1 a2 a3 a4 a5 a6 a7 a8 : Sl} {g : List Sl → Rs D} {w : Ow} {l : List Sl} : fIxN 9 g (a0 :: a1 :: a2 :: a3 :: a4 :: a5 :: a6 :: a7 :: a8 :: .ow w :: l) = (g (a0 :: a1 :: a2 :: a3 :: a4 :: a5 :: a6 :: a7 :: a8 :: .ow w :: l)).bind (ixK 9) := Eq.trans rfl rfl
theorem iz9 {a0 a1 a2 a3 a4 a5 a6 a7 a8 : Sl} {k : D} {xs : List D} {l : List Sl} : ixK 9 k (a0 :: a1 :: a2 :: a3 :: a4 :: a5 :: a6 :: a7 :: a8 :: .im (.lst xs) :: l) = Rs.opt (ixD (.lst xs) k) (a0 :: a1 :: a2 :: a3 :: a4 :: a5 :: a6 :: a7 :: a8 :: .im (.lst xs) :: l) := Eq.trans rfl rfl
theorem it9 {a0 a1 a2 a3 a4 a5 a6 a7 a8 : Sl} {k : D} {xs : List D} {l : List Sl} : ixK 9 k (a0 :: a1 :: a2 :: a3 :: a4 :: a5 :: a6 :: a7 :: a8 :: .im (.tup xs) :: l) = Rs.opt (ixD (.tup xs) k) (a0 :: a1 :: a2 :: a3 :: a4 :: a5 :: a6 :: a7 :: a8 :: .im (.tup xs) :: l) := Eq.trans rfl rfl
theorem iw9 {a0 a1 a2 a3 a4 a5 a6 a7 a8 : Sl} {k : D} {xs : List D} {l : List Sl} : ixK 9 k (a0 :: a1 :: a2 :: a3 :: a4 :: a5 :: a6 :: a7 :: a8 :: .ow (.l xs) :: l) = Rs.opt (ixD (.lst xs) k) (a0 :: a1 :: a2 :: a3 :: a4 :: a5 :: a6 :: a7 :: a8 :: .ow (.l xs) :: l) := Eq.trans rfl rfl
theorem ol9 {a0 a1 a2 a3 a4 a5 a6 a7 a8 : Sl} {xs : List D} {l : List Sl} : ownLen 9 (a0 :: a1 :: a2 :: a3 :: a4 :: a5 :: a6 :: a7 :: a8 :: .ow (.l xs) :: l) = .ok (.int xs.length) (a0 :: a1 :: a2 :: a3 :: a4 :: a5 :: a6 :: a7 :: a8 :: .ow (.l xs) :: l) := Eq.trans rfl rfl
theorem om9 {a0 a1 a2 a3 a4 a5 a6 a7 a8 : Sl} {xs : List D} {l : List Sl} : ownLen 9 (a0 :: a1 :: a2 :: a3 :: a4 :: a5 :: a6 :: a7 :: a8 :: .im (.lst xs) :: l) = .ok (.int xs.length) (a0 :: a1 :: a2 :: a3 :: a4 :: a5 :: a6 :: a7 :: a8 :: .im (.lst xs) :: l) := Eq.trans rfl rfl
theorem on9 {a0 a1 a2 a3 a4 a5 a6 a7 a8 : Sl} {xs : List D} {l : List Sl} : ownLen 9 (a0 :: a1 :: a2 :: a3 :: a4 :: a5 :: a6 :: a7 :: a8 :: .im (.tup xs) :: l) = .ok (.int xs.length) (a0 :: a1 :: a2 :: a3 :: a4 :: a5 :: a6 :: a7 :: a8 :: .im (.tup xs) :: l) := Eq.trans rfl rfl
theorem au9 {a0 a1 a2 a3 a4 a5 a6 a7 a8 : Sl} {f g : List Sl → Rs D} {c : D → D → Option D} {xs : List D} {l : List Sl} : augItem 9 f g c (a0 :: a1 :: a2 :: a3 :: a4 :: a5 :: a6 :: a7 :: a8 :: .ow (.l xs) :: l) = (f (a0 :: a1 :: a2 :: a3 :: a4 :: a5 :: a6 :: a7 :: a8 :: .ow (.l xs) :: l)).ro (augK 9 g c) := Eq.trans rfl rfl
theorem av9 {a0 a1 a2 a3 a4 a5 a6 a7 a8 : Sl} {g : List Sl → Rs D} {c : D → D → Option D} {j : Int} {xs : List D} {l : List Sl} (h0 : 0 ≤ j) (h1 : j < (xs.length : Int)) : augK 9 g c (.int j) (a0 :: a1 :: a2 :: a3 :: a4 :: a5 :: a6 :: a7 :: a8 :: .ow (.l xs) :: l) = (g (a0 :: a1 :: a2 :: a3 :: a4 :: a5 :: a6 :: a7 :: a8 :: .ow (.l xs) :: l)).ro (augM 9 c j (xs.getD j.toNat .non)) := augK_ok rfl h0 h1
theorem aw9 {a0 a1 a2 a3 a4 a5 a6 a7 a8 : Sl} {j : Int} {z : D} {xs : List D} {l : List Sl} (h1 : j < (xs.length : Int)) : augZ 9 j (a0 :: a1 :: a2 :: a3 :: a4 :: a5 :: a6 :: a7 :: a8 :: .ow (.l xs) :: l) (some z) = .nx (a0 :: a1 :: a2 :: a3 :: a4 :: a5 :: a6 :: a7 :: a8 :: .ow (.l (xs.set j.toNat z)) :: l) := augZ_ok rfl h1
theorem gi9 {a0 a1 a2 a3 a4 a5 a6 a7 a8 : Sl} {f : List Sl → Rs D} {dd : D} {xs : List D} {l : List Sl} : gIt 9 f dd (a0 :: a1 :: a2 :: a3 :: a4 :: a5 :: a6 :: a7 :: a8 :: .ow (.l xs) :: l) = kRob (f (a0 :: a1 :: a2 :: a3 :: a4 :: a5 :: a6 :: a7 :: a8 :: .ow (.l xs) :: l)) (gItK 9 dd) := gIt_ok rfl
theorem gj9 {a0 a1 a2 a3 a4 a5 a6 a7 a8 : Sl} {j : Int} {dd : D} {xs : List D} {l : List Sl} (h0 : 0 ≤ j) (h1 : j < (xs.length : Int)) : gItK 9 dd (.int j) (a0 :: a1 :: a2 :: a3 :: a4 :: a5 :: a6 :: a7 :: a8 :: .ow (.l xs) :: l) = .nx (a0 :: a1 :: a2 :: a3 :: a4 :: a5 :: a6 :: a7 :: a8 :: .ow (.l (xs.set j.toNat dd)) :: l) := if_pos ⟨h0, h1⟩
theorem ag9 {a0 a1 a2 a3 a4 a5 a6 a7 a8 : Sl} {f : List Sl → Rs D} {c : D → D → Option D} {x : D} {l : List Sl} : fAug 9 f c (a0 :: a1 :: a2 :: a3 :: a4 :: a5 :: a6 :: a7 :: a8 :: .im x :: l) = (f (a0 :: a1 :: a2 :: a3 :: a4 :: a5 :: a6 :: a7 :: a8 :: .im x :: l)).ro (agK 9 c x) := fAug_ok rfl
theorem xe9 {a0 a1 a2 a3 a4 a5 a6 a7 a8 : Sl} {f : List Sl → Rs D} {xs : List D} {l : List Sl} : fExt 9 f (a0 :: a1 :: a2 :: a3 :: a4 :: a5 :: a6 :: a7 :: a8 :: .ow (.l xs) :: l) = (f (a0 :: a1 :: a2 :: a3 :: a4 :: a5 :: a6 :: a7 :: a8 :: .ow (.l xs) :: l)).bind (extK 9) := Eq.trans rfl rfl
theorem xh9 {a0 a1 a2 a3 a4 a5 a6 a7 a8 : Sl} {xs ys : List D} {l : List Sl} (h : xs.length + ys.length ≤ 4000) : extK 9 (.lst ys) (a0 :: a1 :: a2 :: a3 :: a4 :: a5 :: a6 :: a7 :: a8 :: .ow (.l xs) :: l) = .ok .non (a0 :: a1 :: a2 :: a3 :: a4 :: a5 :: a6 :: a7 :: a8 :: .ow (.l (xs ++ ys)) :: l) := if_pos (len_le h)
theorem fz9 {a0 a1 a2 a3 a4 a5 a6 a7 a8 : Sl} {xs : List D} {l : List Sl} : frzE 9 (a0 :: a1 :: a2 :: a3 :: a4 :: a5 :: a6 :: a7 :: a8 :: .ow (.l xs) :: l) = a0 :: a1 :: a2 :: a3 :: a4 :: a5 :: a6 :: a7 :: a8 :: .im (.lst xs) :: l := Eq.trans rfl rfl
theorem fy9 {a0 a1 a2 a3 a4 a5 a6 a7 a8 : Sl} {dd : D} {l : List Sl} : frzE 9 (a0 :: a1 :: a2 :: a3 :: a4 :: a5 :: a6 :: a7 :: a8 :: .im dd :: l) = a0 :: a1 :: a2 :: a3 :: a4 :: a5 :: a6 :: a7 :: a8 :: .im dd :: l := Eq.trans rfl rfl
theorem ri10 {a0 a1 a2 a3 a4 a5 a6 a7 a8 a9 : Sl} {dd : D} {l : List Sl} : rdN 10 (a0 :: a1 :: a2 :: a3 :: a4 :: a5 :: a6 :: a7 :: a8 :: a9 :: .im dd :: l) = .ok dd (a0 :: a1 :: a2 :: a3 :: a4 :: a5 :: a6 :: a7 :: a8 :: a9 :: .im dd :: l) := Eq.trans rfl rfl
theorem ro10 {a0 a1 a2 a3 a4 a5 a6 a7 a8 a9 : Sl} {xs : List D} {l : List Sl} : rdN 10 (a0 :: a1 :: a2 :: a3 :: a4 :: a5 :: a6 :: a7 :: a8 :: a9 :: .ow (.l xs) :: l) = .ok (.lst xs) (a0 :: a1 :: a2 :: a3 :: a4 :: a5 :: a6 :: a7 :: a8 :: a9 :: .im (.lst xs) :: l) := Eq.trans rfl rfl
theorem rs10 {a0 a1 a2 a3 a4 a5 a6 a7 a8 a9 : Sl} {z x : Sl} {l : List Sl} : (a0 :: a1 :: a2 :: a3 :: a4 :: a5 :: a6 :: a7 :: a8 :: a9 :: z :: l).set 10 x = a0 :: a1 :: a2 :: a3 :: a4 :: a5 :: a6 :: a7 :: a8 :: a9 :: x :: l := Eq.trans rfl rfl
theorem ap10 {a0 a1 a2 a3 a4 a5 a6 a7 a8 a9 : Sl} {f : List Sl → Rs D} {xs : List D} {l : List Sl} : fApp 10 f (a0 :: a1 :: a2 :: a3 :: a4 :: a5 :: a6 :: a7 :: a8 :: a9 :: .ow (.l xs) :: l) = (f (a0 :: a1 :: a2 :: a3 :: a4 :: a5 :: a6 :: a7 :: a8 :: a9 :: .ow (.l xs) :: l)).bind (appK 10) := Eq.trans rfl rfl
theorem aq10 {a0 a1 a2 a3 a4 a5 a6 a7 a8 a9 : Sl} {dd : D} {xs : List D} {l : List Sl} (h : xs.length < 4000) : appK 10 dd (a0 :: a1 :: a2 :: a3 :: a4 :: a5 :: a6 :: a7 :: a8 :: a9 :: .ow (.l xs) :: l) = .ok .non (a0 :: a1 :: a2 :: a3 :: a4 :: a5 :: a6 :: a7 :: a8 :: a9 :: .ow (.l (xs ++ [dd])) :: l) := if_pos (len_lt h)
theorem ix10 {a0 a1 a2 a3 a4 a5 a6 a7 a8 a9 : Sl} {g : List Sl → Rs D} {dd : D} {l : List Sl} : fIxN 10 g (a0 :: a1 :: a2 :: a3 :: a4 :: a5 :: a6 :: a7 :: a8 :: a9 :: .im dd :: l) = (g (a0 :: a1 :: a2 :: a3 :: a4 :: a5 :: a6 :: a7 :: a8 :: a9 :: .im dd :: l)).bind (ixK 10) := Eq.trans rfl rfl
theorem iy10 {a0 a1 a2 a3 a4 a5 a6 a7 a8 a9 : Sl} {g : List Sl → Rs D} {w : Ow} {l : List Sl} : fIxN 10 g (a0 :: a1 :: a2 :: a3 :: a4 :: a5 :: a6 :: a7 :: a8 :: a9 :: .ow w :: l) = (g (a0 :: a1 :: a2 :: a3 :: a4 :: a5 :: a6 :: a7 :: a8 :: a9 :: .ow w :: l)).bind (ixK 10) := Eq.trans rfl rfl
theorem iz10 {a0 a1 a2 a3 a4 a5 a6 a7 a8 a9 : Sl} {k : D} {xs : List D} {l : List Sl} : ixK 10 k (a0 :: a1 :: a2 :: a3 :: a4 :: a5 :: a6 :: a7 :: a8 :: a9 :: .im (.lst xs) :: l) = Rs.opt (ixD (.lst xs) k) (a0 :: a1 :: a2 :: a3 :: a4 :: a5 :: a6 :: a7 :: a8 :: a9 :: .im (.lst xs) :: l) := Eq.trans rfl rfl
theorem it10 {a0 a1 a2 a3 a4 a5 a6 a7 a8 a9 : Sl} {k : D} {xs : List D} {l : List Sl} : ixK 10 k (a0 :: a1 :: a2 :: a3 :: a4 :: a5 :: a6 :: a7 :: a8 :: a9 :: .im (.tup xs) :: l) = Rs.opt (ixD (.tup xs) k) (a0 :: a1 :: a2 :: a3 :: a4 :: a5 :: a6 :: a7 :: a8 :: a9 :: .im (.tup xs) :: l) := Eq.trans rfl rfl
theorem iw10 {a0 a1 a2 a3 a4 a5 a6 a7 a8 a9 : Sl} {k : D} {xs : List D} {l : List Sl} : ixK 10 k (a0 :: a1 :: a2 :: a3 :: a4 :: a5 :: a6 :: a7 :: a8 :: a9 :: .ow (.l xs) :: l) = Rs.opt (ixD (.lst xs) k) (a0 :: a1 :: a2 :: a3 :: a4 :: a5 :: a6 :: a7 :: a8 :: a9 :: .ow (.l xs) :: l) := Eq.trans rfl rfl
theorem ol10 {a0 a1 a2 a3 a4 a5 a6 a7 a8 a9 : Sl} {xs : List D} {l : List Sl} : ownLen 10 (a0 :: a1 :: a2 :: a3 :: a4 :: a5 :: a6 :: a7 :: a8 :: a9 :: .ow (.l xs) :: l) = .ok (.int xs.length) (a0 :: a1 :: a2 :: a3 :: a4 :: a5 :: a6 :: a7 :: a8 :: a9 :: .ow (.l xs) :: l) := Eq.trans rfl rfl
theorem om10 {a0 a1 a2 a3 a4 a5 a6 a7 a8 a9 : Sl} {xs : List D} {l : List Sl} : ownLen 10 (a0 :: a1 :: a2 :: a3 :: a4 :: a5 :: a6 :: a7 :: a8 :: a9 :: .im (.lst xs) :: l) = .ok (.int xs.length) (a0 :: a1 :: a2 :: a3 :: a4 :: a5 :: a6 :: a7 :: a8 :: a9 :: .im (.lst xs) :: l) := Eq.trans rfl rfl
theorem on10 {a0 a1 a2 a3 a4 a5 a6 a7 a8 a9 : Sl} {xs : List D} {l : List Sl} : ownLen 10 (a0 :: a1 :: a2 :: a3 :: a4 :: a5 :: a6 :: a7 :: a8 :: a9 :: .im (.tup xs) :: l) = .ok (.int xs.length) (a0 :: a1 :: a2 :: a3 :: a4 :: a5 :: a6 :: a7 :: a8 :: a9 :: .im (.tup xs) :: l) := Eq.trans rfl rfl
theorem au10 {a0 a1 a2 a3 a4 a5 a6 a7 a8 a9 : Sl} {f g : List Sl → Rs D} {c : D → D → Option D} {xs : List D} {l : List Sl} : augItem 10 f g c (a0 :: a1 :: a2 :: a3 :: a4 :: a5 :: a6 :: a7 :: a8 :: a9 :: .ow (.l xs) :: l) = (f (a0 :: a1 :: a2 :: a3 :: a4 :: a5 :: a6 :: a7 :: a8 :: a9 :: .ow (.l xs) :: l)).ro (augK 10 g c) := Eq.trans rfl rfl
theorem av10 {a0 a1 a2 a3 a4 a5 a6 a7 a8 a9 : Sl} {g : List Sl → Rs D} {c : D → D → Option D} {j : Int} {xs : List D} {l : List Sl} (h0 : 0 ≤ j) (h1 : j < (xs.length : Int)) : augK 10 g c (.int j) (a0 :: a1 :: a2 :: a3 :: a4 :: a5 :: a6 :: a7 :: a8 :: a9 :: .ow (.l xs) :: l) = (g (a0 :: a1 :: a2 :: a3 :: a4 :: a5 :: a6 :: a7 :: a8 :: a9 :: .ow (.l xs) :: l)).ro (augM 10 c j (xs.getD j.toNat .non)) := augK_ok rfl h0 h1
theorem aw10 {a0 a1 a2 a3 a4 a5 a6 a7 a8 a9 : Sl} {j : Int} {z : D} {xs : List D} {l : List Sl} (h1 : j < (xs.length : Int)) : augZ 10 j (a0 :: a1 :: a2 :: a3 :: a4 :: a5 :: a6 :: a7 :: a8 :: a9 :: .ow (.l xs) :: l) (some z) = .nx (a0 :: a1 :: a2 :: a3 :: a4 :: a5 :: a6 :: a7 :: a8 :: a9 :: .ow (.l (xs.set j.toNat z)) :: l) := augZ_ok rfl h1
theorem gi10 {a0 a1 a2 a3 a4 a5 a6 a7 a8 a9 : Sl} {f : List Sl → Rs D} {dd : D} {xs : List D} {l : List Sl} : gIt 10 f dd (a0 :: a1 :: a2 :: a3 :: a4 :: a5 :: a6 :: a7 :: a8 :: a9 :: .ow (.l xs) :: l) = kRob (f (a0 :: a1 :: a2 :: a3 :: a4 :: a5 :: a6 :: a7 :: a8 :: a9 :: .ow (.l xs) :: l)) (gItK 10 dd) := gIt_ok rfl
theorem gj10 {a0 a1 a2 a3 a4 a5 a6 a7 a8 a9 : Sl} {j : Int} {dd : D} {xs : List D} {l : List Sl} (h0 : 0 ≤ j) (h1 : j < (xs.length : Int)) : gItK 10 dd (.int j) (a0 :: a1 :: a2 :: a3 :: a4 :: a5 :: a6 :: a7 :: a8 :: a9 :: .ow (.l xs) :: l) = .nx (a0 :: a1 :: a2 :: a3 :: a4 :: a5 :: a6 :: a7 :: a8 :: a9 :: .ow (.l (xs.set j.toNat dd)) :: l) := if_pos ⟨h0, h1⟩
theorem ag10 {a0 a1 a2 a3 a4 a5 a6 a7 a8 a9 : Sl} {f : List Sl → Rs D} {c : D → D → Option D} {x : D} {l : List Sl} : fAug 10 f c (a0 :: a1 :: a2 :: a3 :: a4 :: a5 :: a6 :: a7 :: a8 :: a9 :: .im x :: l) = (f (a0 :: a1 :: a2 :: a3 :: a4 :: a5 :: a6 :: a7 :: a8 :: a9 :: .im x :: l)).ro (agK 10 c x) := fAug_ok rfl
theorem xe10 {a0 a1 a2 a3 a4 a5 a6 a7 a8 a9 : Sl} {f : List Sl → Rs D} {xs : List D} {l : List Sl} : fExt 10 f (a0 :: a1 :: a2 :: a3 :: a4 :: a5 :: a6 :: a7 :: a8 :: a9 :: .ow (.l xs) :: l) = (f (a0 :: a1 :: a2 :: a3 :: a4 :: a5 :: a6 :: a7 :: a8 :: a9 :: .ow (.l xs) :: l)).bind (extK 10) := Eq.trans rfl rfl
theorem xh10 {a0 a1 a2 a3 a4 a5 a6 a7 a8 a9 : Sl} {xs ys : List D} {l : List Sl} (h : xs.length + ys.length ≤ 4000) : extK 10 (.lst ys) (a0 :: a1 :: a2 :: a3 :: a4 :: a5 :: a6 :: a7 :: a8 :: a9 :: .ow (.l xs) :: l) = .ok .non (a0 :: a1 :: a2 :: a3 :: a4 :: a5 :: a6 :: a7 :: a8 :: a9 :: .ow (.l (xs ++ ys)) :: l) := if_pos (len_le h)
theorem fz10 {a0 a1 a2 a3 a4 a5 a6 a7 a8 a9 : Sl} {xs : List D} {l : List Sl} : frzE 10 (a0 :: a1 :: a2 :: a3 :: a4 :: a5 :: a6 :: a7 :: a8 :: a9 :: .ow (.l xs) :: l) = a0 :: a1 :: a2 :: a3 :: a4 :: a5 :: a6 :: a7 :: a8 :: a9 :: .im (.lst xs) :: l := Eq.trans rfl rfl
theorem fy10 {a0 a1 a2 a3 a4 a5 a6 a7 a8 a9 : Sl} {dd : D} {l : List Sl} : frzE 10 (a0 :: a1 :: a2 :: a3 :: a4 :: a5 :: a6 :: a7 :: a8 :: a9 :: .im dd :: l) = a0 :: a1 :: a2 :: a3 :: a4 :: a5 :: a6 :: a7 :: a8 :: a9 :: .im dd :: l := Eq.trans rfl rfl
theorem ri11 {a0 a1 a2 a3 a4 a5 a6 a7 a8 a9 a10 : Sl} {dd : D} {l : List Sl} : rdN 11 (a0 :: a1 :: a2 :: a3 :: a4 :: a5 :: a6 :: a7 :: a8 :: a9 :: a10 :: .im dd :: l) = .ok dd (a0 :: a1 :: a2 :: a3 :: a4 :: a5 :: a6 :: a7 :: a8 :: a9 :: a10 :: .im dd :: l) := Eq.trans rfl rfl
theorem ro11 {a0 a1 a2 a3 a4 a5 a6 a7 a8 a9 a10 : Sl} {xs : List D} {l : List Sl} : rdN 11 (a0 :: a1 :: a2 :: a3 :: a4 :: a5 :: a6 :: a7 :: a8 :: a9 :: a10 :: .ow (.l xs) :: l) = .ok (.lst xs) (a0 :: a1 :: a2 :: a3 :: a4 :: a5 :: a6 :: a7 :: a8 :: a9 :: a10 :: .im (.lst xs) :: l) := Eq.trans rfl rfl
theorem rs11 {a0 a1 a2 a3 a4 a5 a6 a7 a8 a9 a10 : Sl} {z x : Sl} {l : List Sl} : (a0 :: a1 :: a2 :: a3 :: a4 :: a5 :: a6 :: a7 :: a8 :: a9 :: a10 :: z :: l).set 11 x = a0 :: a1 :: a2 :: a3 :: a4 :: a5 :: a6 :: a7 :: a8 :: a9 :: a10 :: x :: l := Eq.trans rfl rfl
theorem ap11 {a0 a1 a2 a3 a4 a5 a6 a7 a8 a9 a10 : Sl} {f : List Sl → Rs D} {xs : List D} {l : List Sl} : fApp 11 f (a0 :: a1 :: a2 :: a3 :: a4 :: a5 :: a6 :: a7 :: a8 :: a9 :: a10 :: .ow (.l xs) :: l) = (f (a0 :: a1 :: a2 :: a3 :: a4 :: a5 :: a6 :: a7 :: a8 :: a9 :: a10 :: .ow (.l xs) :: l)).bind (appK 11) := Eq.trans rfl rfl
theorem aq11 {a0 a1 a2 a3 a4 a5 a6 a7 a8 a9 a10 : Sl} {dd : D} {xs : List D} {l : List Sl} (h : xs.length < 4000) : appK 11 dd (a0 :: a1 :: a2 :: a3 :: a4 :: a5 :: a6 :: a7 :: a8 :: a9 :: a10 :: .ow (.l xs) :: l) = .ok .non (a0 :: a1 :: a2 :: a3 :: a4 :: a5 :: a6 :: a7 :: a8 :: a9 :: a10 :: .ow (.l (xs ++ [dd])) :: l) := if_pos (len_lt h)
theorem ix11 {a0 a1 a2 a3 a4 a5 a6 a7 a8 a9 a10 : Sl} {g : List Sl → Rs D} {dd : D} {l : List Sl} : fIxN 11 g (a0 :: a1 :: a2 :: a3 :: a4 :: a5 :: a6 :: a7 :: a8 :: a9 :: a10 :: .im dd :: l) = (g (a0 :: a1 :: a2 :: a3 :: a4 :: a5 :: a6 :: a7 :: a8 :: a9 :: a10 :: .im dd :: l)).bind (ixK 11) := Eq.trans rfl rfl
theorem iy11 {a0 a1 a2 a3 a4 a5 a6 a7 a8 a9 a10 : Sl} {g : List Sl → Rs D} {w : Ow} {l : List Sl} : fIxN 11 g (a0 :: a1 :: a2 :: a3 :: a4 :: a5 :: a6 :: a7 :: a8 :: a9 :: a10 :: .ow w :: l) = (g (a0 :: a1 :: a2 :: a3 :: a4 :: a5 :: a6 :: a7 :: a8 :: a9 :: a10 :: .ow w :: l)).bind (ixK 11) := Eq.trans rfl rfl
theorem iz11 {a0 a1 a2 a3 a4 a5 a6 a7 a8 a9 a10 : Sl} {k : D} {xs : List D} {l : List Sl} : ixK 11 k (a0 :: a1 :: a2 :: a3 :: a4 :: a5 :: a6 :: a7 :: a8 :: a9 :: a10 :: .im (.lst xs) :: l) = Rs.opt (ixD (.lst xs) k) (a0 :: a1 :: a2 :: a3 :: a4 :: a5 :: a6 :: a7 :: a8 :: a9 :: a10 :: .im (.lst xs) :: l) := Eq.trans rfl rfl
theorem it11 {a0 a1 a2 a3 a4 a5 a6 a7 a8 a9 a10 : Sl} {k : D} {xs : List D} {l : List Sl} : ixK 11 k (a0 :: a1 :: a2 :: a3 :: a4 :: a5 :: a6 :: a7 :: a8 :: a9 :: a10 :: .im (.tup xs) :: l) = Rs.opt (ixD (.tup xs) k) (a0 :: a1 :: a2 :: a3 :: a4 :: a5 :: a6 :: a7 :: a8 :: a9 :: a10 :: .im (.tup xs) :: l) := Eq.trans rfl rfl
theorem iw11 {a0 a1 a2 a3 a4 a5 a6 a7 a8 a9 a10 : Sl} {k : D} {xs : List D} {l : List Sl} : ixK 11 k (a0 :: a1 :: a2 :: a3 :: a4 :: a5 :: a6 :: a7 :: a8 :: a9 :: a10 :: .ow (.l xs) :: l) = Rs.opt (ixD (.lst xs) k) (a0 :: a1 :: a2 :: a3 :: a4 :: a5 :: a6 :: a7 :: a8 :: a9 :: a10 :: .ow (.l xs) :: l) := Eq.trans rfl rfl
theorem ol11 {a0 a1 a2 a3 a4 a5 a6 a7 a8 a9 a10 : Sl} {xs : List D} {l : List Sl} : ownLen 11 (a0 :: a1 :: a2 :: a3 :: a4 :: a5 :: a6 :: a7 :: a8 :: a9 :: a10 :: .ow (.l xs) :: l) = .ok (.int xs.length) (a0 :: a1 :: a2 :: a3 :: a4 :: a5 :: a6 :: a7 :: a8 :: a9 :: a10 :: .ow (.l xs) :: l) := Eq.trans rfl rfl
theorem om11 {a0 a1 a2 a3 a4 a5 a6 a7 a8 a9 a10 : Sl} {xs : List D} {l : List Sl} : ownLen 11 (a0 :: a1 :: a2 :: a3 :: a4 :: a5 :: a6 :: a7 :: a8 :: a9 :: a10 :: .im (.lst xs) :: l) = .ok (.int xs.length) (a0 :: a1 :: a2 :: a3 :: a4 :: a5 :: a6 :: a7 :: a8 :: a9 :: a10 :: .im (.lst xs) :: l) := Eq.trans rfl rfl
theorem on11 {a0 a1 a2 a3 a4 a5 a6 a7 a8 a9 a10 : Sl} {xs : List D} {l : List Sl} : ownLen 11 (a0 :: a1 :: a2 :: a3 :: a4 :: a5 :: a6 :: a7 :: a8 :: a9 :: a10 :: .im (.tup xs) :: l) = .ok (.int xs.length) (a0 :: a1 :: a2 :: a3 :: a4 :: a5 :: a6 :: a7 :: a8 :: a9 :: a10 :: .im (.tup xs) :: l) := Eq.trans rfl rfl
theorem au11 {a0 a1 a2 a3 a4 a5 a6 a7 a8 a9 a10 : Sl} {f g : List Sl → Rs D} {c : D → D → Option D} {xs : List D} {l : List Sl} : augItem 11 f g c (a0 :: a1 :: a2 :: a3 :: a4 :: a5 :: a6 :: a7 :: a8 :: a9 :: a10 :: .ow (.l xs) :: l) = (f (a0 :: a1 :: a2 :: a3 :: a4 :: a5 :: a6 :: a7 :: a8 :: a9 :: a10 :: .ow (.l xs) :: l)).ro (augK 11 g c) := Eq.trans rfl rfl
theorem av11 {a0 a1 a2 a3 a4 a5 a6 a7 a8 a9 a10 : Sl} {g : List Sl → Rs D} {c : D → D → Option D} {j : Int} {xs : List D} {l : List Sl} (h0 : 0 ≤ j) (h1 : j < (xs.length : Int)) : augK 11 g c (.int j) (a0 :: a1 :: a2 :: a3 :: a4 :: a5 :: a6 :: a7 :: a8 :: a9 :: a10 :: .ow (.l xs) :: l) = (g (a0 :: a1 :: a2 :: a3 :: a4 :: a5 :: a6 :: a7 :: a8 :: a9 :: a10 :: .ow (.l xs) :: l)).ro (augM 11 c j (xs.getD j.toNat .non)) := augK_ok rfl h0 h1
theorem aw11 {a0 a1 a2 a3 a4 a5 a6 a7 a8 a9 a10 : Sl} {j : Int} {z : D} {xs : List D} {l : List Sl} (h1 : j < (xs.length : Int)) : augZ 11 j (a0 :: a1 :: a2 :: a3 :: a4 :: a5 :: a6 :: a7 :: a8 :: a9 :: a10 :: .ow (.l xs) :: l) (some z) = .nx (a0 :: a1 :: a2 :: a3 :: a4 :: a5 :: a6 :: a7 :: a8 :: a9 :: a10 :: .ow (.l (xs.set j.toNat z)) :: l) := augZ_ok rfl h1
theorem gi11 {a0 a1 a2 a3 a4 a5 a6 a7 a8 a9 a10 : Sl} {f : List Sl → Rs D} {dd : D} {xs : List D} {l : List Sl} : gIt 11 f dd (a0 :: a1 :: a2 :: a3 :: a4 :: a5 :: a6 :: a7 :: a8 :: a9 :: a10 :: .ow (.l xs) :: l) = kRob (f (a0 :: a1 :: a2 :: a3 :: a4 :: a5 :: a6 :: a7 :: a8 :: a9 :: a10 :: .ow (.l xs) :: l)) (gItK 11 dd) := gIt_ok rfl
theorem gj11 {a0 a1 a2 a3 a4 a5 a6 a7 a8 a9 a10 : Sl} {j : Int} {dd : D} {xs : List D} {l : List Sl} (h0 : 0 ≤ j) (h1 : j < (xs.length : Int)) : gItK 11 dd (.int j) (a0 :: a1 :: a2 :: a3 :: a4 :: a5 :: a6 :: a7 :: a8 :: a9 :: a10 :: .ow (.l xs) :: l) = .nx (a0 :: a1 :: a2 :: a3 :: a4 :: a5 :: a6 :: a7 :: a8 :: a9 :: a10 :: .ow (.l (xs.set j.toNat dd)) :: l) := if_pos ⟨h0, h1⟩
theorem ag11 {a0 a1 a2 a3 a4 a5 a6 a7 a8 a9 a10 : Sl} {f : List Sl → Rs D} {c : D → D → Option D} {x : D} {l : List Sl} : fAug 11 f c (a0 :: a1 :: a2 :: a3 :: a4 :: a5 :: a6 :: a7 :: a8 :: a9 :: a10 :: .im x :: l) = (f (a0 :: a1 :: a2 :: a3 :: a4 :: a5 :: a6 :: a7 :: a8 :: a9 :: a10 :: .im x :: l)).ro (agK 11 c x) := fAug_ok rfl
theorem xe11 {a0 a1 a2 a3 a4 a5 a6 a7 a8 a9 a10 : Sl} {f : List Sl → Rs D} {xs : List D} {l : List Sl} : fExt 11 f (a0 :: a1 :: a2 :: a3 :: a4 :: a5 :: a6 :: a7 :: a8 :: a9 :: a10 :: .ow (.l xs) :: l) = (f (a0 :: a1 :: a2 :: a3 :: a4 :: a5 :: a6 :: a7 :: a8 :: a9 :: a10 :: .ow (.l xs) :: l)).bind (extK 11) := Eq.trans rfl rfl
theorem xh11 {a0 a1 a2 a3 a4 a5 a6 a7 a8 a9 a10 : Sl} {xs ys : List D} {l : List Sl} (h : xs.length + ys.length ≤ 4000) : extK 11 (.lst ys) (a0 :: a1 :: a2 :: a3 :: a4 :: a5 :: a6 :: a7 :: a8 :: a9 :: a10 :: .ow (.l xs) :: l) = .ok .non (a0 :: a1 :: a2 :: a3 :: a4 :: a5 :: a6 :: a7 :: a8 :: a9 :: a10 :: .ow (.l (xs ++ ys)) :: l) := if_pos (len_le h)
theorem fz11 {a0 a1 a2 a3 a4 a5 a6 a7 a8 a9 a10 : Sl} {xs : List D} {l : List Sl} : frzE 11 (a0 :: a1 :: a2 :: a3 :: a4 :: a5 :: a6 :: a7 :: a8 :: a9 :: a10 :: .ow (.l xs) :: l) = a0 :: a1 :: a2 :: a3 :: a4 :: a5 :: a6 :: a7 :: a8 :: a9 :: a10 :: .im (.lst xs) :: l := Eq.trans rfl rfl
theorem fy11 {a0 a1 a2 a3 a4 a5 a6 a7 a8 a9 a10 : Sl} {dd : D} {l : List Sl} : frzE 11 (a0 :: a1 :: a2 :: a3 :: a4 :: a5 :: a6 :: a7 :: a8 :: a9 :: a10 :: .im dd :: l) = a0 :: a1 :: a2 :: a3 :: a4 :: a5 :: a6 :: a7 :: a8 :: a9 :: a10 :: .im dd :: l := Eq.trans rfl rfl
theorem ri12 {a0 a1 a2 a3 a4 a5 a6 a7 a8 a9 a10 a11 : Sl} {dd : D} {l : List Sl} : rdN 12 (a0 :: a1 :: a2 :: a3 :: a4 :: a5 :: a6 :: a7 :: a8 :: a9 :: a10 :: a11 :: .im dd :: l) = .ok dd (a0 :: a1 :: a2 :: a3 :: a4 :: a5 :: a6 :: a7 :: a8 :: a9 :: a10 :: a11 :: .im dd :: l) := Eq.trans rfl rfl
theorem ro12 {a0 a1 a2 a3 a4 a5 a6 a7 a8 a9 a10 a11 : Sl} {xs : List D} {l : List Sl} : rdN 12 (a0 :: a1 :: a2 :: a3 :: a4 :: a5 :: a6 :: a7 :: a8 :: a9 :: a10 :: a11 :: .ow (.l xs) :: l) = .ok (.lst xs) (a0 :: a1 :: a2 :: a3 :: a4 :: a5 :: a6 :: a7 :: a8 :: a9 :: a10 :: a11 :: .im (.lst xs) :: l) := Eq.trans rfl rfl
theorem rs12 {a0 a1 a2 a3 a4 a5 a6 a7 a8 a9 a10 a11 : Sl} {z x : Sl} {l : List Sl} : (a0 :: a1 :: a2 :: a3 :: a4 :: a5 :: a6 :: a7 :: a8 :: a9 :: a10 :: a11 :: z :: l).set 12 x = a0 :: a1 :: a2 :: a3 :: a4 :: a5 :: a6 :: a7 :: a8 :: a9 :: a10 :: a11 :: x :: l := Eq.trans rfl rfl
theorem ap12 {a0 a1 a2 a3 a4 a5 a6 a7 a8 a9 a10 a11 : Sl} {f : List Sl → Rs D} {xs : List D} {l : List Sl} : fApp 12 f (a0 :: a1 :: a2 :: a3 :: a4 :: a5 :: a6 :: a7 :: a8 :: a9 :: a10 :: a11 :: .ow (.l xs) :: l) = (f (a0 :: a1 :: a2 :: a3 :: a4 :: a5 :: a6 :: a7 :: a8 :: a9 :: a10 :: a11 :: .ow (.l xs) :: l)).bind (appK 12) := Eq.trans rfl rfl
theorem aq12 {a0 a1 a2 a3 a4 a5 a6 a7 a8 a9 a10 a11 : Sl} {dd : D} {xs : List D} {l : List Sl} (h : xs.length < 4000) : appK 12 dd (a0 :: a1 :: a2 :: a3 :: a4 :: a5 :: a6 :: a7 :: a8 :: a9 :: a10 :: a11 :: .ow (.l xs) :: l) = .ok .non (a0 :: a1 :: a2 :: a3 :: a4 :: a5 :: a6 :: a7 :: a8 :: a9 :: a10 :: a11 :: .ow (.l (xs ++ [dd])) :: l) := if_pos (len_lt h)
theorem ix12 {a0 a1 a2 a3 a4 a5 a6 a7 a8 a9 a10 a11 : Sl} {g : List Sl → Rs D} {dd : D} {l : List Sl} : fIxN 12 g (a0 :: a1 :: a2 :: a3 :: a4 :: a5 :: a6 :: a7 :: a8 :: a9 :: a10 :: a11 :: .im dd :: l) = (g (a0 :: a1 :: a2 :: a3 :: a4 :: a5 :: a6 :: a7 :: a8 :: a9 :: a10 :: a11 :: .im dd :: l)).bind (ixK 12) := Eq.trans rfl rfl
theorem iy12 {a0 a1 a2 a3 a4 a5 a6 a7 a8 a9 a10 a11 : Sl} {g : List Sl → Rs D} {w : Ow} {l : List Sl} : fIxN 12 g (a0 :: a1 :: a2 :: a3 :: a4 :: a5 :: a6 :: a7 :: a8 :: a9 :: a10 :: a11 :: .ow w :: l) = (g (a0 :: a1 :: a2 :: a3 :: a4 :: a5 :: a6 :: a7 :: a8 :: a9 :: a10 :: a11 :: .ow w :: l)).bind (ixK 12) := Eq.trans rfl rfl
theorem iz12 {a0 a1 a2 a3 a4 a5 a6 a7 a8 a9 a10 a11 : Sl} {k : D} {xs : List D} {l : List Sl} : ixK 12 k (a0 :: a1 :: a2 :: a3 :: a4 :: a5 :: a6 :: a7 :: a8 :: a9 :: a10 :: a11 :: .im (.lst xs) :: l) = Rs.opt (ixD (.lst xs) k) (a0 :: a1 :: a2 :: a3 :: a4 :: a5 :: a6 :: a7 :: a8 :: a9 :: a10 :: a11 :: .im (.lst xs) :: l) := Eq.trans rfl rfl
theorem it12 {a0 a1 a2 a3 a4 a5 a6 a7 a8 a9 a10 a11 : Sl} {k : D} {xs : List D} {l : List Sl} : ixK 12 k (a0 :: a1 :: a2 :: a3 :: a4 :: a5 :: a6 :: a7 :: a8 :: a9 :: a10 :: a11 :: .im (.tup xs) :: l) = Rs.opt (ixD (.tup xs) k) (a0 :: a1 :: a2 :: a3 :: a4 :: a5 :: a6 :: a7 :: a8 :: a9 :: a10 :: a11 :: .im (.tup xs) :: l) := Eq.trans rfl rfl
theorem iw12 {a0 a1 a2 a3 a4 a5 a6 a7 a8 a9 a10 a11 : Sl} {k : D} {xs : List D} {l : List Sl} : ixK 12 k (a0 :: a1 :: a2 :: a3 :: a4 :: a5 :: a6 :: a7 :: a8 :: a9 :: a10 :: a11 :: .ow (.l xs) :: l) = Rs.opt (ixD (.lst xs) k) (a0 :: a1 :: a2 :: a3 :: a4 :: a5 :: a6 :: a7 :: a8 :: a9 :: a10 :: a11 :: .ow (.l xs) :: l) := Eq.trans rfl rfl
theorem ol12 {a0 a1 a2 a3 a4 a5 a6 a7 a8 a9 a10 a11 : Sl} {xs : List D} {l : List Sl} : ownLen 12 (a0 :: a1 :: a2 :: a3 :: a4 :: a5 :: a6 :: a7 :: a8 :: a9 :: a10 :: a11 :: .ow (.l xs) :: l) = .ok (.int xs.length) (a0 :: a1 :: a2 :: a3 :: a4 :: a5 :: a6 :: a7 :: a8 :: a9 :: a10 :: a11 :: .ow (.l xs) :: l) := Eq.trans rfl rfl
theorem om12 {a0 a1 a2 a3 a4 a5 a6 a7 a8 a9 a10 a11 : Sl} {xs : List D} {l : List Sl} : ownLen 12 (a0 :: a1 :: a2 :: a3 :: a4 :: a5 :: a6 :: a7 :: a8 :: a9 :: a10 :: a11 :: .im (.lst xs) :: l) = .ok (.int xs.length) (a0 :: a1 :: a2 :: a3 :: a4 :: a5 :: a6 :: a7 :: a8 :: a9 :: a10 :: a11 :: .im (.lst xs) :: l) := Eq.trans rfl rfl
theorem on12 {a0 a1 a2 a3 a4 a5 a6 a7 a8 a9 a10 a11 : Sl} {xs : List D} {l : List Sl} : ownLen 12 (a0 :: a1 :: a2 :: a3 :: a4 :: a5 :: a6 :: a7 :: a8 :: a9 :: a10 :: a11 :: .im (.tup xs) :: l) = .ok (.int xs.length) (a0 :: a1 :: a2 :: a3 :: a4 :: a5 :: a6 :: a7 :: a8 :: a9 :: a10 :: a11 :: .im (.tup xs) :: l) := Eq.trans rfl rfl
theorem au12 {a0 a1 a2 a3 a4 a5 a6 a7 a8 a9 a10 a11 : Sl} {f g : List Sl → Rs D} {c : D → D → Option D} {xs : List D} {l : List Sl} : augItem 12 f g c (a0 :: a1 :: a2 :: a3 :: a4 :: a5 :: a6 :: a7 :: a8 :: a9 :: a10 :: a11 :: .ow (.l xs) :: l) = (f (a0 :: a1 :: a2 :: a3 :: a4 :: a5 :: a6 :: a7 :: a8 :: a9 :: a10 :: a11 :: .ow (.l xs) :: l)).ro (augK 12 g c) := Eq.trans rfl rfl
theorem av12 {a0 a1 a2 a3 a4 a5 a6 a7 a8 a9 a10 a11 : Sl} {g : List Sl → Rs D} {c : D → D → Option D} {j : Int} {xs : List D} {l : List Sl} (h0 : 0 ≤ j) (h1 : j < (xs.length : Int)) : augK 12 g c (.int j) (a0 :: a1 :: a2 :: a3 :: a4 :: a5 :: a6 :: a7 :: a8 :: a9 :: a10 :: a11 :: .ow (.l xs) :: l) = (g (a0 :: a1 :: a2 :: a3 :: a4 :: a5 :: a6 :: a7 :: a8 :: a9 :: a10 :: a11 :: .ow (.l xs) :: l)).ro (augM 12 c j (xs.getD j.toNat .non)) := augK_ok rfl h0 h1
theorem aw12 {a0 a1 a2 a3 a4 a5 a6 a7 a8 a9 a10 a11 : Sl} {j : Int} {z : D} {xs : List D} {l : List Sl} (h1 : j < (xs.length : Int)) : augZ 12 j (a0 :: a1 :: a2 :: a3 :: a4 :: a5 :: a6 :: a7 :: a8 :: a9 :: a10 :: a11 :: .ow (.l xs) :: l) (some z) = .nx (a0 :: a1 :: a2 :: a3 :: a4 :: a5 :: a6 :: a7 :: a8 :: a9 :: a10 :: a11 :: .ow (.l (xs.set j.toNat z)) :: l) := augZ_ok rfl h1
theorem gi12 {a0 a1 a2 a3 a4 a5 a6 a7 a8 a9 a10 a11 : Sl} {f : List Sl → Rs D} {dd : D} {xs : List D} {l : List Sl} : gIt 12 f dd (a0 :: a1 :: a2 :: a3 :: a4 :: a5 :: a6 :: a7 :: a8 :: a9 :: a10 :: a11 :: .ow (.l xs) :: l) = kRob (f (a0 :: a1 :: a2 :: a3 :: a4 :: a5 :: a6 :: a7 :: a8 :: a9 :: a10 :: a11 :: .ow (.l xs) :: l)) (gItK 12 dd) := gIt_ok rfl
theorem gj12 {a0 a1 a2 a3 a4 a5 a6 a7 a8 a9 a10 a11 : Sl} {j : Int} {dd : D} {xs : List D} {l : List Sl} (h0 : 0 ≤ j) (h1 : j < (xs.length : Int)) : gItK 12 dd (.int j) (a0 :: a1 :: a2 :: a3 :: a4 :: a5 :: a6 :: a7 :: a8 :: a9 :: a10 :: a11 :: .ow (.l xs) :: l) = .nx (a0 :: a1 :: a2 :: a3 :: a4 :: a5 :: a6 :: a7 :: a8 :: a9 :: a10 :: a11 :: .ow (.l (xs.set j.toNat dd)) :: l) := if_pos ⟨h0, h1⟩
theorem ag12 {a0 a1 a2 a3 a4 a5 a6 a7 a8 a9 a10 a11 : Sl} {f : List Sl → Rs D} {c : D → D → Option D} {x : D} {l : List Sl} : fAug 12 f c (a0 :: a1 :: a2 :: a3 :: a4 :: a5 :: a6 :: a7 :: a8 :: a9 :: a10 :: a11 :: .im x :: l) = (f (a0 :: a1 :: a2 :: a3 :: a4 :: a5 :: a6 :: a7 :: a8 :: a9 :: a10 :: a11 :: .im x :: l)).ro (agK 12 c x) := fAug_ok rfl
theorem xe12 {a0 a1 a2 a3 a4 a5 a6 a7 a8 a9 a10 a11 : Sl} {f : List Sl → Rs D} {xs : List D} {l : List Sl} : fExt 12 f (a0 :: a1 :: a2 :: a3 :: a4 :: a5 :: a6 :: a7 :: a8 :: a9 :: a10 :: a11 :: .ow (.l xs) :: l) = (f (a0 :: a1 :: a2 :: a3 :: a4 :: a5 :: a6 :: a7 :: a8 :: a9 :: a10 :: a11 :: .ow (.l xs) :: l)).bind (extK 12) := Eq.trans rfl rfl
theorem xh12 {a0 a1 a2 a3 a4 a5 a6 a7 a8 a9 a10 a11 : Sl} {xs ys : List D} {l : List Sl} (h : xs.length + ys.length ≤ 4000) : extK 12 (.lst ys) (a0 :: a1 :: a2 :: a3 :: a4 :: a5 :: a6 :: a7 :: a8 :: a9 :: a10 :: a11 :: .ow (.l xs) :: l) = .ok .non (a0 :: a1 :: a2 :: a3 :: a4 :: a5 :: a6 :: a7 :: a8 :: a9 :: a10 :: a11 :: .ow (.l (xs ++ ys)) :: l) := if_pos (len_le h)
theorem fz12 {a0 a1 a2 a3 a4 a5 a6 a7 a8 a9 a10 a11 : Sl} {xs : List D} {l : List Sl} : frzE 12 (a0 :: a1 :: a2 :: a3 :: a4 :: a5 :: a6 :: a7 :: a8 :: a9 :: a10 :: a11 :: .ow (.l xs) :: l) = a0 :: a1 :: a2 :: a3 :: a4 :: a5 :: a6 :: a7 :: a8 :: a9 :: a10 :: a11 :: .im (.lst xs) :: l := Eq.trans rfl rfl
theorem fy12 {a0 a1 a2 a3 a4 a5 a6 a7 a8 a9 a10 a11 : Sl} {dd : D} {l : List Sl} : frzE 12 (a0 :: a1 :: a2 :: a3 :: a4 :: a5 :: a6 :: a7 :: a8 :: a9 :: a10 :: a11 :: .im dd :: l) = a0 :: a1 :: a2 :: a3 :: a4 :: a5 :: a6 :: a7 :: a8 :: a9 :: a10 :: a11 :: .im dd :: l := Eq.trans rfl rfl
theorem ri13 {a0 a1 a2 a3 a4 a5 a6 a7 a8 a9 a10 a11 a12 : Sl} {dd : D} {l : List Sl} : rdN 13 (a0 :: a1 :: a2 :: a3 :: a4 :: a5 :: a6 :: a7 :: a8 :: a9 :: a10 :: a11 :: a12 :: .im dd :: l) = .ok dd (a0 :: a1 :: a2 :: a3 :: a4 :: a5 :: a6 :: a7 :: a8 :: a9 :: a10 :: a11 :: a12 :: .im dd :: l) := Eq.trans rfl rfl
theorem ro13 {a0 a1 a2 a3 a4 a5 a6 a7 a8 a9 a10 a11 a12 : Sl} {xs : List D} {l : List Sl} : rdN 13 (a0 :: a1 :: a2 :: a3 :: a4 :: a5 :: a6 :: a7 :: a8 :: a9 :: a10 :: a11 :: a12 :: .ow (.l xs) :: l) = .ok (.lst xs) (a0 :: a1 :: a2 :: a3 :: a4 :: a5 :: a6 :: a7 :: a8 :: a9 :: a10 :: a11 :: a12 :: .im (.lst xs) :: l) := Eq.trans rfl rfl
theorem rs13 {a0 a1 a2 a3 a4 a5 a6 a7 a8 a9 a10 a11 a12 : Sl} {z x : Sl} {l : List Sl} : (a0 :: a1 :: a2 :: a3 :: a4 :: a5 :: a6 :: a7 :: a8 :: a9 :: a10 :: a11 :: a12 :: z :: l).set 13 x = a0 :: a1 :: a2 :: a3 :: a4 :: a5 :: a6 :: a7 :: a8 :: a9 :: a10 :: a11 :: a12 :: x :: l := Eq.trans rfl rfl
theorem ap13 {a0 a1 a2 a3 a4 a5 a6 a7 a8 a9 a10 a11 a12 : Sl} {f : List Sl → Rs D} {xs : List D} {l : List Sl} : fApp 13 f (a0 :: a1 :: a2 :: a3 :: a4 :: a5 :: a6 :: a7 :: a8 :: a9 :: a10 :: a11 :: a12 :: .ow (.l xs) :: l) = (f (a0 :: a1 :: a2 :: a3 :: a4 :: a5 :: a6 :: a7 :: a8 :: a9 :: a10 :: a11 :: a12 :: .ow (.l xs) :: l)).bind (appK 13) := Eq.trans rfl rfl
theorem aq13 {a0 a1 a2 a3 a4 a5 a6 a7 a8 a9 a10 a11 a12 : Sl} {dd : D} {xs : List D} {l : List Sl} (h : xs.length < 4000) : appK 13 dd (a0 :: a1 :: a2 :: a3 :: a4 :: a5 :: a6 :: a7 :: a8 :: a9 :: a10 :: a11 :: a12 :: .ow (.l xs) :: l) = .ok .non (a0 :: a1 :: a2 :: a3 :: a4 :: a5 :: a6 :: a7 :: a8 :: a9 :: a10 :: a11 :: a12 :: .ow (.l (xs ++ [dd])) :: l) := if_pos (len_lt h)
theorem ix13 {a0 a1 a2 a3 a4 a5 a6 a7 a8 a9 a10 a11 a12 : Sl} {g : List Sl → Rs D} {dd : D} {l : List Sl} : fIxN 13 g (a0 :: a1 :: a2 :: a3 :: a4 :: a5 :: a6 :: a7 :: a8 :: a9 :: a10 :: a11 :: a12 :: .im dd :: l) = (g (a0 :: a1 :: a2 :: a3 :: a4 :: a5 :: a6 :: a7 :: a8 :: a9 :: a10 :: a11 :: a12 :: .im dd :: l)).bind (ixK 13) := Eq.trans rfl rfl
theorem iy13 {a0 a1 a2 a3 a4 a5 a6 a7 a8 a9 a10 a11 a12 : Sl} {g : List Sl → Rs D} {w : Ow} {l : List Sl} : fIxN 13 g (a0 :: a1 :: a2 :: a3 :: a4 :: a5 :: a6 :: a7 :: a8 :: a9 :: a10 :: a11 :: a12 :: .ow w :: l) = (g (a0 :: a1 :: a2 :: a3 :: a4 :: a5 :: a6 :: a7 :: a8 :: a9 :: a10 :: a11 :: a12 :: .ow w :: l)).bind (ixK 13) := Eq.trans rfl rfl
theorem iz13 {a0 a1 a2 a3 a4 a5 a6 a7 a8 a9 a10 a11 a12 : Sl} {k : D} {xs : List D} {l : List Sl} : ixK 13 k (a0 :: a1 :: a2 :: a3 :: a4 :: a5 :: a6 :: a7 :: a8 :: a9 :: a10 :: a11 :: a12 :: .im (.lst xs) :: l) = Rs.opt (ixD (.lst xs) k) (a0 :: a1 :: a2 :: a3 :: a4 :: a5 :: a6 :: a7 :: a8 :: a9 :: a10 :: a11 :: a12 :: .im (.lst xs) :: l) := Eq.trans rfl rfl
theorem it13 {a0 a1 a2 a3 a4 a5 a6 a7 a8 a9 a10 a11 a12 : Sl} {k : D} {xs : List D} {l : List Sl} : ixK 13 k (a0 :: a1 :: a2 :: a3 :: a4 :: a5 :: a6 :: a7 :: a8 :: a9 :: a10 :: a11 :: a12 :: .im (.tup xs) :: l) = Rs.opt (ixD (.tup xs) k) (a0 :: a1 :: a2 :: a3 :: a4 :: a5 :: a6 :: a7 :: a8 :: a9 :: a10 :: a11 :: a12 :: .im (.tup xs) :: l) := Eq.trans rfl rfl
theorem iw13 {a0 a1 a2 a3 a4 a5 a6 a7 a8 a9 a10 a11 a12 : Sl} {k : D} {xs : List D} {l : List Sl} : ixK 13 k (a0 :: a1 :: a2 :: a3 :: a4 :: a5 :: a6 :: a7 :: a8 :: a9 :: a10 :: a11 :: a12 :: .ow (.l xs) :: l) = Rs.opt (ixD (.lst xs) k) (a0 :: a1 :: a2 :: a3 :: a4 :: a5 :: a6 :: a7 :: a8 :: a9 :: a10 :: a11 :: a12 :: .ow (.l xs) :: l) := Eq.trans rfl rfl
theorem ol13 {a0 a1 a2 a3 a4 a5 a6 a7 a8 a9 a10 a11 a12 : Sl} {xs : List D} {l : List Sl} : ownLen 13 (a0 :: a1 :: a2 :: a3 :: a4 :: a5 :: a6 :: a7 :: a8 :: a9 :: a10 :: a11 :: a12 :: .ow (.l xs) :: l) = .ok (.int xs.length) (a0 :: a1 :: a2 :: a3 :: a4 :: a5 :: a6 :: a7 :: a8 :: a9 :: a10 :: a11 :: a12 :: .ow (.l xs) :: l) := Eq.trans rfl rfl
theorem om13 {a0 a1 a2 a3 a4 a5 a6 a7 a8 a9 a10 a11 a12 : Sl} {xs : List D} {l : List Sl} : ownLen 13 (a0 :: a1 :: a2 :: a3 :: a4 :: a5 :: a6 :: a7 :: a8 :: a9 :: a10 :: a11 :: a12 :: .im (.lst xs) :: l) = .ok (.int xs.length) (a0 :: a1 :: a2 :: a3 :: a4 :: a5 :: a6 :: a7 :: a8 :: a9 :: a10 :: a11 :: a12 :: .im (.lst xs) :: l) := Eq.trans rfl rfl
theorem on13 {a0 a1 a2 a3 a4 a5 a6 a7 a8 a9 a10 a11 a12 : Sl} {xs : List D} {l : List Sl} : ownLen 13 (a0 :: a1 :: a2 :: a3 :: a4 :: a5 :: a6 :: a7 :: a8 :: a9 :: a10 :: a11 :: a12 :: .im (.tup xs) :: l) = .ok (.int xs.length) (a0 :: a1 :: a2 :: a3 :: a4 :: a5 :: a6 :: a7 :: a8 :: a9 :: a10 :: a11 :: a12 :: .im (.tup xs) :: l) := Eq.trans rfl rfl
theorem au13 {a0 a1 a2 a3 a4 a5 a6 a7 a8 a9 a10 a11 a12 : Sl} {f g : List Sl → Rs D} {c : D → D → Option D} {xs : List D} {l : List Sl} : augItem 13 f g c (a0 :: a1 :: a2 :: a3 :: a4 :: a5 :: a6 :: a7 :: a8 :: a9 :: a10 :: a11 :: a12 :: .ow (.l xs) :: l) = (f (a0 :: a1 :: a2 :: a3 :: a4 :: a5 :: a6 :: a7 :: a8 :: a9 :: a10 :: a11 :: a12 :: .ow (.l xs) :: l)).ro (augK 13 g c) := Eq.trans rfl rfl
theorem av13 {a0 a1 a2 a3 a4 a5 a6 a7 a8 a9 a10 a11 a12 : Sl} {g : List Sl → Rs D} {c : D → D → Option D} {j : Int} {xs : List D} {l : List Sl} (h0 : 0 ≤ j) (h1 : j < (xs.length : Int)) : augK 13 g c (.int j) (a0 :: a1 :: a2 :: a3 :: a4 :: a5 :: a6 :: a7 :: a8 :: a9 :: a10 :: a11 :: a12 :: .ow (.l xs) :: l) = (g (a0 :: a1 :: a2 :: a3 :: a4 :: a5 :: a6 :: a7 :: a8 :: a9 :: a10 :: a11 :: a12 :: .ow (.l xs) :: l)).ro (augM 13 c j (xs.getD j.toNat .non)) := augK_ok rfl h0 h1
theorem aw13 {a0 a1 a2 a3 a4 a5 a6 a7 a8 a9 a10 a11 a12 : Sl} {j : Int} {z : D} {xs : List D} {l : List Sl} (h1 : j < (xs.length : Int)) : augZ 13 j (a0 :: a1 :: a2 :: a3 :: a4 :: a5 :: a6 :: a7 :: a8 :: a9 :: a10 :: a11 :: a12 :: .ow (.l xs) :: l) (some z) = .nx (a0 :: a1 :: a2 :: a3 :: a4 :: a5 :: a6 :: a7 :: a8 :: a9 :: a10 :: a11 :: a12 :: .ow (.l (xs.set j.toNat z)) :: l) := augZ_ok rfl h1
theorem gi13 {a0 a1 a2 a3 a4 a5 a6 a7 a8 a9 a10 a11 a12 : Sl} {f : List Sl → Rs D} {dd : D} {xs : List D} {l : List Sl} : gIt 13 f dd (a0 :: a1 :: a2 :: a3 :: a4 :: a5 :: a6 :: a7 :: a8 :: a9 :: a10 :: a11 :: a12 :: .ow (.l xs) :: l) = kRob (f (a0 :: a1 :: a2 :: a3 :: a4 :: a5 :: a6 :: a7 :: a8 :: a9 :: a10 :: a11 :: a12 :: .ow (.l xs) :: l)) (gItK 13 dd) := gIt_ok rfl
theorem gj13 {a0 a1 a2 a3 a4 a5 a6 a7 a8 a9 a10 a11 a12 : Sl} {j : Int} {dd : D} {xs : List D} {l : List Sl} (h0 : 0 ≤ j) (h1 : j < (xs.length : Int)) : gItK 13 dd (.int j) (a0 :: a1 :: a2 :: a3 :: a4 :: a5 :: a6 :: a7 :: a8 :: a9 :: a10 :: a11 :: a12 :: .ow (.l xs) :: l) = .nx (a0 :: a1 :: a2 :: a3 :: a4 :: a5 :: a6 :: a7 :: a8 :: a9 :: a10 :: a11 :: a12 :: .ow (.l (xs.set j.toNat dd)) :: l) := if_pos ⟨h0, h1⟩
theorem ag13 {a0 a1 a2 a3 a4 a5 a6 a7 a8 a9 a10 a11 a12 : Sl} {f : List Sl → Rs D} {c : D → D → Option D} {x : D} {l : List Sl} : fAug 13 f c (a0 :: a1 :: a2 :: a3 :: a4 :: a5 :: a6 :: a7 :: a8 :: a9 :: a10 :: a11 :: a12 :: .im x :: l) = (f (a0 :: a1 :: a2 :: a3 :: a4 :: a5 :: a6 :: a7 :: a8 :: a9 :: a10 :: a11 :: a12 :: .im x :: l)).ro (agK 13 c x) := fAug_ok rfl
theorem xe13 {a0 a1 a2 a3 a4 a5 a6 a7 a8 a9 a10 a11 a12 : Sl} {f : List Sl → Rs D} {xs : List D} {l : List Sl} : fExt 13 f (a0 :: a1 :: a2 :: a3 :: a4 :: a5 :: a6 :: a7 :: a8 :: a9 :: a10 :: a11 :: a12 :: .ow (.l xs) :: l) = (f (a0 :: a1 :: a2 :: a3 :: a4 :: a5 :: a6 :: a7 :: a8 :: a9 :: a10 :: a11 :: a12 :: .ow (.l xs) :: l)).bind (extK 13) := Eq.trans rfl rfl
theorem xh13 {a0 a1 a2 a3 a4 a5 a6 a7 a8 a9 a10 a11 a12 : Sl} {xs ys : List D} {l : List Sl} (h : xs.length + ys.length ≤ 4000) : extK 13 (.lst ys) (a0 :: a1 :: a2 :: a3 :: a4 :: a5 :: a6 :: a7 :: a8 :: a9 :: a10 :: a11 :: a12 :: .ow (.l xs) :: l) = .ok .non (a0 :: a1 :: a2 :: a3 :: a4 :: a5 :: a6 :: a7 :: a8 :: a9 :: a10 :: a11 :: a12 :: .ow (.l (xs ++ ys)) :: l) := if_pos (len_le h)
theorem fz13 {a0 a1 a2 a3 a4 a5 a6 a7 a8 a9 a10 a11 a12 : Sl} {xs : List D} {l : List Sl} : frzE 13 (a0 :: a1 :: a2 :: a3 :: a4 :: a5 :: a6 :: a7 :: a8 :: a9 :: a10 :: a11 :: a12 :: .ow (.l xs) :: l) = a0 :: a1 :: a2 :: a3 :: a4 :: a5 :: a6 :: a7 :: a8 :: a9 :: a10 :: a11 :: a12 :: .im (.lst xs) :: l := Eq.trans rfl rfl
theorem fy13 {a0 a1 a2 a3 a4 a5 a6 a7 a8 a9 a10 a11 a12 : Sl} {dd : D} {l : List Sl} : frzE 13 (a0 :: a1 :: a2 :: a3 :: a4 :: a5 :: a6 :: a7 :: a8 :: a9 :: a10 :: a11 :: a12 :: .im dd :: l) = a0 :: a1 :: a2 :: a3 :: a4 :: a5 :: a6 :: a7 :: a8 :: a9 :: a10 :: a11 :: a12 :: .im dd :: l := Eq.trans rfl rfl
/-! operators -/
theorem x_add (a b : Int) : dAddU (.int a) (.int b) = some (.int (a + b)) := Eq.trans rfl rfl
theorem x_sub (a b : Int) : dSub (.int a) (.int b) = some (.int (a - b)) := Eq.trans rfl rfl
theorem x_eq (a b : Int) : dEq (.int a) (.int b) = some (.bl (decide (a = b))) := by rw [dEq_int]; congr
theorem x_mod {a b : Int} (h : 0 < b) : dMod (.int a) (.int b) = some (.int (a % b)) := by
  show (if decide (0 < b) = true then some (D.int (a % b)) else none) = _
  rw [if_pos (decide_eq_true h)]
theorem x_fdv {a b : Int} (h : 0 < b) (h2 : b < 2 ^ 64) : dFdv (.int a) (.int b) = some (.int (a / b)) := by
  show (if decide (0 < b ∧ b.natAbs.log2 < 9000) = true then some (D.int (a / b)) else none) = _
  have : b.natAbs < 2 ^ 64 := by omega
  have q : b.natAbs.log2 < 9000 := Nat.lt_trans ((Nat.log2_lt (by omega)).mpr this) (by decide)
  rw [if_pos (decide_eq_true ⟨h, q⟩)]
theorem x_mul_l {a b : Int} (h : -(2 ^ 64) < a) (h2 : a < 2 ^ 64) : dMul (.int a) (.int b) = some (.int (a * b)) := by
  show (if mulOk a b = true then some (D.int (a * b)) else none) = _
  rw [if_pos (by unfold mulOk; exact decide_eq_true (.inl (.inl ⟨h, h2⟩)))]
theorem x_mul_r {a b : Int} (h : -(2 ^ 64) < b) (h2 : b < 2 ^ 64) : dMul (.int a) (.int b) = some (.int (a * b)) := by
  show (if mulOk a b = true then some (D.int (a * b)) else none) = _
  rw [if_pos (by unfold mulOk; exact decide_eq_true (.inl (.inr ⟨h, h2⟩)))]
theorem x_int (a : Int) : cInt [.int a] = some (.int a) := Eq.trans rfl rfl
theorem x_len (xs : List D) : cLen [.lst xs] = some (.int (xs.length : Nat)) := Eq.trans rfl rfl
theorem x_lenT (xs : List D) : cLen [.tup xs] = some (.int (xs.length : Nat)) := Eq.trans rfl rfl
theorem x_tuple (xs : List D) : cTuple [.lst xs] = some (.tup xs) := Eq.trans rfl rfl
theorem x_asB (b : Bool) : (D.bl b).asB = some b := Eq.trans rfl rfl
theorem x_truB (b : Bool) : (D.bl b).tru = some b := Eq.trans rfl rfl
theorem x_itL (xs : List D) : (D.lst xs).items = some xs := Eq.trans rfl rfl
theorem x_itT (xs : List D) : (D.tup xs).items = some xs := Eq.trans rfl rfl
/-- an item of a list of integers -/
theorem x_ixL {xs : List D} {z : Int} (h0 : 0 ≤ z) (h1 : z < (xs.length : Int)) : ixD (.lst xs) (.int z) = xs[z.toNat]? := by
  show atI xs z = _
  unfold atI
  have a : ixN xs.length z = some z.toNat := by
    unfold ixN
    rw [if_pos h0, if_pos h1]
  rw [a]
  rfl
theorem x_ixI {xs : List Int} {z : Int} (h0 : 0 ≤ z) (h1 : z < (xs.length : Int)) : ixD (.lst (xs.map .int)) (.int z) = some (.int (xs.getD z.toNat 0)) := by
  rw [x_ixL h0 (by rw [List.length_map]; exact h1), List.getElem?_map, List.getD_eq_getElem?_getD, List.getElem?_eq_getElem (by omega)]
  rfl
theorem x_rng1 (n : Nat) (h : n < 2 ^ 62) : rng1 [.int (n : Int)] = some ((List.range n).map fun (i : Nat) => D.int (i : Int)) := by
  rw [rng1_eq (by omega) (by omega), Int.toNat_natCast]
  congr 1
  refine List.map_congr_left fun i hi => ?_
  show D.int (0 + (i : Int)) = _
  rw [Int.zero_add]
theorem y_lt {a b : Int} (h : a < b) : dLt (.int a) (.int b) = some (.bl true) := by show some (D.bl (decide (a < b))) = _; rw [decide_eq_true h]
theorem n_lt {a b : Int} (h : b ≤ a) : dLt (.int a) (.int b) = some (.bl false) := by show some (D.bl (decide (a < b))) = _; rw [decide_eq_false (by omega)]
theorem y_le {a b : Int} (h : a ≤ b) : dLe (.int a) (.int b) = some (.bl true) := by show some (D.bl (decide (a ≤ b))) = _; rw [decide_eq_true h]
theorem n_le {a b : Int} (h : b < a) : dLe (.int a) (.int b) = some (.bl false) := by show some (D.bl (decide (a ≤ b))) = _; rw [decide_eq_false (by omega)]
theorem y_gt {a b : Int} (h : b < a) : dGt (.int a) (.int b) = some (.bl true) := by show some (D.bl (decide (b < a))) = _; rw [decide_eq_true h]
theorem n_gt {a b : Int} (h : a ≤ b) : dGt (.int a) (.int b) = some (.bl false) := by show some (D.bl (decide (b < a))) = _; rw [decide_eq_false (by omega)]
theorem y_ge {a b : Int} (h : b ≤ a) : dGe (.int a) (.int b) = some (.bl true) := by show some (D.bl (decide (b ≤ a))) = _; rw [decide_eq_true h]
theorem n_ge {a b : Int} (h : a < b) : dGe (.int a) (.int b) = some (.bl false) := by show some (D.bl (decide (b ≤ a))) = _; rw [decide_eq_false (by omega)]
theorem y_eq {a b : Int} (h : a = b) : dEq (.int a) (.int b) = some (.bl true) := by subst h; rw [dEq_int, beq_self_eq_true]
theorem n_eq {a b : Int} (h : ¬ a = b) : dEq (.int a) (.int b) = some (.bl false) := by rw [dEq_int, beq_eq_false_iff_ne.mpr h]
theorem y_ne {a b : Int} (h : ¬ a = b) : dNe (.int a) (.int b) = some (.bl true) := by rw [dNe_int, beq_eq_false_iff_ne.mpr h]; rfl
theorem n_ne {a b : Int} (h : a = b) : dNe (.int a) (.int b) = some (.bl false) := by subst h; rw [dNe_int, beq_self_eq_true]; rfl
/-! ### loops as folds -/
theorem forR_from {g : D → List Sl → Option (List Sl)} {b : List Sl → Ro} (p : Nat → D) (S : Nat → List Sl) : ∀ (n k0 : Nat), (∀ k, k0 ≤ k → k < k0 + n → ∃ e1, g (p k) (S k) = some e1 ∧ (b e1 = .nx (S (k + 1)) ∨ b e1 = .ct (S (k + 1)))) →
    forR g b ((List.range' k0 n).map p) (S k0) = .nx (S (k0 + n))
  | 0, k0, _ => rfl
  | n + 1, k0, h => by
    obtain ⟨e1, h1, h2⟩ := h k0 (Nat.le_refl _) (by omega)
    have ih := forR_from (g := g) (b := b) p S n (k0 + 1) fun k a c => h k (by omega) (by omega)
    rw [List.range'_succ, List.map_cons, forR, h1]
    dsimp only
    rw [show k0 + (n + 1) = k0 + 1 + n by omega, ← ih]
    rcases h2 with h2 | h2 <;> rw [h2]
/-- a loop over 0, 1, .. by its states -/
theorem forR_ix {g : D → List Sl → Option (List Sl)} {b : List Sl → Ro} (p : Nat → D) (S : Nat → List Sl) (n : Nat) (h : ∀ k, k < n → ∃ e1, g (p k) (S k) = some e1 ∧ (b e1 = .nx (S (k + 1)) ∨ b e1 = .ct (S (k + 1)))) :
    forR g b ((List.range n).map p) (S 0) = .nx (S n) := by
  have q := forR_from (g := g) (b := b) p S n 0 fun k _ c => h k (by omega)
  rw [← List.range_eq_range', Nat.zero_add] at q
  exact q
/-- the name of a loop after k turns -/
def lvN (s : Sl) : Nat → Sl
  | 0 => s
  | k + 1 => .im (.int (k : Int))
theorem turns_mapL {α : Type} {g : D → List Sl → Option (List Sl)} {t : List Sl → Rs Bool} {el : List Sl → Rs D} {e0 : List Sl} (p q : α → D) : ∀ (xs : List α), (∀ x ∈ xs, turnD g t el e0 (p x) = some (some (q x))) → turnsD g t el e0 (xs.map p) = some (xs.map q)
  | [], _ => rfl
  | x :: xs, k => by
    rw [List.map_cons, turnsD, k x List.mem_cons_self]
    dsimp only
    rw [turns_mapL p q xs fun y hy => k y (List.mem_cons_of_mem _ hy)]
    rfl
theorem turns_pickL {α : Type} {g : D → List Sl → Option (List Sl)} {t : List Sl → Rs Bool} {el : List Sl → Rs D} {e0 : List Sl} (p : α → D) (q : α → Option D) : ∀ (xs : List α), (∀ x ∈ xs, turnD g t el e0 (p x) = some (q x)) → turnsD g t el e0 (xs.map p) = some (xs.filterMap q)
  | [], _ => rfl
  | x :: xs, k => by
    rw [List.map_cons, turnsD, k x List.mem_cons_self, List.filterMap_cons]
    have ih := turns_pickL p q xs fun y hy => k y (List.mem_cons_of_mem _ hy)
    cases q x with
    | none => exact ih
    | some y =>
      dsimp only
      rw [ih]
      rfl
end Pf
open Pf
local macro_rules
  | `(tactic| simp_arith [$as,*]) => `(tactic| simp (disch := omega) only [↓xs_nx, ↓xs_rt, ↓xs_ex, ↓xs_bk, ↓xs_ct, ↓xb_ok, ↓xb_ex, ↓xr_ok, ↓xr_ex, ↓uSeq, ↓uRet, ↓uRetN, ↓uBad, ↓uRaise, ↓uExpr, ↓uIf, ↓uSet, ↓uSetO, ↓uFor, ↓uAsgM, ↓uGmT2, ↓uGmC, ↓uGmN, ↓uGOfN, ↓uNm, ↓uTwo, ↓uThree, ↓uAsg, ↓uPar, ↓uK, ↓uYes, ↓uPNo, ↓uNil, ↓uIx, ↓u2, ↓uAsB, ↓uTru, ↓uNot, ↓uAnd, ↓uOr, ↓uOrT, ↓uAndT, ↓ubNot, ↓ubAnd, ↓ubOr, ↓uIfE, ↓uCh, ↓uCons, ↓uCall, ↓uCB, ↓uTup, ↓uLst, ↓uFrz, ↓uN2, ↓uItems, ↓uNeg, ↓uPart, ↓uIsi, ↓uSl, ↓uNl, ↓uRev, ↓uRng1, ↓uRng2, ↓uRng3, ↓uEnum, ↓uZip, ↓uWRev, ↓uLrg, ↓uLc, ↓uLc2, ↓uGx, ↓uTurn, ↓uOwnT, ↓ri0, ↓ro0, ↓ap0, ↓aq0, ↓ix0, ↓iy0, ↓iz0, ↓it0, ↓iw0, ↓ol0, ↓om0, ↓on0, ↓au0, ↓av0, ↓gi0, ↓gj0, ↓ag0, ↓xe0, ↓xh0, ↓fz0, ↓fy0, ↓ri1, ↓ro1, ↓ap1, ↓aq1, ↓ix1, ↓iy1, ↓iz1, ↓it1, ↓iw1, ↓ol1, ↓om1, ↓on1, ↓au1, ↓av1, ↓gi1, ↓gj1, ↓ag1, ↓xe1, ↓xh1, ↓fz1, ↓fy1, ↓ri2, ↓ro2, ↓ap2, ↓aq2, ↓ix2, ↓iy2, ↓iz2, ↓it2, ↓iw2, ↓ol2, ↓om2, ↓on2, ↓au2, ↓av2, ↓gi2, ↓gj2, ↓ag2, ↓xe2, ↓xh2, ↓fz2, ↓fy2, ↓ri3, ↓ro3, ↓ap3, ↓aq3, ↓ix3, ↓iy3, ↓iz3, ↓it3, ↓iw3, ↓ol3, ↓om3, ↓on3, ↓au3, ↓av3, ↓gi3, ↓gj3, ↓ag3, ↓xe3, ↓xh3, ↓fz3, ↓fy3, ↓ri4, ↓ro4, ↓ap4, ↓aq4, ↓ix4, ↓iy4, ↓iz4, ↓it4, ↓iw4, ↓ol4, ↓om4, ↓on4, ↓au4, ↓av4, ↓gi4, ↓gj4, ↓ag4, ↓xe4, ↓xh4, ↓fz4, ↓fy4, ↓ri5, ↓ro5, ↓ap5, ↓aq5, ↓ix5, ↓iy5, ↓iz5, ↓it5, ↓iw5, ↓ol5, ↓om5, ↓on5, ↓au5, ↓av5, ↓gi5, ↓gj5, ↓ag5, ↓xe5, ↓xh5, ↓fz5, ↓fy5, ↓ri6, ↓ro6, ↓ap6, ↓aq6, ↓ix6, ↓iy6, ↓iz6, ↓it6, ↓iw6, ↓ol6, ↓om6, ↓on6, ↓au6, ↓av6, ↓gi6, ↓gj6, ↓ag6, ↓xe6, ↓xh6, ↓fz6, ↓fy6, ↓ri7, ↓ro7, ↓ap7, ↓aq7, ↓ix7, ↓iy7, ↓iz7, ↓it7, ↓iw7, ↓ol7, ↓om7, ↓on7, ↓au7, ↓av7, ↓gi7, ↓gj7, ↓ag7, ↓xe7, ↓xh7, ↓fz7, ↓fy7, ↓ri8, ↓ro8, ↓ap8, ↓aq8, ↓ix8, ↓iy8, ↓iz8, ↓it8, ↓iw8, ↓ol8, ↓om8, ↓on8, ↓au8, ↓av8, ↓gi8, ↓gj8, ↓ag8, ↓xe8, ↓xh8, ↓fz8, ↓fy8, ↓ri9, ↓ro9, ↓ap9, ↓aq9, ↓ix9, ↓iy9, ↓iz9, ↓it9, ↓iw9, ↓ol9, ↓om9, ↓on9, ↓au9, ↓av9, ↓gi9, ↓gj9, ↓ag9, ↓xe9, ↓xh9, ↓fz9, ↓fy9, ↓ri10, ↓ro10, ↓ap10, ↓aq10, ↓ix10, ↓iy10, ↓iz10, ↓it10, ↓iw10, ↓ol10, ↓om10, ↓on10, ↓au10, ↓av10, ↓gi10, ↓gj10, ↓ag10, ↓xe10, ↓xh10, ↓fz10, ↓fy10, ↓ri11, ↓ri12, ↓ri13, ↓ro11, ↓ro12, ↓ro13, ↓ap11, ↓ap12, ↓ap13, ↓aq11, ↓aq12, ↓aq13, ↓ix11, ↓ix12, ↓ix13, ↓iy11, ↓iy12, ↓iy13, ↓iz11, ↓iz12, ↓iz13, ↓it11, ↓it12, ↓it13, ↓iw11, ↓iw12, ↓iw13, ↓ol11, ↓ol12, ↓ol13, ↓om11, ↓om12, ↓om13, ↓on11, ↓on12, ↓on13, ↓au11, ↓au12, ↓au13, ↓av11, ↓av12, ↓av13, ↓gi11, ↓gi12, ↓gi13, ↓gj11, ↓gj12, ↓gj13, ↓ag11, ↓ag12, ↓ag13, ↓xe11, ↓xe12, ↓xe13, ↓xh11, ↓xh12, ↓xh13, ↓fz11, ↓fz12, ↓fz13, ↓fy11, ↓fy12, ↓fy13, xo_some, xb_ok, xb_ex, xr_ok, xr_ex, xs_nx, xs_rt, xs_ex, xs_bk, xs_ct, xn_rt, xn_nx, xn_ex, vRet0, vRet1, vExpr0, vExpr1, vIf0, vIf1, vIf2, vSet0, vSet1, vSetO0, vSetO1, vFor0, vFor1, xrob_ok, xonto_ok, xonly_ok, vAsgM, vAsg, vAsgZ, vPar, v20, v21, v2b0, v2b1, vAsB0, vAsB1, vTru0, vTru1, vNot0, vNot1, vAnd0, vAnd1, vAnd2, vOr0, vOr1, vOr2, vOrT0, vOrT1, vAndT0, vAndT1, vOrZ0, vOrZ1, vAndZ0, vAndZ1, vbNot0, vbNot1, vbAnd0, vbAnd1, vbAnd2, vbOr0, vbOr1, vbOr2, vIfE0, vIfE1, vIfE2, vCh, vCh2, vCh3t, vCh3f, vCh4, vCons0, vCons1, vCons2a, vCons2b, vRs0, vRs1, vCall0, vCall1, vCall2, vCall3, vCall4, vCall5, vCall6, vCall7, vCall8, vCallx, vCB0, vCB1, vTup0, vLst0, vTup1, vLst1, vTup2, vLst2, vTup3, vLst3, vTup4, vLst4, vTup5, vLst5, vTup6, vLst6, vTup7, vLst7, vTup8, vLst8, vTupx, vFrz0, vFrz1, vOw, vN20, vN21, vN2b, vItems0, vItems1, vNeg0, vNeg1, vPart0, vPart1, vIsi0, vIsi1, vSl, vSl2, vSl3, vNl0, vNl1, vRev, vW, vWRev, vWRevT, vLrg, vLc, vLc2, vLcK, vGx, vGxK, vTg, vTsT, vTsF, vEl, vOwnT, vAgK, vAgZ, vAugM, rs0, aw0, rs1, aw1, rs2, aw2, rs3, aw3, rs4, aw4, rs5, aw5, rs6, aw6, rs7, aw7, rs8, aw8, rs9, aw9, rs10, aw10, rs11, rs12, rs13, aw11, aw12, aw13, x_add, x_sub, y_lt, n_lt, y_le, n_le, y_gt, n_gt, y_ge, n_ge, y_eq, n_eq, y_ne, n_ne, x_mod, x_fdv, x_int, x_len, x_lenT, x_tuple, x_asB, x_truB, x_itL, x_itT, hideE, List.foldr_cons, List.foldr_nil, List.map_cons, List.map_nil, Sl.hid, Bool.not_true, Bool.not_false, Int.reduceAdd, Int.reduceSub, Int.reduceMul, Int.reduceNeg, $as,*])
namespace Pf
open PyProof.Rows PySem.Spec PySem L2
/-! ### repr of data of numbers that are not great -/
mutual
def D.dp : D → Nat
  | .lst xs => dpL xs + 1
  | .tup xs => dpL xs + 1
  | _ => 0
def dpL : List D → Nat
  | [] => 0
  | x :: xs => max x.dp (dpL xs)
end
end Pf
namespace Pf
open PyProof.Rows PySem.Spec PySem L2
/-! ### fractions as rational numbers -/
abbrev gcdI (a b : Int) : Int := ((Nat.gcd a.natAbs b.natAbs : Nat) : Int)
abbrev fr (a b : Int) : D := .tup [.int (a / gcdI a b), .int (b / gcdI a b)]
end Pf
namespace Pf
open PyProof.Rows PySem.Spec PySem L2
end Pf
namespace Pf
theorem forR_nx {g : D → List Sl → Option (List Sl)} {b : List Sl → Ro} {d : D} {ds : List D} {env e1 e2 : List Sl} (h : g d env = some e1) (k : b e1 = .nx e2) : forR g b (d :: ds) env = forR g b ds e2 := by
  rw [forR, h]
  dsimp only
  rw [k]
end Pf
namespace K78
open PySem PySem.Spec PyProof.Rows L2 GxR GenW Gx Pf
def topS (i : Nat) : Stmt := PySem.Challenge.pw_schemebound_k78_balls.main.body.getD i (.Pass ⟨0, 0, 0, 0⟩)
def fuel : Nat := 1000000
abbrev s_is_integer : Stmt := topS 6
theorem sc_is_integer : FnScope ["value"] ["value"] (defScope s_is_integer) := ⟨rfl, rfl, rfl, by decide +kernel, rfl, by decide +kernel, by decide +kernel⟩
def b_is_integer : List Sl → Ro :=
  (rRet (fAnd (fIsi (rdN 0) ["int"]) (fNot (fIsi (rdN 0) ["bool"]))))
def F_is_integer (ds : List D) : Rf := (b_is_integer (env0 1 ds)).fn
abbrev s_are_integers : Stmt := topS 7
theorem sc_are_integers : FnScope ["values", "value"] ["values"] (defScope s_are_integers) := ⟨rfl, rfl, rfl, by decide +kernel, rfl, by decide +kernel, by decide +kernel⟩
def b_are_integers : List Sl → Ro :=
  (rRet (fAnd (fIsi (rdN 0) ["list", "tuple"]) (fGx (fItems (rdN 0)) (gNm 1) tYes' (vCall 1 F_is_integer (fCons (rdN 1) aNil)) [1] resAll)))
def F_are_integers (ds : List D) : Rf := (b_are_integers (env0 2 ds)).fn
abbrev s_power : Stmt := topS 8
theorem sc_power : FnScope ["base", "exponent", "result", "_"] ["base", "exponent"] (defScope s_power) := ⟨rfl, rfl, rfl, by decide +kernel, rfl, by decide +kernel, by decide +kernel⟩
def b_power : List Sl → Ro :=
  (rSeq (rSet 2 (vK (.int 1)))
  (rSeq (rFor (wRng1 (fCons (rdN 1) aNil)) (gNm 3) (fAug 2 (rdN 0) dMulI))
  (rRet (rdN 2))))
def F_power (ds : List D) : Rf := (b_power (env0 4 ds)).fn
abbrev s_choose : Stmt := topS 9
theorem sc_choose : FnScope ["many", "few"] ["many", "few"] (defScope s_choose) := ⟨rfl, rfl, rfl, by decide +kernel, rfl, by decide +kernel, by decide +kernel⟩
def b_choose : List Sl → Ro :=
  (rSeq (rIf (bOr (fAsB (f2 (rdN 1) (vK (.int 0)) dLt)) (fAsB (f2 (rdN 1) (rdN 0) dGt))) (rRet (vK (.int 0))) Ro.nx)
  (rRet (fCB (fCons (rdN 0) (fCons (rdN 1) aNil)) cComb)))
def F_choose (ds : List D) : Rf := (b_choose (env0 2 ds)).fn
abbrev s_points_of : Stmt := topS 11
theorem sc_points_of : FnScope ["tree", "sort"] ["tree"] (defScope s_points_of) := ⟨rfl, rfl, rfl, by decide +kernel, rfl, by decide +kernel, by decide +kernel⟩
def b_points_of (rec : List D → Rf) : List Sl → Ro :=
  (rSeq (rSet 1 (fIx (rdN 0) (vK (.int 0))))
  (rSeq (rIf (fAsB (f2 (rdN 1) (vK (.str "words")) dEq)) (rRet (vCall 2 F_power (fCons (fIx (rdN 0) (vK (.int 2))) (fCons (fIx (rdN 0) (vK (.int 1))) aNil)))) Ro.nx)
  (rSeq (rIf (fAsB (f2 (rdN 1) (vK (.str "sets")) dEq)) (rRet (vCall 2 F_choose (fCons (fIx (rdN 0) (vK (.int 1))) (fCons (fIx (rdN 0) (vK (.int 2))) aNil)))) Ro.nx)
  (rSeq (rIf (fAsB (f2 (rdN 1) (vK (.str "listed")) dEq)) (rRet (fCB (fCons (fIx (rdN 0) (vK (.int 1))) aNil) cLen)) Ro.nx)
  (rRet (f2 (vCall 1 rec (fCons (fIx (rdN 0) (vK (.int 1))) aNil)) (vCall 1 rec (fCons (fIx (rdN 0) (vK (.int 2))) aNil)) dMul))))))
def F_points_of : Nat → List D → Rf
  | 0, _ => .bad
  | m + 1, ds => (b_points_of (F_points_of m) (env0 2 ds)).fn
abbrev s_kinds_of : Stmt := topS 12
theorem sc_kinds_of : FnScope ["tree", "sort"] ["tree"] (defScope s_kinds_of) := ⟨rfl, rfl, rfl, by decide +kernel, rfl, by decide +kernel, by decide +kernel⟩
def b_kinds_of (rec : List D → Rf) : List Sl → Ro :=
  (rSeq (rSet 1 (fIx (rdN 0) (vK (.int 0))))
  (rSeq (rIf (fAsB (f2 (rdN 1) (vK (.str "words")) dEq)) (rRet (f2 (fIx (rdN 0) (vK (.int 1))) (vK (.int 1)) dAddU)) Ro.nx)
  (rSeq (rIf (fAsB (f2 (rdN 1) (vK (.str "sets")) dEq)) (rRet (f2 (fIx (rdN 0) (vK (.int 2))) (vK (.int 1)) dAddU)) Ro.nx)
  (rSeq (rIf (fAsB (f2 (rdN 1) (vK (.str "listed")) dEq)) (rRet (f2 (fCB (fCons (fIx (fIx (rdN 0) (vK (.int 1))) (vK (.int 0))) aNil) cMaxS) (vK (.int 1)) dAddU)) Ro.nx)
  (rRet (f2 (vCall 1 rec (fCons (fIx (rdN 0) (vK (.int 1))) aNil)) (vCall 1 rec (fCons (fIx (rdN 0) (vK (.int 2))) aNil)) dMul))))))
def F_kinds_of : Nat → List D → Rf
  | 0, _ => .bad
  | m + 1, ds => (b_kinds_of (F_kinds_of m) (env0 2 ds)).fn
abbrev s_has_shape : Stmt := topS 16
theorem sc_has_shape : FnScope ["rows", "row"] ["rows"] (defScope s_has_shape) := ⟨rfl, rfl, rfl, by decide +kernel, rfl, by decide +kernel, by decide +kernel⟩
def b_has_shape : List Sl → Ro :=
  (rSeq (rIf (bOr (bNot (fTru (fIsi (rdN 0) ["list", "tuple"]))) (bNot (fAsB (fChain (vK (.int 1)) (fCB (fCons (rdN 0) aNil) cLen) (vK (.int 24)) dLe dLe)))) (rRet (vK (.bl false))) Ro.nx)
  (rRet (fGx (fItems (rdN 0)) (gNm 1) tYes' (fAnd (fIsi (rdN 1) ["list", "tuple"]) (f2 (fCB (fCons (rdN 1) aNil) cLen) (fCB (fCons (rdN 0) aNil) cLen) dEq)) [1] resAll)))
def F_has_shape (ds : List D) : Rf := (b_has_shape (env0 2 ds)).fn
abbrev s_cell_fault : Stmt := topS 17
theorem sc_cell_fault : FnScope ["rows", "r", "row", "c", "kind"] ["rows"] (defScope s_cell_fault) := ⟨rfl, rfl, rfl, by decide +kernel, rfl, by decide +kernel, by decide +kernel⟩
def b_cell_fault : List Sl → Ro :=
  (rSeq (rFor (wEnumA (fCons (rdN 0) aNil)) (gTu 2 (gsC (gNm 1) (gsC (gNm 2) gsN))) (rFor (wEnumA (fCons (rdN 2) aNil)) (gTu 2 (gsC (gNm 3) (gsC (gNm 4) gsN))) (rIf (bOr (bNot (fTru (vCall 1 F_is_integer (fCons (rdN 4) aNil)))) (bNot (fAsB (fChain (vK (.int 0)) (rdN 4) (vK (.int 8)) dLe dLt)))) (rRet (fTup (fCons (vK (.str "cell")) (fCons (rdN 1) (fCons (rdN 3) aNil))))) Ro.nx)))
  (rRet (vK .non)))
def F_cell_fault (ds : List D) : Rf := (b_cell_fault (env0 5 ds)).fn
abbrev s_diagonal_fault : Stmt := topS 18
theorem sc_diagonal_fault : FnScope ["rows", "r", "row", "c", "kind"] ["rows"] (defScope s_diagonal_fault) := ⟨rfl, rfl, rfl, by decide +kernel, rfl, by decide +kernel, by decide +kernel⟩
def b_diagonal_fault : List Sl → Ro :=
  (rSeq (rFor (wEnumA (fCons (rdN 0) aNil)) (gTu 2 (gsC (gNm 1) (gsC (gNm 2) gsN))) (rFor (wEnumA (fCons (rdN 2) aNil)) (gTu 2 (gsC (gNm 3) (gsC (gNm 4) gsN))) (rIf (fAsB (f2 (f2 (rdN 4) (vK (.int 0)) dEq) (f2 (rdN 1) (rdN 3) dEq) dNe)) (rRet (fTup (fCons (vK (.str "diagonal")) (fCons (rdN 1) (fCons (rdN 3) aNil))))) Ro.nx)))
  (rRet (vK .non)))
def F_diagonal_fault (ds : List D) : Rf := (b_diagonal_fault (env0 5 ds)).fn
abbrev s_mirror_fault : Stmt := topS 19
theorem sc_mirror_fault : FnScope ["rows", "r", "row", "c", "kind"] ["rows"] (defScope s_mirror_fault) := ⟨rfl, rfl, rfl, by decide +kernel, rfl, by decide +kernel, by decide +kernel⟩
def b_mirror_fault : List Sl → Ro :=
  (rSeq (rFor (wEnumA (fCons (rdN 0) aNil)) (gTu 2 (gsC (gNm 1) (gsC (gNm 2) gsN))) (rFor (wEnumA (fCons (rdN 2) aNil)) (gTu 2 (gsC (gNm 3) (gsC (gNm 4) gsN))) (rIf (fAsB (f2 (rdN 4) (fIx (fIx (rdN 0) (rdN 3)) (rdN 1)) dNe)) (rRet (fTup (fCons (vK (.str "mirror")) (fCons (rdN 1) (fCons (rdN 3) aNil))))) Ro.nx)))
  (rRet (vK .non)))
def F_mirror_fault (ds : List D) : Rf := (b_mirror_fault (env0 5 ds)).fn
abbrev s_kind_fault : Stmt := topS 20
theorem sc_kind_fault : FnScope ["rows", "kinds", "expected", "kind", "row"] ["rows"] (defScope s_kind_fault) := ⟨rfl, rfl, rfl, by decide +kernel, rfl, by decide +kernel, by decide +kernel⟩
def b_kind_fault : List Sl → Ro :=
  (rSeq (rSet 1 (fFrz (fSrtS (fSc2 (fItems (rdN 0)) (gNm 4) (fItems (rdN 4)) (gNm 3) (rdN 3) [4, 3] [3]))))
  (rSeq (rFor (wEnumA (fCons (rdN 1) aNil)) (gTu 2 (gsC (gNm 2) (gsC (gNm 3) gsN))) (rIf (fAsB (f2 (rdN 3) (rdN 2) dNe)) (rRet (fTup (fCons (vK (.str "kind")) (fCons (rdN 2) aNil)))) Ro.nx))
  (rRet (vK .non))))
def F_kind_fault (ds : List D) : Rf := (b_kind_fault (env0 5 ds)).fn
abbrev s_way_counts : Stmt := topS 21
theorem sc_way_counts : FnScope ["one", "other", "counts", "i", "j"] ["one", "other"] (defScope s_way_counts) := ⟨rfl, rfl, rfl, by decide +kernel, rfl, by decide +kernel, by decide +kernel⟩
def b_way_counts : List Sl → Ro :=
  (rSeq (rSetO 2 (fN2 (fFrz (fLst (fCons (vK (.int 0)) aNil))) (f2 (vK (.int 8)) (vK (.int 8)) dMul) dRep))
  (rSeq (rFor (wZip (fCons (rdN 0) (fCons (rdN 1) aNil))) (gTu 2 (gsC (gNm 3) (gsC (gNm 4) gsN))) (augItem 2 (f2 (f2 (rdN 3) (vK (.int 8)) dMul) (rdN 4) dAddU) (vK (.int 1)) dAdd))
  (rRet (rdN 2))))
def F_way_counts (ds : List D) : Rf := (b_way_counts (env0 5 ds)).fn
abbrev s_first_unlike : Stmt := topS 22
def F_first_unlike (_ : List D) : Rf := .bad
abbrev s_number_fault : Stmt := topS 23
theorem sc_number_fault : FnScope ["rows", "counts_by_kind", "r", "one", "c", "other", "counts", "expected", "at"] ["rows"] (defScope s_number_fault) := ⟨rfl, rfl, rfl, by decide +kernel, rfl, by decide +kernel, by decide +kernel⟩
def b_number_fault : List Sl → Ro :=
  (rSeq (rSetO 1 dNew)
  (rSeq (rFor (wEnumA (fCons (rdN 0) aNil)) (gTu 2 (gsC (gNm 2) (gsC (gNm 3) gsN))) (rFor (wEnumA (fCons (rdN 0) aNil)) (gTu 2 (gsC (gNm 4) (gsC (gNm 5) gsN))) (rSeq (rSet 6 (vCall 2 F_way_counts (fCons (rdN 3) (fCons (rdN 5) aNil))))
  (rSeq (rSet 7 (fSetd 1 (fIx (rdN 3) (rdN 4)) (rdN 6)))
  (rIf (fAsB (f2 (rdN 6) (rdN 7) dNe)) (rSeq (rSet 8 (vCall 2 F_first_unlike (fCons (rdN 6) (fCons (rdN 7) aNil))))
  (rRet (fTup (fCons (vK (.str "number")) (fCons (f2 (rdN 8) (vK (.int 8)) dFdv) (fCons (f2 (rdN 8) (vK (.int 8)) dMod) (fCons (rdN 2) (fCons (rdN 4) aNil)))))))) Ro.nx)))))
  (rRet (vK .non))))
def F_number_fault (ds : List D) : Rf := (b_number_fault (env0 9 ds)).fn
abbrev s_table_fault : Stmt := topS 24
theorem sc_table_fault : FnScope ["rows"] ["rows"] (defScope s_table_fault) := ⟨rfl, rfl, rfl, by decide +kernel, rfl, by decide +kernel, by decide +kernel⟩
def b_table_fault : List Sl → Ro :=
  (rSeq (rIf (bNot (fTru (vCall 1 F_has_shape (fCons (rdN 0) aNil)))) (rRet (fTup (fCons (vK (.str "shape")) aNil))) Ro.nx)
  (rRet (fOrT (vCall 1 F_cell_fault (fCons (rdN 0) aNil)) (fOrT (vCall 1 F_diagonal_fault (fCons (rdN 0) aNil)) (fOrT (vCall 1 F_mirror_fault (fCons (rdN 0) aNil)) (fOrT (vCall 1 F_kind_fault (fCons (rdN 0) aNil)) (vCall 1 F_number_fault (fCons (rdN 0) aNil))))))))
def F_table_fault (ds : List D) : Rf := (b_table_fault (env0 1 ds)).fn
abbrev s_is_part : Stmt := topS 33
theorem sc_is_part : FnScope ["part", "sort"] ["part"] (defScope s_is_part) := ⟨rfl, rfl, rfl, by decide +kernel, rfl, by decide +kernel, by decide +kernel⟩
def b_is_part : List Sl → Ro :=
  (rSeq (rIf (bOr (bNot (fTru (fIsi (rdN 0) ["tuple"]))) (bNot (fTru (rdN 0)))) (rRet (vK (.bl false))) Ro.nx)
  (rSeq (rSet 1 (fIx (rdN 0) (vK (.int 0))))
  (rSeq (rIf (fAsB (f2 (rdN 1) (vK (.str "listed")) dEq)) (rRet (fAnd (f2 (fCB (fCons (rdN 0) aNil) cLen) (vK (.int 2)) dEq) (f2 (vCall 1 F_table_fault (fCons (fIx (rdN 0) (vK (.int 1))) aNil)) (vK .non) dIsN))) Ro.nx)
  (rSeq (rIf (fAsB (f2 (fCB (fCons (rdN 0) aNil) cLen) (vK (.int 3)) dNe)) (rRet (vK (.bl false))) Ro.nx)
  (rSeq (rIf (fAsB (f2 (rdN 1) (vK (.str "words")) dEq)) (rRet (fAnd (vCall 1 F_are_integers (fCons (fSl (rdN 0) (fPart (vK (.int 1))) pNo) aNil)) (fAnd (fChain (vK (.int 1)) (fIx (rdN 0) (vK (.int 1))) (vK (.int 40)) dLe dLe) (fChain (vK (.int 2)) (fIx (rdN 0) (vK (.int 2))) (vK (.int 1000)) dLe dLe)))) Ro.nx)
  (rSeq (rIf (fAsB (f2 (rdN 1) (vK (.str "sets")) dEq)) (rRet (fAnd (vCall 1 F_are_integers (fCons (fSl (rdN 0) (fPart (vK (.int 1))) pNo) aNil)) (fAnd (f2 (vK (.int 1)) (fIx (rdN 0) (vK (.int 2))) dLe) (fChain (f2 (vK (.int 2)) (fIx (rdN 0) (vK (.int 2))) dMul) (fIx (rdN 0) (vK (.int 1))) (vK (.int 80)) dLe dLe)))) Ro.nx)
  (rRet (f2 (rdN 1) (vK (.str "product")) dEq))))))))
def F_is_part (ds : List D) : Rf := (b_is_part (env0 2 ds)).fn
abbrev s_parts_of : Stmt := topS 34
theorem sc_parts_of : FnScope ["tree", "parts", "waiting", "part"] ["tree"] (defScope s_parts_of) := ⟨rfl, rfl, rfl, by decide +kernel, rfl, by decide +kernel, by decide +kernel⟩
def b_parts_of : List Sl → Ro :=
  (rSeq (rSetO 1 (fLst aNil))
  (rSeq (rSetO 2 (fLst (fCons (rdN 0) aNil)))
  (rSeq (whileR (ownTru 2) (rSeq (rSet 3 (fPop 2))
  (rSeq (rIf (bOr (fAsB (f2 (ownLen 1) (vK (.int 8)) dEq)) (bNot (fTru (vCall 1 F_is_part (fCons (rdN 3) aNil))))) (rRet (vK .non)) Ro.nx)
  (rSeq (rExpr (fApp 1 (rdN 3)))
  (rIf (fAsB (f2 (fIx (rdN 3) (vK (.int 0))) (vK (.str "product")) dEq)) (rExpr (fExt 2 (fSl (rdN 3) (fPart (vK (.int 1))) pNo))) Ro.nx)))) fuel)
  (rRet (rdN 1)))))
def F_parts_of (ds : List D) : Rf := (b_parts_of (env0 4 ds)).fn
abbrev s_is_scheme : Stmt := topS 35
theorem sc_is_scheme : FnScope ["tree", "parts"] ["tree"] (defScope s_is_scheme) := ⟨rfl, rfl, rfl, by decide +kernel, rfl, by decide +kernel, by decide +kernel⟩
def b_is_scheme : List Sl → Ro :=
  (rSeq (rSet 1 (vCall 1 F_parts_of (fCons (rdN 0) aNil)))
  (rSeq (rIf (fAsB (f2 (rdN 1) (vK .non) dIsN)) (rRet (vK (.bl false))) Ro.nx)
  (rRet (fAnd (f2 (vCall 1 (F_points_of 20) (fCons (rdN 0) aNil)) (vK (.int 1000000000000000000000000000000000000000000000000000000000000)) dLe) (f2 (vCall 1 (F_kinds_of 20) (fCons (rdN 0) aNil)) (vK (.int 60)) dLe)))))
def F_is_scheme (ds : List D) : Rf := (b_is_scheme (env0 2 ds)).fn
abbrev s_as_tuples : Stmt := topS 36
theorem sc_as_tuples : FnScope ["tree", "row"] ["tree"] (defScope s_as_tuples) := ⟨rfl, rfl, rfl, by decide +kernel, rfl, by decide +kernel, by decide +kernel⟩
def b_as_tuples (rec : List D → Rf) : List Sl → Ro :=
  (rSeq (rIf (fAsB (f2 (fIx (rdN 0) (vK (.int 0))) (vK (.str "listed")) dEq)) (rRet (fTup (fCons (vK (.str "listed")) (fCons (fCB (fCons (fFrz (fLc (fItems (fIx (rdN 0) (vK (.int 1)))) (gNm 1) tYes' (fCB (fCons (rdN 1) aNil) cTuple) [1])) aNil) cTuple) aNil)))) Ro.nx)
  (rSeq (rIf (fAsB (f2 (fIx (rdN 0) (vK (.int 0))) (vK (.str "product")) dEq)) (rRet (fTup (fCons (vK (.str "product")) (fCons (vCall 1 rec (fCons (fIx (rdN 0) (vK (.int 1))) aNil)) (fCons (vCall 1 rec (fCons (fIx (rdN 0) (vK (.int 2))) aNil)) aNil))))) Ro.nx)
  (rRet (rdN 0))))
def F_as_tuples : Nat → List D → Rf
  | 0, _ => .bad
  | m + 1, ds => (b_as_tuples (F_as_tuples m) (env0 2 ds)).fn
abbrev s_checked : Stmt := topS 37
theorem sc_checked : FnScope ["tree"] ["tree"] (defScope s_checked) := ⟨rfl, rfl, rfl, by decide +kernel, rfl, by decide +kernel, by decide +kernel⟩
def b_checked : List Sl → Ro :=
  (rSeq (rIf (bNot (fTru (vCall 1 F_is_scheme (fCons (rdN 0) aNil)))) (rRaise "InvalidScheme") Ro.nx)
  (rRet (vCall 1 (F_as_tuples 20) (fCons (rdN 0) aNil))))
def F_checked (ds : List D) : Rf := (b_checked (env0 1 ds)).fn
abbrev s_require_kind : Stmt := topS 39
theorem sc_require_kind : FnScope ["tree", "kind"] ["tree", "kind"] (defScope s_require_kind) := ⟨rfl, rfl, rfl, by decide +kernel, rfl, by decide +kernel, by decide +kernel⟩
def b_require_kind : List Sl → Ro :=
  (rIf (bOr (bNot (fTru (vCall 1 F_is_integer (fCons (rdN 1) aNil)))) (bNot (fAsB (fChain (vK (.int 0)) (rdN 1) (vCall 1 (F_kinds_of 20) (fCons (rdN 0) aNil)) dLe dLt)))) (rRaise "InvalidQuestion") Ro.nx)
def F_require_kind (ds : List D) : Rf := (b_require_kind (env0 2 ds)).fn
abbrev s_part_valencies : Stmt := topS 40
theorem sc_part_valencies : FnScope ["tree", "sort", "kinds", "lower", "many", "base", "size", "i", "one", "other"] ["tree"] (defScope s_part_valencies) := ⟨rfl, rfl, rfl, by decide +kernel, rfl, by decide +kernel, by decide +kernel⟩
def b_part_valencies (rec : List D → Rf) : List Sl → Ro :=
  (rSeq (rSet 1 (fIx (rdN 0) (vK (.int 0))))
  (rSeq (rIf (fAsB (f2 (rdN 1) (vK (.str "product")) dEq)) (rSeq (rSet 3 (vCall 1 rec (fCons (fIx (rdN 0) (vK (.int 2))) aNil)))
  (rRet (fCB (fCons (fFrz (fLc2 (fItems (vCall 1 rec (fCons (fIx (rdN 0) (vK (.int 1))) aNil))) (gNm 8) tYes' (fItems (rdN 3)) (gNm 9) tYes' (f2 (rdN 8) (rdN 9) dMul) [8, 9] [9])) aNil) cTuple))) Ro.nx)
  (rSeq (rSet 2 (fCB (fCons (vCall 1 (F_kinds_of 20) (fCons (rdN 0) aNil)) aNil) cRange1))
  (rSeq (rIf (fAsB (f2 (rdN 1) (vK (.str "words")) dEq)) (rSeq (rAsg (gTu 2 (gsC (gNm 4) (gsC (gNm 5) gsN))) (fSl (rdN 0) (fPart (vK (.int 1))) pNo))
  (rRet (fCB (fCons (fFrz (fLc (fItR (rdN 2)) (gNm 7) tYes' (f2 (vCall 2 F_choose (fCons (rdN 4) (fCons (rdN 7) aNil))) (vCall 2 F_power (fCons (f2 (rdN 5) (vK (.int 1)) dSub) (fCons (rdN 7) aNil))) dMul) [7])) aNil) cTuple))) Ro.nx)
  (rSeq (rIf (fAsB (f2 (rdN 1) (vK (.str "sets")) dEq)) (rSeq (rAsg (gTu 2 (gsC (gNm 4) (gsC (gNm 6) gsN))) (fSl (rdN 0) (fPart (vK (.int 1))) pNo))
  (rRet (fCB (fCons (fFrz (fLc (fItR (rdN 2)) (gNm 7) tYes' (f2 (vCall 2 F_choose (fCons (rdN 6) (fCons (rdN 7) aNil))) (vCall 2 F_choose (fCons (f2 (rdN 4) (rdN 6) dSub) (fCons (rdN 7) aNil))) dMul) [7])) aNil) cTuple))) Ro.nx)
  (rRet (fCB (fCons (fFrz (fLc (fItR (rdN 2)) (gNm 7) tYes' (fSeqM resCnt (fIx (fIx (rdN 0) (vK (.int 1))) (vK (.int 0))) (rdN 7)) [7])) aNil) cTuple)))))))
def F_part_valencies : Nat → List D → Rf
  | 0, _ => .bad
  | m + 1, ds => (b_part_valencies (F_part_valencies m) (env0 10 ds)).fn
abbrev s_word_ways : Stmt := topS 41
theorem sc_word_ways : FnScope ["many", "base", "i", "j", "k", "total", "t", "a", "b", "c", "beside"] ["many", "base", "i", "j", "k"] (defScope s_word_ways) := ⟨rfl, rfl, rfl, by decide +kernel, rfl, by decide +kernel, by decide +kernel⟩
def b_word_ways : List Sl → Ro :=
  (rSeq (rSet 5 (vK (.int 0)))
  (rSeq (rFor (wRng1 (fCons (f2 (f2 (rdN 0) (rdN 4) dSub) (vK (.int 1)) dAddU) aNil)) (gNm 6) (rSeq (rSet 7 (f2 (f2 (rdN 4) (rdN 3) dSub) (rdN 6) dAddU))
  (rSeq (rSet 8 (f2 (f2 (rdN 4) (rdN 2) dSub) (rdN 6) dAddU))
  (rSeq (rSet 9 (f2 (f2 (rdN 4) (rdN 7) dSub) (rdN 8) dSub))
  (rIf (bAnd (fAsB (f2 (rdN 7) (vK (.int 0)) dGe)) (bAnd (fAsB (f2 (rdN 8) (vK (.int 0)) dGe)) (fAsB (f2 (rdN 9) (vK (.int 0)) dGe)))) (rSeq (rSet 10 (f2 (vCall 2 F_choose (fCons (f2 (rdN 0) (rdN 4) dSub) (fCons (rdN 6) aNil))) (vCall 2 F_power (fCons (f2 (rdN 1) (vK (.int 1)) dSub) (fCons (rdN 6) aNil))) dMul))
  (fAug 5 (f2 (f2 (f2 (rdN 10) (vCall 2 F_choose (fCons (rdN 4) (fCons (rdN 7) aNil))) dMul) (vCall 2 F_choose (fCons (f2 (rdN 4) (rdN 7) dSub) (fCons (rdN 8) aNil))) dMul) (vCall 2 F_power (fCons (f2 (rdN 1) (vK (.int 2)) dSub) (fCons (rdN 9) aNil))) dMul) dAdd)) Ro.nx)))))
  (rRet (rdN 5))))
def F_word_ways (ds : List D) : Rf := (b_word_ways (env0 11 ds)).fn
abbrev s_set_ways : Stmt := topS 42
theorem sc_set_ways : FnScope ["many", "size", "i", "j", "k", "total", "s", "inside"] ["many", "size", "i", "j", "k"] (defScope s_set_ways) := ⟨rfl, rfl, rfl, by decide +kernel, rfl, by decide +kernel, by decide +kernel⟩
def b_set_ways : List Sl → Ro :=
  (rSeq (rSet 5 (vK (.int 0)))
  (rSeq (rFor (wRng1 (fCons (f2 (f2 (rdN 1) (rdN 4) dSub) (vK (.int 1)) dAddU) aNil)) (gNm 6) (rSeq (rSet 7 (f2 (f2 (vCall 2 F_choose (fCons (f2 (rdN 1) (rdN 4) dSub) (fCons (rdN 6) aNil))) (vCall 2 F_choose (fCons (rdN 4) (fCons (f2 (f2 (rdN 1) (rdN 2) dSub) (rdN 6) dSub) aNil))) dMul) (vCall 2 F_choose (fCons (rdN 4) (fCons (f2 (f2 (rdN 1) (rdN 3) dSub) (rdN 6) dSub) aNil))) dMul))
  (fAug 5 (f2 (rdN 7) (vCall 2 F_choose (fCons (f2 (f2 (rdN 0) (rdN 1) dSub) (rdN 4) dSub) (fCons (f2 (f2 (f2 (rdN 2) (rdN 3) dAddU) (rdN 6) dAddU) (rdN 1) dSub) aNil))) dMul) dAdd)))
  (rRet (rdN 5))))
def F_set_ways (ds : List D) : Rf := (b_set_ways (env0 8 ds)).fn
abbrev s_listed_ways : Stmt := topS 43
theorem sc_listed_ways : FnScope ["rows", "i", "j", "k", "counts"] ["rows", "i", "j", "k"] (defScope s_listed_ways) := ⟨rfl, rfl, rfl, by decide +kernel, rfl, by decide +kernel, by decide +kernel⟩
def b_listed_ways : List Sl → Ro :=
  (rSeq (rSet 4 (vCall 2 F_way_counts (fCons (fIx (rdN 0) (vK (.int 0))) (fCons (fIx (rdN 0) (fSeqM resIdx (fIx (rdN 0) (vK (.int 0))) (rdN 3))) aNil))))
  (rRet (fIx (rdN 4) (f2 (f2 (rdN 1) (vK (.int 8)) dMul) (rdN 2) dAddU))))
def F_listed_ways (ds : List D) : Rf := (b_listed_ways (env0 5 ds)).fn
abbrev s_part_ways : Stmt := topS 44
theorem sc_part_ways : FnScope ["tree", "i", "j", "k", "sort", "kinds", "first"] ["tree", "i", "j", "k"] (defScope s_part_ways) := ⟨rfl, rfl, rfl, by decide +kernel, rfl, by decide +kernel, by decide +kernel⟩
def b_part_ways (rec : List D → Rf) : List Sl → Ro :=
  (rSeq (rSet 4 (fIx (rdN 0) (vK (.int 0))))
  (rSeq (rIf (fAsB (f2 (rdN 4) (vK (.str "words")) dEq)) (rRet (vCall 5 F_word_ways (fCons (fIx (rdN 0) (vK (.int 1))) (fCons (fIx (rdN 0) (vK (.int 2))) (fCons (rdN 1) (fCons (rdN 2) (fCons (rdN 3) aNil))))))) Ro.nx)
  (rSeq (rIf (fAsB (f2 (rdN 4) (vK (.str "sets")) dEq)) (rRet (vCall 5 F_set_ways (fCons (fIx (rdN 0) (vK (.int 1))) (fCons (fIx (rdN 0) (vK (.int 2))) (fCons (rdN 1) (fCons (rdN 2) (fCons (rdN 3) aNil))))))) Ro.nx)
  (rSeq (rIf (fAsB (f2 (rdN 4) (vK (.str "listed")) dEq)) (rRet (vCall 4 F_listed_ways (fCons (fIx (rdN 0) (vK (.int 1))) (fCons (rdN 1) (fCons (rdN 2) (fCons (rdN 3) aNil)))))) Ro.nx)
  (rSeq (rSet 5 (vCall 1 (F_kinds_of 20) (fCons (fIx (rdN 0) (vK (.int 2))) aNil)))
  (rSeq (rSet 6 (vCall 4 rec (fCons (fIx (rdN 0) (vK (.int 1))) (fCons (f2 (rdN 1) (rdN 5) dFdv) (fCons (f2 (rdN 2) (rdN 5) dFdv) (fCons (f2 (rdN 3) (rdN 5) dFdv) aNil))))))
  (rRet (f2 (rdN 6) (vCall 4 rec (fCons (fIx (rdN 0) (vK (.int 2))) (fCons (f2 (rdN 1) (rdN 5) dMod) (fCons (f2 (rdN 2) (rdN 5) dMod) (fCons (f2 (rdN 3) (rdN 5) dMod) aNil))))) dMul))))))))
def F_part_ways : Nat → List D → Rf
  | 0, _ => .bad
  | m + 1, ds => (b_part_ways (F_part_ways m) (env0 7 ds)).fn
abbrev s_part_numbers : Stmt := topS 45
theorem sc_part_numbers : FnScope ["tree", "k", "kinds", "lower_kinds", "lower", "row", "beside", "i", "one", "other", "j"] ["tree", "k"] (defScope s_part_numbers) := ⟨rfl, rfl, rfl, by decide +kernel, rfl, by decide +kernel, by decide +kernel⟩
def b_part_numbers (rec : List D → Rf) : List Sl → Ro :=
  (rSeq (rSet 2 (vCall 1 (F_kinds_of 20) (fCons (rdN 0) aNil)))
  (rSeq (rIf (fAsB (f2 (fIx (rdN 0) (vK (.int 0))) (vK (.str "product")) dNe)) (rRet (fCB (fCons (fFrz (fLc (wRng1 (fCons (rdN 2) aNil)) (gNm 7) tYes' (fCB (fCons (fFrz (fLc (wRng1 (fCons (rdN 2) aNil)) (gNm 10) tYes' (vCall 4 (F_part_ways 20) (fCons (rdN 0) (fCons (rdN 7) (fCons (rdN 10) (fCons (rdN 1) aNil))))) [10])) aNil) cTuple) [7])) aNil) cTuple)) Ro.nx)
  (rSeq (rSet 3 (vCall 1 (F_kinds_of 20) (fCons (fIx (rdN 0) (vK (.int 2))) aNil)))
  (rSeq (rSet 4 (vCall 2 rec (fCons (fIx (rdN 0) (vK (.int 2))) (fCons (f2 (rdN 1) (rdN 3) dMod) aNil))))
  (rRet (fCB (fCons (fFrz (fLc2 (fItems (vCall 2 rec (fCons (fIx (rdN 0) (vK (.int 1))) (fCons (f2 (rdN 1) (rdN 3) dFdv) aNil)))) (gNm 5) tYes' (fItems (rdN 4)) (gNm 6) tYes' (fCB (fCons (fFrz (fLc2 (fItems (rdN 5)) (gNm 8) tYes' (fItems (rdN 6)) (gNm 9) tYes' (f2 (rdN 8) (rdN 9) dMul) [8, 9] [9])) aNil) cTuple) [5, 6] [6])) aNil) cTuple))))))
def F_part_numbers : Nat → List D → Rf
  | 0, _ => .bad
  | m + 1, ds => (b_part_numbers (F_part_numbers m) (env0 11 ds)).fn
abbrev s_all_numbers : Stmt := topS 46
theorem sc_all_numbers : FnScope ["tree", "k"] ["tree"] (defScope s_all_numbers) := ⟨rfl, rfl, rfl, by decide +kernel, rfl, by decide +kernel, by decide +kernel⟩
def b_all_numbers : List Sl → Ro :=
  (rRet (fFrz (fLc (wRng1 (fCons (vCall 1 (F_kinds_of 20) (fCons (rdN 0) aNil)) aNil)) (gNm 1) tYes' (vCall 2 (F_part_numbers 20) (fCons (rdN 0) (fCons (rdN 1) aNil))) [1])))
def F_all_numbers (ds : List D) : Rf := (b_all_numbers (env0 2 ds)).fn
abbrev s_dot : Stmt := topS 48
theorem sc_dot : FnScope ["one", "other", "mine", "beside"] ["one", "other"] (defScope s_dot) := ⟨rfl, rfl, rfl, by decide +kernel, rfl, by decide +kernel, by decide +kernel⟩
def b_dot : List Sl → Ro :=
  (rRet (fCB (fCons (fFrz (fLc (wZip (fCons (rdN 0) (fCons (rdN 1) aNil))) (gTu 2 (gsC (gNm 2) (gsC (gNm 3) gsN))) tYes' (f2 (rdN 2) (rdN 3) dMul) [2, 3])) aNil) cSumL))
def F_dot (ds : List D) : Rf := (b_dot (env0 4 ds)).fn
abbrev s_action_of : Stmt := topS 50
theorem sc_action_of : FnScope ["numbers", "i", "table"] ["numbers", "i"] (defScope s_action_of) := ⟨rfl, rfl, rfl, by decide +kernel, rfl, by decide +kernel, by decide +kernel⟩
def b_action_of : List Sl → Ro :=
  (rRet (fFrz (fLc (fItems (rdN 0)) (gNm 2) tYes' (fFrz (fNewL (fCons (fIx (rdN 2) (rdN 1)) aNil))) [2])))
def F_action_of (ds : List D) : Rf := (b_action_of (env0 3 ds)).fn
abbrev s_times : Stmt := topS 51
theorem sc_times : FnScope ["one", "other", "columns", "column", "row"] ["one", "other"] (defScope s_times) := ⟨rfl, rfl, rfl, by decide +kernel, rfl, by decide +kernel, by decide +kernel⟩
def b_times : List Sl → Ro :=
  (rSeq (rSet 2 vBad)
  (rRet (fFrz (fLc (fItems (rdN 0)) (gNm 4) tYes' (fFrz (fLc (fItems (rdN 2)) (gNm 3) tYes' (vCall 2 F_dot (fCons (rdN 4) (fCons (rdN 3) aNil))) [3])) [4]))))
def F_times (ds : List D) : Rf := (b_times (env0 5 ds)).fn
abbrev s_characteristic : Stmt := topS 52
theorem sc_characteristic : FnScope ["rows", "size", "coefficients", "product", "step", "shifted", "trace", "_", "r", "row", "at", "c", "cell"] ["rows"] (defScope s_characteristic) := ⟨rfl, rfl, rfl, by decide +kernel, rfl, by decide +kernel, by decide +kernel⟩
def b_characteristic : List Sl → Ro :=
  (rSeq (rSet 1 (fCB (fCons (rdN 0) aNil) cLen))
  (rSeq (rSetO 2 (fLst (fCons (vK (.int 1)) aNil)))
  (rSeq (rSet 3 (fFrz (fLc (wRng1 (fCons (rdN 1) aNil)) (gNm 7) tYes' (fFrz (fN2 (fFrz (fLst (fCons (vK (.int 0)) aNil))) (rdN 1) dRep)) [7])))
  (rSeq (rFor (wRng2 (fCons (vK (.int 1)) (fCons (f2 (rdN 1) (vK (.int 1)) dAddU) aNil))) (gNm 4) (rSeq (rSet 5 (fFrz (fun env => (fLc (wEnumA (fCons (rdN 3) aNil)) (gTu 2 (gsC (gNm 8) (gsC (gNm 9) gsN))) tYes' (fFrz (fun env => (fLc (wEnumA (fCons (rdN 9) aNil)) (gTu 2 (gsC (gNm 11) (gsC (gNm 12) gsN))) tYes' (f2 (rdN 12) (fIf (fAsB (f2 (rdN 8) (rdN 11) dEq)) (fIxN 2 (fNeg (vK (.int 1)))) (vK (.int 0))) dAddU) [11, 12]) (frzE 2 env))) [8, 9]) (frzE 2 env))))
  (rSeq (rSet 3 (vCall 2 F_times (fCons (rdN 0) (fCons (rdN 5) aNil))))
  (rSeq (rSet 6 (fCB (fCons (fFrz (fLc (wRng1 (fCons (rdN 1) aNil)) (gNm 10) tYes' (fIx (fIx (rdN 3) (rdN 10)) (rdN 10)) [10])) aNil) cSumL))
  (rExpr (fApp 2 (f2 (fNeg (rdN 6)) (rdN 4) dFdv)))))))
  (rRet (rdN 2))))))
def F_characteristic (ds : List D) : Rf := (b_characteristic (env0 13 ds)).fn
abbrev s_divided : Stmt := topS 53
theorem sc_divided : FnScope ["coefficients", "root", "found", "carried", "coefficient"] ["coefficients", "root"] (defScope s_divided) := ⟨rfl, rfl, rfl, by decide +kernel, rfl, by decide +kernel, by decide +kernel⟩
def b_divided : List Sl → Ro :=
  (rSeq (rSetO 2 (fLst aNil))
  (rSeq (rSet 3 (vK (.int 0)))
  (rSeq (rFor (fItems (rdN 0)) (gNm 4) (rSeq (rSet 3 (f2 (f2 (rdN 3) (rdN 1) dMul) (rdN 4) dAddU))
  (rExpr (fApp 2 (rdN 3)))))
  (rRet (fTup (fCons (fSl (rdN 2) pNo (fPart (fNeg (vK (.int 1))))) (fCons (fIxN 2 (fNeg (vK (.int 1)))) aNil)))))))
def F_divided (ds : List D) : Rf := (b_divided (env0 5 ds)).fn
abbrev s_whole_roots : Stmt := topS 54
theorem sc_whole_roots : FnScope ["coefficients", "most", "roots", "rest", "root", "quotient", "remainder"] ["coefficients", "most"] (defScope s_whole_roots) := ⟨rfl, rfl, rfl, by decide +kernel, rfl, by decide +kernel, by decide +kernel⟩
def b_whole_roots : List Sl → Ro :=
  (rSeq (rSetO 2 (fLst aNil))
  (rSeq (rSet 3 (rdN 0))
  (rSeq (rFor (wRng2 (fCons (fNeg (rdN 1)) (fCons (f2 (rdN 1) (vK (.int 1)) dAddU) aNil))) (gNm 4) (rSeq (rAsg (gTu 2 (gsC (gNm 5) (gsC (gNm 6) gsN))) (vCall 2 F_divided (fCons (rdN 3) (fCons (rdN 4) aNil))))
  (whileR (bAnd (fAsB (f2 (fCB (fCons (rdN 3) aNil) cLen) (vK (.int 1)) dGt)) (fAsB (f2 (rdN 6) (vK (.int 0)) dEq))) (rSeq (rExpr (fApp 2 (rdN 4)))
  (rSeq (rSet 3 (rdN 5))
  (rAsg (gTu 2 (gsC (gNm 5) (gsC (gNm 6) gsN))) (vCall 2 F_divided (fCons (rdN 3) (fCons (rdN 4) aNil)))))) fuel)))
  (rSeq (rIf (fAsB (f2 (fCB (fCons (rdN 3) aNil) cLen) (vK (.int 1)) dGt)) (rRaise "InvalidQuestion") Ro.nx)
  (rRet vBad)))))
def F_whole_roots (ds : List D) : Rf := (b_whole_roots (env0 7 ds)).fn
abbrev s_without : Stmt := topS 55
theorem sc_without : FnScope ["action", "roots", "told", "found", "root", "row", "number"] ["action", "roots", "told"] (defScope s_without) := ⟨rfl, rfl, rfl, by decide +kernel, rfl, by decide +kernel, by decide +kernel⟩
def b_without : List Sl → Ro :=
  (rSeq (rSet 3 (rdN 2))
  (rSeq (rFor (fItems (rdN 1)) (gNm 4) (rSet 3 (fFrz (fLc (wZip (fCons (rdN 0) (fCons (rdN 3) aNil))) (gTu 2 (gsC (gNm 5) (gsC (gNm 6) gsN))) tYes' (f2 (vCall 2 F_dot (fCons (rdN 5) (fCons (rdN 3) aNil))) (f2 (rdN 4) (rdN 6) dMul) dSub) [5, 6]))))
  (rRet (rdN 3))))
def F_without (ds : List D) : Rf := (b_without (env0 7 ds)).fn
abbrev s_listed_rows : Stmt := topS 56
theorem sc_listed_rows : FnScope ["tree", "numbers", "parted", "i", "valency", "action", "roots", "following", "row", "told", "root", "left", "_", "other"] ["tree"] (defScope s_listed_rows) := ⟨rfl, rfl, rfl, by decide +kernel, rfl, by decide +kernel, by decide +kernel⟩
def b_listed_rows : List Sl → Ro :=
  (rSeq (rSet 1 (vCall 1 F_all_numbers (fCons (rdN 0) aNil)))
  (rSeq (rSet 2 (fFrz (fLst (fCons (fTup (fCons (fTup aNil) (fCons (fFrz (fN2 (fFrz (fLst (fCons (vK (.int 1)) aNil))) (fFrz (fN2 (fFrz (fLst (fCons (vK (.int 0)) aNil))) (f2 (fCB (fCons (rdN 1) aNil) cLen) (vK (.int 1)) dSub) dRep)) dCat)) aNil))) aNil))))
  (rSeq (rFor (wEnumA (fCons (vCall 1 (F_part_valencies 20) (fCons (rdN 0) aNil)) aNil)) (gTu 2 (gsC (gNm 3) (gsC (gNm 4) gsN))) (rSeq (rSet 5 (vCall 2 F_action_of (fCons (rdN 1) (fCons (rdN 3) aNil))))
  (rSeq (rSet 6 (vCall 2 F_whole_roots (fCons (vCall 1 F_characteristic (fCons (rdN 5) aNil)) (fCons (rdN 4) aNil))))
  (rSeq (rSetO 7 (fLst aNil))
  (rSeq (rFor (fItems (rdN 2)) (gTu 2 (gsC (gNm 8) (gsC (gNm 9) gsN))) (rFor (fItems (rdN 6)) (gNm 10) (rSeq (rSet 11 (vCall 3 F_without (fCons (rdN 5) (fCons (fFrz (fLc (fItems (rdN 6)) (gNm 13) (fAsB (f2 (rdN 13) (rdN 10) dNe)) (rdN 13) [13])) (fCons (rdN 9) aNil)))))
  (rIf (fTru vBad) (rExpr (fApp 7 (fTup (fCons vBad (fCons (rdN 11) aNil))))) Ro.nx))))
  (rSet 2 (rdN 7)))))))
  (rRet vBad))))
def F_listed_rows (ds : List D) : Rf := (b_listed_rows (env0 14 ds)).fn
abbrev s_convolved : Stmt := topS 58
theorem sc_convolved : FnScope ["one", "other", "found", "s", "first", "t", "second"] ["one", "other"] (defScope s_convolved) := ⟨rfl, rfl, rfl, by decide +kernel, rfl, by decide +kernel, by decide +kernel⟩
def b_convolved : List Sl → Ro :=
  (rSeq (rSetO 2 (fN2 (fFrz (fLst (fCons (vK (.int 0)) aNil))) (f2 (f2 (fCB (fCons (rdN 0) aNil) cLen) (fCB (fCons (rdN 1) aNil) cLen) dAddU) (vK (.int 1)) dSub) dRep))
  (rSeq (rFor (wEnumA (fCons (rdN 0) aNil)) (gTu 2 (gsC (gNm 3) (gsC (gNm 4) gsN))) (rFor (wEnumA (fCons (rdN 1) aNil)) (gTu 2 (gsC (gNm 5) (gsC (gNm 6) gsN))) (augItem 2 (f2 (rdN 3) (rdN 5) dAddU) (f2 (rdN 4) (rdN 6) dMul) dAdd)))
  (rRet (rdN 2))))
def F_convolved (ds : List D) : Rf := (b_convolved (env0 7 ds)).fn
abbrev s_signed_choices : Stmt := topS 59
theorem sc_signed_choices : FnScope ["many", "s"] ["many"] (defScope s_signed_choices) := ⟨rfl, rfl, rfl, by decide +kernel, rfl, by decide +kernel, by decide +kernel⟩
def b_signed_choices : List Sl → Ro :=
  (rRet (fFrz (fLc (wRng1 (fCons (f2 (rdN 0) (vK (.int 1)) dAddU) aNil)) (gNm 1) tYes' (fIf (fAsB (f2 (f2 (rdN 1) (vK (.int 2)) dMod) (vK (.int 0)) dEq)) (vCall 2 F_choose (fCons (rdN 0) (fCons (rdN 1) aNil))) (fNeg (vCall 2 F_choose (fCons (rdN 0) (fCons (rdN 1) aNil))))) [1])))
def F_signed_choices (ds : List D) : Rf := (b_signed_choices (env0 2 ds)).fn
abbrev s_row_of : Stmt := topS 60
theorem sc_row_of : FnScope ["tree", "space", "sort", "kinds", "lower", "beside", "many", "base", "size", "t", "first", "second"] ["tree", "space"] (defScope s_row_of) := ⟨rfl, rfl, rfl, by decide +kernel, rfl, by decide +kernel, by decide +kernel⟩
def b_row_of (rec : List D → Rf) : List Sl → Ro :=
  (rSeq (rSet 2 (fIx (rdN 0) (vK (.int 0))))
  (rSeq (rIf (fAsB (f2 (rdN 2) (vK (.str "product")) dEq)) (rSeq (rSet 3 (vCall 1 (F_kinds_of 20) (fCons (fIx (rdN 0) (vK (.int 2))) aNil)))
  (rSeq (rSet 4 (vCall 2 rec (fCons (fIx (rdN 0) (vK (.int 2))) (fCons (f2 (rdN 1) (rdN 3) dMod) aNil))))
  (rRet (fCB (fCons (fFrz (fLc2 (fItems (vCall 2 rec (fCons (fIx (rdN 0) (vK (.int 1))) (fCons (f2 (rdN 1) (rdN 3) dFdv) aNil)))) (gNm 10) tYes' (fItems (rdN 4)) (gNm 11) tYes' (f2 (rdN 10) (rdN 11) dMul) [10, 11] [11])) aNil) cTuple)))) Ro.nx)
  (rSeq (rIf (fAsB (f2 (rdN 2) (vK (.str "listed")) dEq)) (rRet (fIx (vCall 1 F_listed_rows (fCons (rdN 0) aNil)) (rdN 1))) Ro.nx)
  (rSeq (rIf (fAsB (f2 (rdN 2) (vK (.str "words")) dEq)) (rSeq (rAsg (gTu 2 (gsC (gNm 6) (gsC (gNm 7) gsN))) (fSl (rdN 0) (fPart (vK (.int 1))) pNo))
  (rSet 5 (fFrz (fLc (wRng1 (fCons (f2 (f2 (rdN 6) (rdN 1) dSub) (vK (.int 1)) dAddU) aNil)) (gNm 9) tYes' (f2 (vCall 2 F_choose (fCons (f2 (rdN 6) (rdN 1) dSub) (fCons (rdN 9) aNil))) (vCall 2 F_power (fCons (f2 (rdN 7) (vK (.int 1)) dSub) (fCons (rdN 9) aNil))) dMul) [9])))) (rSeq (rAsg (gTu 2 (gsC (gNm 6) (gsC (gNm 8) gsN))) (fSl (rdN 0) (fPart (vK (.int 1))) pNo))
  (rSet 5 (fFrz (fLc (wRng1 (fCons (f2 (f2 (rdN 8) (rdN 1) dSub) (vK (.int 1)) dAddU) aNil)) (gNm 9) tYes' (f2 (vCall 2 F_choose (fCons (f2 (rdN 8) (rdN 1) dSub) (fCons (rdN 9) aNil))) (vCall 2 F_choose (fCons (f2 (f2 (rdN 6) (rdN 8) dSub) (rdN 1) dSub) (fCons (rdN 9) aNil))) dMul) [9])))))
  (rRet (fCB (fCons (vCall 2 F_convolved (fCons (vCall 1 F_signed_choices (fCons (rdN 1) aNil)) (fCons (rdN 5) aNil))) aNil) cTuple))))))
def F_row_of : Nat → List D → Rf
  | 0, _ => .bad
  | m + 1, ds => (b_row_of (F_row_of m) (env0 12 ds)).fn
abbrev s_rows_of : Stmt := topS 61
theorem sc_rows_of : FnScope ["tree", "lower", "space", "row", "beside", "first", "second"] ["tree"] (defScope s_rows_of) := ⟨rfl, rfl, rfl, by decide +kernel, rfl, by decide +kernel, by decide +kernel⟩
def b_rows_of (rec : List D → Rf) : List Sl → Ro :=
  (rSeq (rIf (fAsB (f2 (fIx (rdN 0) (vK (.int 0))) (vK (.str "listed")) dEq)) (rRet (vCall 1 F_listed_rows (fCons (rdN 0) aNil))) Ro.nx)
  (rSeq (rIf (fAsB (f2 (fIx (rdN 0) (vK (.int 0))) (vK (.str "product")) dEq)) (rSeq (rSet 1 (vCall 1 rec (fCons (fIx (rdN 0) (vK (.int 2))) aNil)))
  (rRet (fFrz (fLc2 (fItems (vCall 1 rec (fCons (fIx (rdN 0) (vK (.int 1))) aNil))) (gNm 3) tYes' (fItems (rdN 1)) (gNm 4) tYes' (fCB (fCons (fFrz (fLc2 (fItems (rdN 3)) (gNm 5) tYes' (fItems (rdN 4)) (gNm 6) tYes' (f2 (rdN 5) (rdN 6) dMul) [5, 6] [6])) aNil) cTuple) [3, 4] [4])))) Ro.nx)
  (rRet (fFrz (fLc (wRng1 (fCons (vCall 1 (F_kinds_of 20) (fCons (rdN 0) aNil)) aNil)) (gNm 2) tYes' (vCall 2 (F_row_of 20) (fCons (rdN 0) (fCons (rdN 2) aNil))) [2])))))
def F_rows_of : Nat → List D → Rf
  | 0, _ => .bad
  | m + 1, ds => (b_rows_of (F_rows_of m) (env0 7 ds)).fn
abbrev s_eigenvalue : Stmt := topS 62
theorem sc_eigenvalue : FnScope ["tree", "space", "kind", "scheme"] ["tree", "space", "kind"] (defScope s_eigenvalue) := ⟨rfl, rfl, rfl, by decide +kernel, rfl, by decide +kernel, by decide +kernel⟩
def b_eigenvalue : List Sl → Ro :=
  (rSeq (rSet 3 (vCall 1 F_checked (fCons (rdN 0) aNil)))
  (rSeq (rExpr (vCall 2 F_require_kind (fCons (rdN 3) (fCons (rdN 1) aNil))))
  (rSeq (rExpr (vCall 2 F_require_kind (fCons (rdN 3) (fCons (rdN 2) aNil))))
  (rRet (fIx (vCall 2 (F_row_of 20) (fCons (rdN 3) (fCons (rdN 1) aNil))) (rdN 2))))))
def F_eigenvalue (ds : List D) : Rf := (b_eigenvalue (env0 4 ds)).fn
abbrev s_require_ordered : Stmt := topS 64
theorem sc_require_ordered : FnScope ["tree"] ["tree"] (defScope s_require_ordered) := ⟨rfl, rfl, rfl, by decide +kernel, rfl, by decide +kernel, by decide +kernel⟩
def b_require_ordered : List Sl → Ro :=
  (rIf (fAsB (f2 (fIx (rdN 0) (vK (.int 0))) (fTup (fCons (vK (.str "words")) (fCons (vK (.str "sets")) aNil))) (dIn true))) (rRaise "InvalidQuestion") Ro.nx)
def F_require_ordered (ds : List D) : Rf := (b_require_ordered (env0 1 ds)).fn
abbrev s_require_radius : Stmt := topS 66
theorem sc_require_radius : FnScope ["tree", "radius"] ["tree", "radius"] (defScope s_require_radius) := ⟨rfl, rfl, rfl, by decide +kernel, rfl, by decide +kernel, by decide +kernel⟩
def b_require_radius : List Sl → Ro :=
  (rIf (bOr (bNot (fTru (vCall 1 F_is_integer (fCons (rdN 1) aNil)))) (bNot (fAsB (fChain (vK (.int 0)) (rdN 1) (vCall 1 (F_kinds_of 20) (fCons (rdN 0) aNil)) dLe dLt)))) (rRaise "InvalidQuestion") Ro.nx)
def F_require_radius (ds : List D) : Rf := (b_require_radius (env0 2 ds)).fn
abbrev s_checked_with_radius : Stmt := topS 67
theorem sc_checked_with_radius : FnScope ["tree", "radius", "scheme"] ["tree", "radius"] (defScope s_checked_with_radius) := ⟨rfl, rfl, rfl, by decide +kernel, rfl, by decide +kernel, by decide +kernel⟩
def b_checked_with_radius : List Sl → Ro :=
  (rSeq (rSet 2 (vCall 1 F_checked (fCons (rdN 0) aNil)))
  (rSeq (rExpr (vCall 1 F_require_ordered (fCons (rdN 2) aNil)))
  (rSeq (rExpr (vCall 2 F_require_radius (fCons (rdN 2) (fCons (rdN 1) aNil))))
  (rRet (rdN 2)))))
def F_checked_with_radius (ds : List D) : Rf := (b_checked_with_radius (env0 3 ds)).fn
abbrev s_ball_of : Stmt := topS 68
theorem sc_ball_of : FnScope ["tree", "radius"] ["tree", "radius"] (defScope s_ball_of) := ⟨rfl, rfl, rfl, by decide +kernel, rfl, by decide +kernel, by decide +kernel⟩
def b_ball_of : List Sl → Ro :=
  (rRet (fCB (fCons (fSl (vCall 1 (F_part_valencies 20) (fCons (rdN 0) aNil)) pNo (fPart (f2 (rdN 1) (vK (.int 1)) dAddU))) aNil) cSumL))
def F_ball_of (ds : List D) : Rf := (b_ball_of (env0 2 ds)).fn
abbrev s_zeros_of : Stmt := topS 69
theorem sc_zeros_of : FnScope ["tree", "radius", "space", "row"] ["tree", "radius"] (defScope s_zeros_of) := ⟨rfl, rfl, rfl, by decide +kernel, rfl, by decide +kernel, by decide +kernel⟩
def b_zeros_of : List Sl → Ro :=
  (rRet (fFrz (fLc (wEnumA (fCons (vCall 1 (F_rows_of 20) (fCons (rdN 0) aNil)) aNil)) (gTu 2 (gsC (gNm 2) (gsC (gNm 3) gsN))) (fAsB (f2 (fCB (fCons (fSl (rdN 3) pNo (fPart (f2 (rdN 1) (vK (.int 1)) dAddU))) aNil) cSumL) (vK (.int 0)) dEq)) (rdN 2) [2, 3])))
def F_zeros_of (ds : List D) : Rf := (b_zeros_of (env0 4 ds)).fn
abbrev s_ball_size : Stmt := topS 70
theorem sc_ball_size : FnScope ["tree", "radius"] ["tree", "radius"] (defScope s_ball_size) := ⟨rfl, rfl, rfl, by decide +kernel, rfl, by decide +kernel, by decide +kernel⟩
def b_ball_size : List Sl → Ro :=
  (rRet (vCall 2 F_ball_of (fCons (vCall 2 F_checked_with_radius (fCons (rdN 0) (fCons (rdN 1) aNil))) (fCons (rdN 1) aNil))))
def F_ball_size (ds : List D) : Rf := (b_ball_size (env0 2 ds)).fn
abbrev s_ball_divides : Stmt := topS 71
theorem sc_ball_divides : FnScope ["tree", "radius", "scheme"] ["tree", "radius"] (defScope s_ball_divides) := ⟨rfl, rfl, rfl, by decide +kernel, rfl, by decide +kernel, by decide +kernel⟩
def b_ball_divides : List Sl → Ro :=
  (rSeq (rSet 2 (vCall 2 F_checked_with_radius (fCons (rdN 0) (fCons (rdN 1) aNil))))
  (rRet (f2 (f2 (vCall 1 (F_points_of 20) (fCons (rdN 2) aNil)) (vCall 2 F_ball_of (fCons (rdN 2) (fCons (rdN 1) aNil))) dMod) (vK (.int 0)) dEq)))
def F_ball_divides (ds : List D) : Rf := (b_ball_divides (env0 3 ds)).fn
abbrev s_ball_zeros : Stmt := topS 72
theorem sc_ball_zeros : FnScope ["tree", "radius"] ["tree", "radius"] (defScope s_ball_zeros) := ⟨rfl, rfl, rfl, by decide +kernel, rfl, by decide +kernel, by decide +kernel⟩
def b_ball_zeros : List Sl → Ro :=
  (rRet (vCall 2 F_zeros_of (fCons (vCall 2 F_checked_with_radius (fCons (rdN 0) (fCons (rdN 1) aNil))) (fCons (rdN 1) aNil))))
def F_ball_zeros (ds : List D) : Rf := (b_ball_zeros (env0 2 ds)).fn
abbrev s_can_be_perfect : Stmt := topS 73
theorem sc_can_be_perfect : FnScope ["tree", "radius", "scheme"] ["tree", "radius"] (defScope s_can_be_perfect) := ⟨rfl, rfl, rfl, by decide +kernel, rfl, by decide +kernel, by decide +kernel⟩
def b_can_be_perfect : List Sl → Ro :=
  (rSeq (rSet 2 (vCall 2 F_checked_with_radius (fCons (rdN 0) (fCons (rdN 1) aNil))))
  (rRet (fAnd (f2 (f2 (vCall 1 (F_points_of 20) (fCons (rdN 2) aNil)) (vCall 2 F_ball_of (fCons (rdN 2) (fCons (rdN 1) aNil))) dMod) (vK (.int 0)) dEq) (f2 (fCB (fCons (vCall 2 F_zeros_of (fCons (rdN 2) (fCons (rdN 1) aNil))) aNil) cLen) (rdN 1) dGe))))
def F_can_be_perfect (ds : List D) : Rf := (b_can_be_perfect (env0 3 ds)).fn
abbrev s__law_row : Stmt := topS 75
theorem sc__law_row : FnScope ["cell", "many", "row", "rest", "mixed", "k"] ["cell", "many"] (defScope s__law_row) := ⟨rfl, rfl, rfl, by decide +kernel, rfl, by decide +kernel, by decide +kernel⟩
def b__law_row : List Sl → Ro :=
  (rSeq (rSetO 2 (fLst aNil))
  (rSeq (rSet 3 (fCB (fCons (rdN 0) aNil) cAbs))
  (rSeq (rSet 4 (f2 (fCB (fCons (f2 (f2 (rdN 3) (vK (.int 48271)) dMul) (vK (.int 69621)) dAddU) aNil) cInt) (vK (.int 2147483647)) dMod))
  (rSeq (rFor (wRng1 (fCons (rdN 1) aNil)) (gNm 5) (rSeq (rSet 4 (f2 (fCB (fCons (f2 (f2 (rdN 4) (vK (.int 16807)) dMul) (f2 (vK (.int 271)) (f2 (rdN 5) (vK (.int 3)) dAddU) dMul) dAddU) aNil) cInt) (vK (.int 2147483629)) dMod))
  (rIf (fAsB (f2 (fCB (fCons (rdN 0) aNil) cAbs) (f2 (vK (.int 10)) (vK (.int 18)) dPow) dGe)) (rSeq (rExpr (fApp 2 (f2 (fCB (fCons (rdN 3) aNil) cInt) (vK (.int 1009)) dMod)))
  (rSet 3 (f2 (rdN 3) (vK (.int 1009)) dFdv))) (rExpr (fApp 2 (f2 (fCB (fCons (f2 (rdN 4) (vK (.int 7)) dFdv) aNil) cInt) (vK (.int 1009)) dMod))))))
  (rRet (rdN 2))))))
def F__law_row (ds : List D) : Rf := (b__law_row (env0 6 ds)).fn
abbrev s__law_numbers : Stmt := topS 76
theorem sc__law_numbers : FnScope ["script", "many", "cells", "each", "numbers", "cell", "number"] ["script", "many"] (defScope s__law_numbers) := ⟨rfl, rfl, rfl, by decide +kernel, rfl, by decide +kernel, by decide +kernel⟩
def b__law_numbers : List Sl → Ro :=
  (rSeq (rSet 2 (fSl (rdN 0) pNo (fPart (vK (.int 63)))))
  (rSeq (rSet 3 (f2 (vK (.int 1)) (f2 (rdN 1) (fCB (fCons (vK (.int 1)) (fCons (fCB (fCons (rdN 2) aNil) cLen) aNil)) cMax2) dFdv) dAddU))
  (rSeq (rSetO 4 (fLst aNil))
  (rSeq (rFor (fItems (rdN 2)) (gNm 5) (rFor (fItems (vCall 2 F__law_row (fCons (rdN 5) (fCons (rdN 3) aNil)))) (gNm 6) (rExpr (fApp 4 (rdN 6)))))
  (rSeq (whileR (fAsB (f2 (ownLen 4) (rdN 1) dLt)) (rExpr (fApp 4 (vK (.int 0)))) fuel)
  (rRet (fSl (rdN 4) pNo (fPart (rdN 1)))))))))
def F__law_numbers (ds : List D) : Rf := (b__law_numbers (env0 7 ds)).fn
abbrev s__law_pick : Stmt := topS 77
theorem sc__law_pick : FnScope ["numbers", "at", "most"] ["numbers", "at", "most"] (defScope s__law_pick) := ⟨rfl, rfl, rfl, by decide +kernel, rfl, by decide +kernel, by decide +kernel⟩
def b__law_pick : List Sl → Ro :=
  (rRet (f2 (fCB (fCons (fIx (rdN 0) (rdN 1)) aNil) cInt) (rdN 2) dMod))
def F__law_pick (ds : List D) : Rf := (b__law_pick (env0 3 ds)).fn
abbrev s__law_choose : Stmt := topS 78
theorem sc__law_choose : FnScope ["n", "k", "total", "j"] ["n", "k"] (defScope s__law_choose) := ⟨rfl, rfl, rfl, by decide +kernel, rfl, by decide +kernel, by decide +kernel⟩
def b__law_choose : List Sl → Ro :=
  (rSeq (rIf (bOr (fAsB (f2 (rdN 1) (vK (.int 0)) dLt)) (fAsB (f2 (rdN 1) (rdN 0) dGt))) (rRet (vK (.int 0))) Ro.nx)
  (rSeq (rSet 2 (vK (.int 1)))
  (rSeq (rFor (wRng1 (fCons (rdN 1) aNil)) (gNm 3) (rSet 2 (fCB (fCons (f2 (f2 (rdN 2) (f2 (rdN 0) (rdN 3) dSub) dMul) (f2 (rdN 3) (vK (.int 1)) dAddU) dFdv) aNil) cInt)))
  (rRet (rdN 2)))))
def F__law_choose (ds : List D) : Rf := (b__law_choose (env0 4 ds)).fn
abbrev s__law_sets : Stmt := topS 79
theorem sc__law_sets : FnScope ["n", "k", "found", "turn", "longer", "one", "r"] ["n", "k"] (defScope s__law_sets) := ⟨rfl, rfl, rfl, by decide +kernel, rfl, by decide +kernel, by decide +kernel⟩
def b__law_sets : List Sl → Ro :=
  (rSeq (rSet 2 (fFrz (fLst (fCons (fTup aNil) aNil))))
  (rSeq (rFor (wRng1 (fCons (rdN 1) aNil)) (gNm 3) (rSeq (rSetO 4 (fLst aNil))
  (rSeq (rFor (fItems (rdN 2)) (gNm 5) (rFor (wRng2 (fCons (fIf (fAsB (f2 (fCB (fCons (rdN 5) aNil) cLen) (vK (.int 0)) dGt)) (f2 (fCB (fCons (fIx (rdN 5) (fNeg (vK (.int 1)))) aNil) cInt) (vK (.int 1)) dAddU) (vK (.int 0))) (fCons (rdN 0) aNil))) (gNm 6) (rExpr (fApp 4 (f2 (rdN 5) (fTup (fCons (rdN 6) aNil)) dCatT)))))
  (rSet 2 (rdN 4)))))
  (rRet (rdN 2))))
def F__law_sets (ds : List D) : Rf := (b__law_sets (env0 7 ds)).fn
abbrev s__law_kinds : Stmt := topS 80
theorem sc__law_kinds : FnScope ["tree", "first", "second", "m", "d", "n", "points", "turn", "longer", "one", "r", "row", "c", "other", "k", "x"] ["tree"] (defScope s__law_kinds) := ⟨rfl, rfl, rfl, by decide +kernel, rfl, by decide +kernel, by decide +kernel⟩
def b__law_kinds (rec : List D → Rf) : List Sl → Ro :=
  (rSeq (rIf (fAsB (f2 (fIx (rdN 0) (vK (.int 0))) (vK (.str "listed")) dEq)) (rRet (fFrz (fLc (fItems (fIx (rdN 0) (vK (.int 1)))) (gNm 11) tYes' (fFrz (fNewL (fCons (rdN 11) aNil))) [11]))) Ro.nx)
  (rSeq (rIf (fAsB (f2 (fIx (rdN 0) (vK (.int 0))) (vK (.str "words")) dEq)) (rSeq (rSet 6 (fFrz (fLst (fCons (fTup aNil) aNil))))
  (rSeq (rFor (wRng1 (fCons (fIx (rdN 0) (vK (.int 1))) aNil)) (gNm 7) (rSeq (rSet 8 (fFrz (fLst aNil)))
  (rSeq (rFor (fItems (rdN 6)) (gNm 9) (rSet 8 (fFrz (fN2 (rdN 8) (fFrz (fLc (wRng1 (fCons (fIx (rdN 0) (vK (.int 2))) aNil)) (gNm 14) tYes' (f2 (rdN 9) (fTup (fCons (rdN 14) aNil)) dCatT) [14])) dCat))))
  (rSet 6 (rdN 8)))))
  (rRet (fFrz (fLc (fItems (rdN 6)) (gNm 9) tYes' (fFrz (fLc (fItems (rdN 6)) (gNm 13) tYes' (fCB (fCons (fFrz (fLc (wRng1 (fCons (fIx (rdN 0) (vK (.int 1))) aNil)) (gNm 14) tYes' (fCB (fCons (f2 (fIx (rdN 9) (rdN 14)) (fIx (rdN 13) (rdN 14)) dNe) aNil) cInt) [14])) aNil) cSumL) [13])) [9]))))) Ro.nx)
  (rSeq (rIf (fAsB (f2 (fIx (rdN 0) (vK (.int 0))) (vK (.str "sets")) dEq)) (rSeq (rSet 6 (vCall 2 F__law_sets (fCons (fIx (rdN 0) (vK (.int 1))) (fCons (fIx (rdN 0) (vK (.int 2))) aNil))))
  (rRet (fFrz (fLc (fItems (rdN 6)) (gNm 9) tYes' (fFrz (fLc (fItems (rdN 6)) (gNm 13) tYes' (f2 (fIx (rdN 0) (vK (.int 2))) (fCB (fCons (fFrz (fLc (fItems (rdN 9)) (gNm 15) (fAsB (f2 (rdN 15) (rdN 13) (dIn false))) (rdN 15) [15])) aNil) cLen) dSub) [13])) [9])))) Ro.nx)
  (rSeq (rSet 1 (vCall 1 rec (fCons (fIx (rdN 0) (vK (.int 1))) aNil)))
  (rSeq (rSet 2 (vCall 1 rec (fCons (fIx (rdN 0) (vK (.int 2))) aNil)))
  (rSeq (rSet 3 (fCB (fCons (rdN 2) aNil) cLen))
  (rSeq (rSet 4 (f2 (fCB (fCons (fFrz (fLc (fItems (rdN 2)) (gNm 11) tYes' (fCB (fCons (rdN 11) aNil) cMaxS) [11])) aNil) cMaxS) (vK (.int 1)) dAddU))
  (rSeq (rSet 5 (f2 (fCB (fCons (rdN 1) aNil) cLen) (rdN 3) dMul))
  (rRet (fFrz (fLc (wRng1 (fCons (rdN 5) aNil)) (gNm 10) tYes' (fFrz (fLc (wRng1 (fCons (rdN 5) aNil)) (gNm 12) tYes' (f2 (f2 (fIx (fIx (rdN 1) (fCB (fCons (f2 (rdN 10) (rdN 3) dFdv) aNil) cInt)) (fCB (fCons (f2 (rdN 12) (rdN 3) dFdv) aNil) cInt)) (rdN 4) dMul) (fIx (fIx (rdN 2) (f2 (fCB (fCons (rdN 10) aNil) cInt) (rdN 3) dMod)) (f2 (fCB (fCons (rdN 12) aNil) cInt) (rdN 3) dMod)) dAddU) [12])) [10])))))))))))
def F__law_kinds : Nat → List D → Rf
  | 0, _ => .bad
  | m + 1, ds => (b__law_kinds (F__law_kinds m) (env0 16 ds)).fn
abbrev s__law_metric : Stmt := topS 82
theorem sc__law_metric : FnScope ["numbers", "at", "kind"] ["numbers", "at"] (defScope s__law_metric) := ⟨rfl, rfl, rfl, by decide +kernel, rfl, by decide +kernel, by decide +kernel⟩
def b__law_metric : List Sl → Ro :=
  (rSeq (rSet 2 (vCall 3 F__law_pick (fCons (rdN 0) (fCons (rdN 1) (fCons (vK (.int 6)) aNil)))))
  (rSeq (rIf (fAsB (f2 (rdN 2) (vK (.int 2)) dLt)) (rRet (fTup (fCons (vK (.str "words")) (fCons (f2 (vK (.int 1)) (vCall 3 F__law_pick (fCons (rdN 0) (fCons (f2 (rdN 1) (vK (.int 1)) dAddU) (fCons (vK (.int 3)) aNil)))) dAddU) (fCons (f2 (vK (.int 2)) (vCall 3 F__law_pick (fCons (rdN 0) (fCons (f2 (rdN 1) (vK (.int 2)) dAddU) (fCons (vK (.int 2)) aNil)))) dAddU) aNil))))) Ro.nx)
  (rSeq (rIf (fAsB (f2 (rdN 2) (vK (.int 2)) dEq)) (rRet (fTup (fCons (vK (.str "words")) (fCons (f2 (vK (.int 4)) (vCall 3 F__law_pick (fCons (rdN 0) (fCons (f2 (rdN 1) (vK (.int 1)) dAddU) (fCons (vK (.int 2)) aNil)))) dAddU) (fCons (vK (.int 2)) aNil))))) Ro.nx)
  (rSeq (rIf (fAsB (f2 (rdN 2) (vK (.int 3)) dEq)) (rRet (fTup (fCons (vK (.str "sets")) (fCons (f2 (vK (.int 2)) (vCall 3 F__law_pick (fCons (rdN 0) (fCons (f2 (rdN 1) (vK (.int 1)) dAddU) (fCons (vK (.int 4)) aNil)))) dAddU) (fCons (vK (.int 1)) aNil))))) Ro.nx)
  (rSeq (rIf (fAsB (f2 (rdN 2) (vK (.int 4)) dEq)) (rRet (fTup (fCons (vK (.str "sets")) (fCons (f2 (vK (.int 4)) (vCall 3 F__law_pick (fCons (rdN 0) (fCons (f2 (rdN 1) (vK (.int 1)) dAddU) (fCons (vK (.int 3)) aNil)))) dAddU) (fCons (vK (.int 2)) aNil))))) Ro.nx)
  (rRet (fTup (fCons (vK (.str "sets")) (fCons (vK (.int 6)) (fCons (vK (.int 3)) aNil))))))))))
def F__law_metric (ds : List D) : Rf := (b__law_metric (env0 3 ds)).fn
abbrev s__law_size_of : Stmt := topS 83
theorem sc__law_size_of : FnScope ["tree", "radius", "total", "power_v", "kind"] ["tree", "radius"] (defScope s__law_size_of) := ⟨rfl, rfl, rfl, by decide +kernel, rfl, by decide +kernel, by decide +kernel⟩
def b__law_size_of : List Sl → Ro :=
  (rSeq (rSet 2 (vK (.int 0)))
  (rSeq (rSet 3 (vK (.int 1)))
  (rSeq (rFor (wRng1 (fCons (f2 (rdN 1) (vK (.int 1)) dAddU) aNil)) (gNm 4) (rIf (fAsB (f2 (fIx (rdN 0) (vK (.int 0))) (vK (.str "words")) dEq)) (rSeq (rSet 2 (f2 (rdN 2) (f2 (vCall 2 F__law_choose (fCons (fIx (rdN 0) (vK (.int 1))) (fCons (rdN 4) aNil))) (rdN 3) dMul) dAddU))
  (rSet 3 (f2 (rdN 3) (f2 (fIx (rdN 0) (vK (.int 2))) (vK (.int 1)) dSub) dMul))) (rSet 2 (f2 (rdN 2) (f2 (vCall 2 F__law_choose (fCons (fIx (rdN 0) (vK (.int 2))) (fCons (rdN 4) aNil))) (vCall 2 F__law_choose (fCons (f2 (fIx (rdN 0) (vK (.int 1))) (fIx (rdN 0) (vK (.int 2))) dSub) (fCons (rdN 4) aNil))) dMul) dAddU))))
  (rRet (rdN 2)))))
def F__law_size_of (ds : List D) : Rf := (b__law_size_of (env0 5 ds)).fn
abbrev s__law_points : Stmt := topS 84
theorem sc__law_points : FnScope ["tree", "total", "k"] ["tree"] (defScope s__law_points) := ⟨rfl, rfl, rfl, by decide +kernel, rfl, by decide +kernel, by decide +kernel⟩
def b__law_points : List Sl → Ro :=
  (rSeq (rIf (fAsB (f2 (fIx (rdN 0) (vK (.int 0))) (vK (.str "sets")) dEq)) (rRet (vCall 2 F__law_choose (fCons (fIx (rdN 0) (vK (.int 1))) (fCons (fIx (rdN 0) (vK (.int 2))) aNil)))) Ro.nx)
  (rSeq (rSet 1 (vK (.int 1)))
  (rSeq (rFor (wRng1 (fCons (fIx (rdN 0) (vK (.int 1))) aNil)) (gNm 2) (rSet 1 (f2 (rdN 1) (fIx (rdN 0) (vK (.int 2))) dMul)))
  (rRet (rdN 1)))))
def F__law_points (ds : List D) : Rf := (b__law_points (env0 3 ds)).fn
abbrev s_law : Stmt := topS 85
theorem sc_law : FnScope ["script", "numbers", "tree", "great", "most", "radius", "size", "divides", "told", "zeros", "found", "n", "j", "kind"] ["script"] (defScope s_law) := ⟨rfl, rfl, rfl, by decide +kernel, rfl, by decide +kernel, by decide +kernel⟩
def b_law : List Sl → Ro :=
  (rSeq (rSet 1 (vCall 2 F__law_numbers (fCons (rdN 0) (fCons (vK (.int 20)) aNil))))
  (rSeq (rSet 2 (vCall 2 F__law_metric (fCons (rdN 1) (fCons (vK (.int 0)) aNil))))
  (rSeq (rSet 3 (f2 (vCall 3 F__law_pick (fCons (rdN 1) (fCons (vK (.int 4)) (fCons (vK (.int 3)) aNil)))) (vK (.int 0)) dEq))
  (rSeq (rIf (fTru (rdN 3)) (rSeq (rSet 11 (f2 (vK (.int 1)) (vCall 3 F__law_pick (fCons (rdN 1) (fCons (vK (.int 1)) (fCons (vK (.int 14)) aNil)))) dAddU))
  (rSet 2 (fIx (fFrz (fLst (fCons (fTup (fCons (vK (.str "words")) (fCons (rdN 11) (fCons (f2 (vK (.int 2)) (vCall 3 F__law_pick (fCons (rdN 1) (fCons (vK (.int 2)) (fCons (vK (.int 4)) aNil)))) dAddU) aNil)))) (fCons (fTup (fCons (vK (.str "sets")) (fCons (f2 (vK (.int 2)) (rdN 11) dMul) (fCons (f2 (vK (.int 1)) (vCall 3 F__law_pick (fCons (rdN 1) (fCons (vK (.int 2)) (fCons (rdN 11) aNil)))) dAddU) aNil)))) aNil)))) (vCall 3 F__law_pick (fCons (rdN 1) (fCons (vK (.int 5)) (fCons (vK (.int 2)) aNil))))))) Ro.nx)
  (rSeq (rSet 4 (fIx (fFrz (fLst (fCons (fIx (rdN 2) (vK (.int 2))) (fCons (fIx (rdN 2) (vK (.int 1))) aNil)))) (fCB (fCons (f2 (fIx (rdN 2) (vK (.int 0))) (vK (.str "words")) dEq) aNil) cInt)))
  (rSeq (rSet 5 (vCall 3 F__law_pick (fCons (rdN 1) (fCons (vK (.int 6)) (fCons (f2 (rdN 4) (vK (.int 1)) dAddU) aNil)))))
  (rSeq (rIf (bAnd (fTru (rdN 3)) (fAsB (f2 (vCall 3 F__law_pick (fCons (rdN 1) (fCons (vK (.int 7)) (fCons (vK (.int 5)) aNil)))) (vK (.int 1)) dEq))) (rSeq (rSet 2 (fTup (fCons (vK (.str "sets")) (fCons (vK (.int 12)) (fCons (vK (.int 4)) aNil)))))
  (rSeq (rSet 4 (vK (.int 4)))
  (rSet 5 (vK (.int 1))))) Ro.nx)
  (rSeq (rSet 6 (vCall 2 F__law_size_of (fCons (rdN 2) (fCons (rdN 5) aNil))))
  (rSeq (rIf (bAnd (bNot (fTru (rdN 3))) (fAsB (f2 (rdN 6) (fCB (fCons (fFrz (fLc (fItems (fIx (vCall 1 (F__law_kinds 20) (fCons (rdN 2) aNil)) (vK (.int 0)))) (gNm 13) (fAsB (f2 (rdN 13) (rdN 5) dLe)) (rdN 13) [13])) aNil) cLen) dNe))) (rRet (vK (.bl false))) Ro.nx)
  (rSeq (rIf (fAsB (f2 (vCall 2 F_ball_size (fCons (rdN 2) (fCons (rdN 5) aNil))) (rdN 6) dNe)) (rRet (vK (.bl false))) Ro.nx)
  (rSeq (rSet 7 (f2 (f2 (fCB (fCons (vCall 1 F__law_points (fCons (rdN 2) aNil)) aNil) cInt) (rdN 6) dMod) (vK (.int 0)) dEq))
  (rSeq (rSet 8 (vCall 2 F_ball_divides (fCons (rdN 2) (fCons (rdN 5) aNil))))
  (rSeq (rIf (bOr (bNot (fTru (fIsi (rdN 8) ["bool"]))) (fAsB (f2 (rdN 8) (rdN 7) dNe))) (rRet (vK (.bl false))) Ro.nx)
  (rSeq (rSet 9 (fFrz (fLc (wRng1 (fCons (f2 (rdN 4) (vK (.int 1)) dAddU) aNil)) (gNm 12) (fAsB (f2 (fCB (fCons (fFrz (fLc (wRng1 (fCons (f2 (rdN 5) (vK (.int 1)) dAddU) aNil)) (gNm 13) tYes' (vCall 3 F_eigenvalue (fCons (rdN 2) (fCons (rdN 12) (fCons (rdN 13) aNil)))) [13])) aNil) cSumL) (vK (.int 0)) dEq)) (rdN 12) [12])))
  (rSeq (rSet 10 (vCall 2 F_ball_zeros (fCons (rdN 2) (fCons (rdN 5) aNil))))
  (rSeq (rIf (bOr (bNot (fTru (fIsi (rdN 10) ["list"]))) (bOr (fAsB (f2 (rdN 10) (rdN 9) dNe)) (fAsB (f2 (fCB (fCons (rdN 9) aNil) cLen) (rdN 5) dGt)))) (rRet (vK (.bl false))) Ro.nx)
  (rSeq (rSet 8 (vCall 2 F_can_be_perfect (fCons (rdN 2) (fCons (rdN 5) aNil))))
  (rRet (fAnd (fIsi (rdN 8) ["bool"]) (f2 (rdN 8) (fAnd (rdN 7) (f2 (fCB (fCons (rdN 9) aNil) cLen) (rdN 5) dGe)) dEq))))))))))))))))))))
def F_law (ds : List D) : Rf := (b_law (env0 14 ds)).fn
/-- where the things of the top stand -/
structure Ad where
  f_is_integer : Addr
  c_is_integer : Addr
  fd_is_integer : FuncData
  f_are_integers : Addr
  c_are_integers : Addr
  fd_are_integers : FuncData
  f_power : Addr
  c_power : Addr
  fd_power : FuncData
  f_choose : Addr
  c_choose : Addr
  fd_choose : FuncData
  f_points_of : Addr
  c_points_of : Addr
  fd_points_of : FuncData
  f_kinds_of : Addr
  c_kinds_of : Addr
  fd_kinds_of : FuncData
  f_has_shape : Addr
  c_has_shape : Addr
  fd_has_shape : FuncData
  f_cell_fault : Addr
  c_cell_fault : Addr
  fd_cell_fault : FuncData
  f_diagonal_fault : Addr
  c_diagonal_fault : Addr
  fd_diagonal_fault : FuncData
  f_mirror_fault : Addr
  c_mirror_fault : Addr
  fd_mirror_fault : FuncData
  f_kind_fault : Addr
  c_kind_fault : Addr
  fd_kind_fault : FuncData
  f_way_counts : Addr
  c_way_counts : Addr
  fd_way_counts : FuncData
  f_first_unlike : Addr
  c_first_unlike : Addr
  fd_first_unlike : FuncData
  f_number_fault : Addr
  c_number_fault : Addr
  fd_number_fault : FuncData
  f_table_fault : Addr
  c_table_fault : Addr
  fd_table_fault : FuncData
  f_is_part : Addr
  c_is_part : Addr
  fd_is_part : FuncData
  f_parts_of : Addr
  c_parts_of : Addr
  fd_parts_of : FuncData
  f_is_scheme : Addr
  c_is_scheme : Addr
  fd_is_scheme : FuncData
  f_as_tuples : Addr
  c_as_tuples : Addr
  fd_as_tuples : FuncData
  f_checked : Addr
  c_checked : Addr
  fd_checked : FuncData
  f_require_kind : Addr
  c_require_kind : Addr
  fd_require_kind : FuncData
  f_part_valencies : Addr
  c_part_valencies : Addr
  fd_part_valencies : FuncData
  f_word_ways : Addr
  c_word_ways : Addr
  fd_word_ways : FuncData
  f_set_ways : Addr
  c_set_ways : Addr
  fd_set_ways : FuncData
  f_listed_ways : Addr
  c_listed_ways : Addr
  fd_listed_ways : FuncData
  f_part_ways : Addr
  c_part_ways : Addr
  fd_part_ways : FuncData
  f_part_numbers : Addr
  c_part_numbers : Addr
  fd_part_numbers : FuncData
  f_all_numbers : Addr
  c_all_numbers : Addr
  fd_all_numbers : FuncData
  f_dot : Addr
  c_dot : Addr
  fd_dot : FuncData
  f_action_of : Addr
  c_action_of : Addr
  fd_action_of : FuncData
  f_times : Addr
  c_times : Addr
  fd_times : FuncData
  f_characteristic : Addr
  c_characteristic : Addr
  fd_characteristic : FuncData
  f_divided : Addr
  c_divided : Addr
  fd_divided : FuncData
  f_whole_roots : Addr
  c_whole_roots : Addr
  fd_whole_roots : FuncData
  f_without : Addr
  c_without : Addr
  fd_without : FuncData
  f_listed_rows : Addr
  c_listed_rows : Addr
  fd_listed_rows : FuncData
  f_convolved : Addr
  c_convolved : Addr
  fd_convolved : FuncData
  f_signed_choices : Addr
  c_signed_choices : Addr
  fd_signed_choices : FuncData
  f_row_of : Addr
  c_row_of : Addr
  fd_row_of : FuncData
  f_rows_of : Addr
  c_rows_of : Addr
  fd_rows_of : FuncData
  f_eigenvalue : Addr
  c_eigenvalue : Addr
  fd_eigenvalue : FuncData
  f_require_ordered : Addr
  c_require_ordered : Addr
  fd_require_ordered : FuncData
  f_require_radius : Addr
  c_require_radius : Addr
  fd_require_radius : FuncData
  f_checked_with_radius : Addr
  c_checked_with_radius : Addr
  fd_checked_with_radius : FuncData
  f_ball_of : Addr
  c_ball_of : Addr
  fd_ball_of : FuncData
  f_zeros_of : Addr
  c_zeros_of : Addr
  fd_zeros_of : FuncData
  f_ball_size : Addr
  c_ball_size : Addr
  fd_ball_size : FuncData
  f_ball_divides : Addr
  c_ball_divides : Addr
  fd_ball_divides : FuncData
  f_ball_zeros : Addr
  c_ball_zeros : Addr
  fd_ball_zeros : FuncData
  f_can_be_perfect : Addr
  c_can_be_perfect : Addr
  fd_can_be_perfect : FuncData
  f__law_row : Addr
  c__law_row : Addr
  fd__law_row : FuncData
  f__law_numbers : Addr
  c__law_numbers : Addr
  fd__law_numbers : FuncData
  f__law_pick : Addr
  c__law_pick : Addr
  fd__law_pick : FuncData
  f__law_choose : Addr
  c__law_choose : Addr
  fd__law_choose : FuncData
  f__law_sets : Addr
  c__law_sets : Addr
  fd__law_sets : FuncData
  f__law_kinds : Addr
  c__law_kinds : Addr
  fd__law_kinds : FuncData
  f__law_metric : Addr
  c__law_metric : Addr
  fd__law_metric : FuncData
  f__law_size_of : Addr
  c__law_size_of : Addr
  fd__law_size_of : FuncData
  f__law_points : Addr
  c__law_points : Addr
  fd__law_points : FuncData
  f_law : Addr
  c_law : Addr
  fd_law : FuncData
  p_are_integers : Addr
  p_has_shape : Addr
  C_SchemeboundError : Addr
  C_InvalidScheme : Addr
  C_InvalidQuestion : Addr
def tabs (A : Ad) : List Addr := [A.p_are_integers, A.p_has_shape]
def xcs (A : Ad) (x : Str) : Option Value :=
  if x = "SchemeboundError" then some (.ref A.C_SchemeboundError) else if x = "InvalidScheme" then some (.ref A.C_InvalidScheme) else if x = "InvalidQuestion" then some (.ref A.C_InvalidQuestion) else none
structure Tx (K : PySem.W.Frag) (mg : Str → Option Value) (base : Heap) (A : Ad) : Prop where
  n_abs : mg "abs" = none
  n_all : mg "all" = none
  n_bool : mg "bool" = none
  n_enumerate : mg "enumerate" = none
  n_int : mg "int" = none
  n_isinstance : mg "isinstance" = none
  n_len : mg "len" = none
  n_list : mg "list" = none
  n_max : mg "max" = none
  n_range : mg "range" = none
  n_sorted : mg "sorted" = none
  n_sum : mg "sum" = none
  n_tuple : mg "tuple" = none
  n_zip : mg "zip" = none
  g_is_integer : mg "is_integer" = some (.ref A.f_is_integer)
  F_is_integer : FunC K "is_integer" "is_integer" s_is_integer A.f_is_integer A.fd_is_integer A.c_is_integer
  b_is_integer : L2.Binds K A.fd_is_integer ["value"] []
  g_are_integers : mg "are_integers" = some (.ref A.f_are_integers)
  F_are_integers : FunC K "are_integers" "are_integers" s_are_integers A.f_are_integers A.fd_are_integers A.c_are_integers
  b_are_integers : L2.Binds K A.fd_are_integers ["values"] []
  g_power : mg "power" = some (.ref A.f_power)
  F_power : FunC K "power" "power" s_power A.f_power A.fd_power A.c_power
  b_power : L2.Binds K A.fd_power ["base", "exponent"] []
  g_choose : mg "choose" = some (.ref A.f_choose)
  F_choose : FunC K "choose" "choose" s_choose A.f_choose A.fd_choose A.c_choose
  b_choose : L2.Binds K A.fd_choose ["many", "few"] []
  g_points_of : mg "points_of" = some (.ref A.f_points_of)
  F_points_of : FunC K "points_of" "points_of" s_points_of A.f_points_of A.fd_points_of A.c_points_of
  b_points_of : L2.Binds K A.fd_points_of ["tree"] []
  g_kinds_of : mg "kinds_of" = some (.ref A.f_kinds_of)
  F_kinds_of : FunC K "kinds_of" "kinds_of" s_kinds_of A.f_kinds_of A.fd_kinds_of A.c_kinds_of
  b_kinds_of : L2.Binds K A.fd_kinds_of ["tree"] []
  g_has_shape : mg "has_shape" = some (.ref A.f_has_shape)
  F_has_shape : FunC K "has_shape" "has_shape" s_has_shape A.f_has_shape A.fd_has_shape A.c_has_shape
  b_has_shape : L2.Binds K A.fd_has_shape ["rows"] []
  g_cell_fault : mg "cell_fault" = some (.ref A.f_cell_fault)
  F_cell_fault : FunC K "cell_fault" "cell_fault" s_cell_fault A.f_cell_fault A.fd_cell_fault A.c_cell_fault
  b_cell_fault : L2.Binds K A.fd_cell_fault ["rows"] []
  g_diagonal_fault : mg "diagonal_fault" = some (.ref A.f_diagonal_fault)
  F_diagonal_fault : FunC K "diagonal_fault" "diagonal_fault" s_diagonal_fault A.f_diagonal_fault A.fd_diagonal_fault A.c_diagonal_fault
  b_diagonal_fault : L2.Binds K A.fd_diagonal_fault ["rows"] []
  g_mirror_fault : mg "mirror_fault" = some (.ref A.f_mirror_fault)
  F_mirror_fault : FunC K "mirror_fault" "mirror_fault" s_mirror_fault A.f_mirror_fault A.fd_mirror_fault A.c_mirror_fault
  b_mirror_fault : L2.Binds K A.fd_mirror_fault ["rows"] []
  g_kind_fault : mg "kind_fault" = some (.ref A.f_kind_fault)
  F_kind_fault : FunC K "kind_fault" "kind_fault" s_kind_fault A.f_kind_fault A.fd_kind_fault A.c_kind_fault
  b_kind_fault : L2.Binds K A.fd_kind_fault ["rows"] []
  g_way_counts : mg "way_counts" = some (.ref A.f_way_counts)
  F_way_counts : FunC K "way_counts" "way_counts" s_way_counts A.f_way_counts A.fd_way_counts A.c_way_counts
  b_way_counts : L2.Binds K A.fd_way_counts ["one", "other"] []
  g_first_unlike : mg "first_unlike" = some (.ref A.f_first_unlike)
  F_first_unlike : FunC K "first_unlike" "first_unlike" s_first_unlike A.f_first_unlike A.fd_first_unlike A.c_first_unlike
  b_first_unlike : L2.Binds K A.fd_first_unlike ["one", "other"] []
  g_number_fault : mg "number_fault" = some (.ref A.f_number_fault)
  F_number_fault : FunC K "number_fault" "number_fault" s_number_fault A.f_number_fault A.fd_number_fault A.c_number_fault
  b_number_fault : L2.Binds K A.fd_number_fault ["rows"] []
  g_table_fault : mg "table_fault" = some (.ref A.f_table_fault)
  F_table_fault : FunC K "table_fault" "table_fault" s_table_fault A.f_table_fault A.fd_table_fault A.c_table_fault
  b_table_fault : L2.Binds K A.fd_table_fault ["rows"] []
  g_is_part : mg "is_part" = some (.ref A.f_is_part)
  F_is_part : FunC K "is_part" "is_part" s_is_part A.f_is_part A.fd_is_part A.c_is_part
  b_is_part : L2.Binds K A.fd_is_part ["part"] []
  g_parts_of : mg "parts_of" = some (.ref A.f_parts_of)
  F_parts_of : FunC K "parts_of" "parts_of" s_parts_of A.f_parts_of A.fd_parts_of A.c_parts_of
  b_parts_of : L2.Binds K A.fd_parts_of ["tree"] []
  g_is_scheme : mg "is_scheme" = some (.ref A.f_is_scheme)
  F_is_scheme : FunC K "is_scheme" "is_scheme" s_is_scheme A.f_is_scheme A.fd_is_scheme A.c_is_scheme
  b_is_scheme : L2.Binds K A.fd_is_scheme ["tree"] []
  g_as_tuples : mg "as_tuples" = some (.ref A.f_as_tuples)
  F_as_tuples : FunC K "as_tuples" "as_tuples" s_as_tuples A.f_as_tuples A.fd_as_tuples A.c_as_tuples
  b_as_tuples : L2.Binds K A.fd_as_tuples ["tree"] []
  g_checked : mg "checked" = some (.ref A.f_checked)
  F_checked : FunC K "checked" "checked" s_checked A.f_checked A.fd_checked A.c_checked
  b_checked : L2.Binds K A.fd_checked ["tree"] []
  g_require_kind : mg "require_kind" = some (.ref A.f_require_kind)
  F_require_kind : FunC K "require_kind" "require_kind" s_require_kind A.f_require_kind A.fd_require_kind A.c_require_kind
  b_require_kind : L2.Binds K A.fd_require_kind ["tree", "kind"] []
  g_part_valencies : mg "part_valencies" = some (.ref A.f_part_valencies)
  F_part_valencies : FunC K "part_valencies" "part_valencies" s_part_valencies A.f_part_valencies A.fd_part_valencies A.c_part_valencies
  b_part_valencies : L2.Binds K A.fd_part_valencies ["tree"] []
  g_word_ways : mg "word_ways" = some (.ref A.f_word_ways)
  F_word_ways : FunC K "word_ways" "word_ways" s_word_ways A.f_word_ways A.fd_word_ways A.c_word_ways
  b_word_ways : L2.Binds K A.fd_word_ways ["many", "base", "i", "j", "k"] []
  g_set_ways : mg "set_ways" = some (.ref A.f_set_ways)
  F_set_ways : FunC K "set_ways" "set_ways" s_set_ways A.f_set_ways A.fd_set_ways A.c_set_ways
  b_set_ways : L2.Binds K A.fd_set_ways ["many", "size", "i", "j", "k"] []
  g_listed_ways : mg "listed_ways" = some (.ref A.f_listed_ways)
  F_listed_ways : FunC K "listed_ways" "listed_ways" s_listed_ways A.f_listed_ways A.fd_listed_ways A.c_listed_ways
  b_listed_ways : L2.Binds K A.fd_listed_ways ["rows", "i", "j", "k"] []
  g_part_ways : mg "part_ways" = some (.ref A.f_part_ways)
  F_part_ways : FunC K "part_ways" "part_ways" s_part_ways A.f_part_ways A.fd_part_ways A.c_part_ways
  b_part_ways : L2.Binds K A.fd_part_ways ["tree", "i", "j", "k"] []
  g_part_numbers : mg "part_numbers" = some (.ref A.f_part_numbers)
  F_part_numbers : FunC K "part_numbers" "part_numbers" s_part_numbers A.f_part_numbers A.fd_part_numbers A.c_part_numbers
  b_part_numbers : L2.Binds K A.fd_part_numbers ["tree", "k"] []
  g_all_numbers : mg "all_numbers" = some (.ref A.f_all_numbers)
  F_all_numbers : FunC K "all_numbers" "all_numbers" s_all_numbers A.f_all_numbers A.fd_all_numbers A.c_all_numbers
  b_all_numbers : L2.Binds K A.fd_all_numbers ["tree"] []
  g_dot : mg "dot" = some (.ref A.f_dot)
  F_dot : FunC K "dot" "dot" s_dot A.f_dot A.fd_dot A.c_dot
  b_dot : L2.Binds K A.fd_dot ["one", "other"] []
  g_action_of : mg "action_of" = some (.ref A.f_action_of)
  F_action_of : FunC K "action_of" "action_of" s_action_of A.f_action_of A.fd_action_of A.c_action_of
  b_action_of : L2.Binds K A.fd_action_of ["numbers", "i"] []
  g_times : mg "times" = some (.ref A.f_times)
  F_times : FunC K "times" "times" s_times A.f_times A.fd_times A.c_times
  b_times : L2.Binds K A.fd_times ["one", "other"] []
  g_characteristic : mg "characteristic" = some (.ref A.f_characteristic)
  F_characteristic : FunC K "characteristic" "characteristic" s_characteristic A.f_characteristic A.fd_characteristic A.c_characteristic
  b_characteristic : L2.Binds K A.fd_characteristic ["rows"] []
  g_divided : mg "divided" = some (.ref A.f_divided)
  F_divided : FunC K "divided" "divided" s_divided A.f_divided A.fd_divided A.c_divided
  b_divided : L2.Binds K A.fd_divided ["coefficients", "root"] []
  g_whole_roots : mg "whole_roots" = some (.ref A.f_whole_roots)
  F_whole_roots : FunC K "whole_roots" "whole_roots" s_whole_roots A.f_whole_roots A.fd_whole_roots A.c_whole_roots
  b_whole_roots : L2.Binds K A.fd_whole_roots ["coefficients", "most"] []
  g_without : mg "without" = some (.ref A.f_without)
  F_without : FunC K "without" "without" s_without A.f_without A.fd_without A.c_without
  b_without : L2.Binds K A.fd_without ["action", "roots", "told"] []
  g_listed_rows : mg "listed_rows" = some (.ref A.f_listed_rows)
  F_listed_rows : FunC K "listed_rows" "listed_rows" s_listed_rows A.f_listed_rows A.fd_listed_rows A.c_listed_rows
  b_listed_rows : L2.Binds K A.fd_listed_rows ["tree"] []
  g_convolved : mg "convolved" = some (.ref A.f_convolved)
  F_convolved : FunC K "convolved" "convolved" s_convolved A.f_convolved A.fd_convolved A.c_convolved
  b_convolved : L2.Binds K A.fd_convolved ["one", "other"] []
  g_signed_choices : mg "signed_choices" = some (.ref A.f_signed_choices)
  F_signed_choices : FunC K "signed_choices" "signed_choices" s_signed_choices A.f_signed_choices A.fd_signed_choices A.c_signed_choices
  b_signed_choices : L2.Binds K A.fd_signed_choices ["many"] []
  g_row_of : mg "row_of" = some (.ref A.f_row_of)
  F_row_of : FunC K "row_of" "row_of" s_row_of A.f_row_of A.fd_row_of A.c_row_of
  b_row_of : L2.Binds K A.fd_row_of ["tree", "space"] []
  g_rows_of : mg "rows_of" = some (.ref A.f_rows_of)
  F_rows_of : FunC K "rows_of" "rows_of" s_rows_of A.f_rows_of A.fd_rows_of A.c_rows_of
  b_rows_of : L2.Binds K A.fd_rows_of ["tree"] []
  g_eigenvalue : mg "eigenvalue" = some (.ref A.f_eigenvalue)
  F_eigenvalue : FunC K "eigenvalue" "eigenvalue" s_eigenvalue A.f_eigenvalue A.fd_eigenvalue A.c_eigenvalue
  b_eigenvalue : L2.Binds K A.fd_eigenvalue ["tree", "space", "kind"] []
  g_require_ordered : mg "require_ordered" = some (.ref A.f_require_ordered)
  F_require_ordered : FunC K "require_ordered" "require_ordered" s_require_ordered A.f_require_ordered A.fd_require_ordered A.c_require_ordered
  b_require_ordered : L2.Binds K A.fd_require_ordered ["tree"] []
  g_require_radius : mg "require_radius" = some (.ref A.f_require_radius)
  F_require_radius : FunC K "require_radius" "require_radius" s_require_radius A.f_require_radius A.fd_require_radius A.c_require_radius
  b_require_radius : L2.Binds K A.fd_require_radius ["tree", "radius"] []
  g_checked_with_radius : mg "checked_with_radius" = some (.ref A.f_checked_with_radius)
  F_checked_with_radius : FunC K "checked_with_radius" "checked_with_radius" s_checked_with_radius A.f_checked_with_radius A.fd_checked_with_radius A.c_checked_with_radius
  b_checked_with_radius : L2.Binds K A.fd_checked_with_radius ["tree", "radius"] []
  g_ball_of : mg "ball_of" = some (.ref A.f_ball_of)
  F_ball_of : FunC K "ball_of" "ball_of" s_ball_of A.f_ball_of A.fd_ball_of A.c_ball_of
  b_ball_of : L2.Binds K A.fd_ball_of ["tree", "radius"] []
  g_zeros_of : mg "zeros_of" = some (.ref A.f_zeros_of)
  F_zeros_of : FunC K "zeros_of" "zeros_of" s_zeros_of A.f_zeros_of A.fd_zeros_of A.c_zeros_of
  b_zeros_of : L2.Binds K A.fd_zeros_of ["tree", "radius"] []
  g_ball_size : mg "ball_size" = some (.ref A.f_ball_size)
  F_ball_size : FunC K "ball_size" "ball_size" s_ball_size A.f_ball_size A.fd_ball_size A.c_ball_size
  b_ball_size : L2.Binds K A.fd_ball_size ["tree", "radius"] []
  g_ball_divides : mg "ball_divides" = some (.ref A.f_ball_divides)
  F_ball_divides : FunC K "ball_divides" "ball_divides" s_ball_divides A.f_ball_divides A.fd_ball_divides A.c_ball_divides
  b_ball_divides : L2.Binds K A.fd_ball_divides ["tree", "radius"] []
  g_ball_zeros : mg "ball_zeros" = some (.ref A.f_ball_zeros)
  F_ball_zeros : FunC K "ball_zeros" "ball_zeros" s_ball_zeros A.f_ball_zeros A.fd_ball_zeros A.c_ball_zeros
  b_ball_zeros : L2.Binds K A.fd_ball_zeros ["tree", "radius"] []
  g_can_be_perfect : mg "can_be_perfect" = some (.ref A.f_can_be_perfect)
  F_can_be_perfect : FunC K "can_be_perfect" "can_be_perfect" s_can_be_perfect A.f_can_be_perfect A.fd_can_be_perfect A.c_can_be_perfect
  b_can_be_perfect : L2.Binds K A.fd_can_be_perfect ["tree", "radius"] []
  g__law_row : mg "_law_row" = some (.ref A.f__law_row)
  F__law_row : FunC K "_law_row" "_law_row" s__law_row A.f__law_row A.fd__law_row A.c__law_row
  b__law_row : L2.Binds K A.fd__law_row ["cell", "many"] []
  g__law_numbers : mg "_law_numbers" = some (.ref A.f__law_numbers)
  F__law_numbers : FunC K "_law_numbers" "_law_numbers" s__law_numbers A.f__law_numbers A.fd__law_numbers A.c__law_numbers
  b__law_numbers : L2.Binds K A.fd__law_numbers ["script", "many"] []
  g__law_pick : mg "_law_pick" = some (.ref A.f__law_pick)
  F__law_pick : FunC K "_law_pick" "_law_pick" s__law_pick A.f__law_pick A.fd__law_pick A.c__law_pick
  b__law_pick : L2.Binds K A.fd__law_pick ["numbers", "at", "most"] []
  g__law_choose : mg "_law_choose" = some (.ref A.f__law_choose)
  F__law_choose : FunC K "_law_choose" "_law_choose" s__law_choose A.f__law_choose A.fd__law_choose A.c__law_choose
  b__law_choose : L2.Binds K A.fd__law_choose ["n", "k"] []
  g__law_sets : mg "_law_sets" = some (.ref A.f__law_sets)
  F__law_sets : FunC K "_law_sets" "_law_sets" s__law_sets A.f__law_sets A.fd__law_sets A.c__law_sets
  b__law_sets : L2.Binds K A.fd__law_sets ["n", "k"] []
  g__law_kinds : mg "_law_kinds" = some (.ref A.f__law_kinds)
  F__law_kinds : FunC K "_law_kinds" "_law_kinds" s__law_kinds A.f__law_kinds A.fd__law_kinds A.c__law_kinds
  b__law_kinds : L2.Binds K A.fd__law_kinds ["tree"] []
  g__law_metric : mg "_law_metric" = some (.ref A.f__law_metric)
  F__law_metric : FunC K "_law_metric" "_law_metric" s__law_metric A.f__law_metric A.fd__law_metric A.c__law_metric
  b__law_metric : L2.Binds K A.fd__law_metric ["numbers", "at"] []
  g__law_size_of : mg "_law_size_of" = some (.ref A.f__law_size_of)
  F__law_size_of : FunC K "_law_size_of" "_law_size_of" s__law_size_of A.f__law_size_of A.fd__law_size_of A.c__law_size_of
  b__law_size_of : L2.Binds K A.fd__law_size_of ["tree", "radius"] []
  g__law_points : mg "_law_points" = some (.ref A.f__law_points)
  F__law_points : FunC K "_law_points" "_law_points" s__law_points A.f__law_points A.fd__law_points A.c__law_points
  b__law_points : L2.Binds K A.fd__law_points ["tree"] []
  g_law : mg "law" = some (.ref A.f_law)
  F_law : FunC K "law" "law" s_law A.f_law A.fd_law A.c_law
  b_law : L2.Binds K A.fd_law ["script"] []
  t_are_integers : GxR.TabB base mg A.c_are_integers A.p_are_integers
  t_has_shape : GxR.TabB base mg A.c_has_shape A.p_has_shape
  k_MOST_ROWS : ∃ t, mg "MOST_ROWS" = some (.int 24 t)
  k_MOST_LISTED_KINDS : ∃ t, mg "MOST_LISTED_KINDS" = some (.int 8 t)
  k_MOST_PARTS : ∃ t, mg "MOST_PARTS" = some (.int 8 t)
  k_MOST_KINDS : ∃ t, mg "MOST_KINDS" = some (.int 60 t)
  k_MOST_POINTS : ∃ t, mg "MOST_POINTS" = some (.int 1000000000000000000000000000000000000000000000000000000000000 t)
  k_MOST_PLACES : ∃ t, mg "MOST_PLACES" = some (.int 40 t)
  k_LEAST_BASE : ∃ t, mg "LEAST_BASE" = some (.int 2 t)
  k_MOST_BASE : ∃ t, mg "MOST_BASE" = some (.int 1000 t)
  k_MOST_CHOICES : ∃ t, mg "MOST_CHOICES" = some (.int 80 t)
  i_comb : mg "comb" = some (.builtin "math.comb")
  g_SchemeboundError : mg "SchemeboundError" = some (.ref A.C_SchemeboundError)
  x_SchemeboundError : PySem.W.excIn K A.C_SchemeboundError [.type "ValueError", .type "Exception", .type "BaseException", .type "object"] "ValueError.__new__" = true
  kp_SchemeboundError : PySem.W.keepIn K (.ref A.C_SchemeboundError) = true
  xb_SchemeboundError : PySem.W.subIn K (.ref A.C_SchemeboundError) (.type "BaseException") = some true
  xt_SchemeboundError : PySem.W.typeIn K (.ref A.C_SchemeboundError) = some (.type "type")
  g_InvalidScheme : mg "InvalidScheme" = some (.ref A.C_InvalidScheme)
  x_InvalidScheme : PySem.W.excIn K A.C_InvalidScheme [.type "ValueError", .type "Exception", .type "BaseException", .type "object"] "ValueError.__new__" = true
  kp_InvalidScheme : PySem.W.keepIn K (.ref A.C_InvalidScheme) = true
  xb_InvalidScheme : PySem.W.subIn K (.ref A.C_InvalidScheme) (.type "BaseException") = some true
  xt_InvalidScheme : PySem.W.typeIn K (.ref A.C_InvalidScheme) = some (.type "type")
  g_InvalidQuestion : mg "InvalidQuestion" = some (.ref A.C_InvalidQuestion)
  x_InvalidQuestion : PySem.W.excIn K A.C_InvalidQuestion [.type "ValueError", .type "Exception", .type "BaseException", .type "object"] "ValueError.__new__" = true
  kp_InvalidQuestion : PySem.W.keepIn K (.ref A.C_InvalidQuestion) = true
  xb_InvalidQuestion : PySem.W.subIn K (.ref A.C_InvalidQuestion) (.type "BaseException") = some true
  xt_InvalidQuestion : PySem.W.typeIn K (.ref A.C_InvalidQuestion) = some (.type "type")
section
variable {P : Program} {w : World} {K : PySem.W.Frag} {mg : Str → Option Value} {base : Heap} {A : Ad}
theorem tm_are_integers : A.p_are_integers ∈ tabs A := by unfold tabs; simp
theorem tm_has_shape : A.p_has_shape ∈ tabs A := by unfold tabs; simp
theorem xc_InvalidScheme : xcs A "InvalidScheme" = some (.ref A.C_InvalidScheme) := by rfl
theorem xc_InvalidQuestion : xcs A "InvalidQuestion" = some (.ref A.C_InvalidQuestion) := by rfl
theorem ok_is_integer (T : Tx K mg base A) : FnOk P w K mg base (CX P w) 1 A.f_is_integer A.fd_is_integer ["value"] (spP K (tabs A) (xcs A) 1 F_is_integer) :=
  fn_pureC (k := 0) T.F_is_integer sc_is_integer (fun _ _ => rfl) fun Ar outer s H B E hr =>
    (pxs_one (q_ret (pv_and (pv_isi (by rfl) T.n_isinstance (pv_name (i := 0) rfl (by first | exact Or.inl rfl | exact Or.inr (Or.inl rfl) | exact Or.inr (Or.inr rfl))) (by rfl) T.n_int (by decide +kernel) (by decide)) (pv_one (pv_not (pv_isi (by rfl) T.n_isinstance (pv_name (i := 0) rfl (by first | exact Or.inl rfl | exact Or.inr (Or.inl rfl) | exact Or.inr (Or.inr rfl))) (by rfl) T.n_bool (by decide +kernel) (by decide)))))))
theorem ok_are_integers (T : Tx K mg base A) : FnOk P w K mg base (CX P w) 3 A.f_are_integers A.fd_are_integers ["values"] (spP K (tabs A) (xcs A) 1 F_are_integers) :=
  fn_pureC (k := 2) T.F_are_integers sc_are_integers (fun _ _ => rfl) fun Ar outer s H B E hr =>
    (pxs_one (q_ret (pv_and (pv_isiT (by rfl) T.n_isinstance (pv_name (i := 0) rfl (by first | exact Or.inl rfl | exact Or.inr (Or.inl rfl) | exact Or.inr (Or.inr rfl))) (pty_cons (by rfl) T.n_list (by decide +kernel) (by decide) (pty_cons (by rfl) T.n_tuple (by decide +kernel) (by decide) pty_nil))) (pv_one (pv_all (k := 1) (own := [("value", 1)]) (hr.mono (by omega)) sc_are_integers.nd (by rfl) T.n_all T.t_are_integers rfl tm_are_integers (show Nm ["values", "value"] (defScope s_are_integers) _ _ from by (constructor <;> first | rfl | decide +kernel)) (pit_seq (pv_name (i := 0) rfl (by first | exact Or.inl rfl | exact Or.inr (Or.inl rfl) | exact Or.inr (Or.inr rfl)))) ⟨fun _ _ _ _ _ _ _ hr2 => (ptg_name (i := 1) sc_are_integers.nd rfl (by first | exact Or.inl rfl | exact Or.inr rfl) (by first | exact Or.inl rfl | exact Or.inr rfl)), fun _ _ _ _ _ _ _ hr2 => qf_nil, fun _ _ _ _ _ _ _ hr2 => (q_call (ok_is_integer T) (hr2.mono (by omega)) (by rfl) T.g_is_integer T.F_is_integer.kp T.b_is_integer passL (pas_cons (pv_name (i := 1) rfl (by first | exact Or.inl rfl | exact Or.inr (Or.inl rfl) | exact Or.inr (Or.inr rfl))) qa_nil))⟩ (by decide))))))
theorem ok_power (T : Tx K mg base A) : FnOk P w K mg base (CX P w) 1 A.f_power A.fd_power ["base", "exponent"] (spP K (tabs A) (xcs A) 2 F_power) :=
  fn_pureC (k := 0) T.F_power sc_power (fun _ _ => rfl) fun Ar outer s H B E hr =>
    (qs_cons (q_set (i := 2) sc_power.nd rfl q_int)
  (qs_cons (q_for (passes_of rfl) rfl (qi_range1 (by rfl) T.n_range (pas_cons (pv_name (i := 1) rfl (by first | exact Or.inl rfl | exact Or.inr (Or.inl rfl) | exact Or.inr (Or.inr rfl))) qa_nil)) (ptg_name (i := 3) sc_power.nd rfl (by first | exact Or.inl rfl | exact Or.inr rfl) (by first | exact Or.inl rfl | exact Or.inr rfl)) (pxs_one (px_aug (i := 2) sc_power.nd rfl (by first | exact Or.inl rfl | exact Or.inr rfl) (pv_name (i := 0) rfl (by first | exact Or.inl rfl | exact Or.inr (Or.inl rfl) | exact Or.inr (Or.inr rfl))) id_mul)))
  (pxs_one (q_ret (pv_name (i := 2) rfl (by first | exact Or.inl rfl | exact Or.inr (Or.inl rfl) | exact Or.inr (Or.inr rfl)))))))
theorem ok_choose (T : Tx K mg base A) : FnOk P w K mg base (CX P w) 1 A.f_choose A.fd_choose ["many", "few"] (spP K (tabs A) (xcs A) 2 F_choose) :=
  fn_pureC (k := 0) T.F_choose sc_choose (fun _ _ => rfl) fun Ar outer s H B E hr =>
    (qs_cons (q_if (pb_bo (pw_o (pb_cmp od_lt (by rfl) (pv_name (i := 1) rfl (by first | exact Or.inl rfl | exact Or.inr (Or.inl rfl) | exact Or.inr (Or.inr rfl))) q_int) (pw_o1 (pb_cmp od_gt (by rfl) (pv_name (i := 1) rfl (by first | exact Or.inl rfl | exact Or.inr (Or.inl rfl) | exact Or.inr (Or.inr rfl))) (pv_name (i := 0) rfl (by first | exact Or.inl rfl | exact Or.inr (Or.inl rfl) | exact Or.inr (Or.inr rfl))))))) (pxs_one (q_ret q_int)) pxs_nil)
  (pxs_one (q_ret (pv_comb (by rfl) T.i_comb (pas_cons (pv_name (i := 0) rfl (by first | exact Or.inl rfl | exact Or.inr (Or.inl rfl) | exact Or.inr (Or.inr rfl))) (pas_cons (pv_name (i := 1) rfl (by first | exact Or.inl rfl | exact Or.inr (Or.inl rfl) | exact Or.inr (Or.inr rfl))) qa_nil))))))
theorem ok_points_of (T : Tx K mg base A) : ∀ m, FnOk P w K mg base (CX P w) (1 + m) A.f_points_of A.fd_points_of ["tree"] (spP K (tabs A) (xcs A) 1 (F_points_of m))
  | 0 => fn_bad
  | m + 1 => fn_pureC (k := 1 + m) T.F_points_of sc_points_of (fun _ _ => rfl) fun Ar outer s H B E hr =>
    have IH := ok_points_of T m
    (qs_cons (q_set (i := 1) sc_points_of.nd rfl (pv_ix (pv_name (i := 0) rfl (by first | exact Or.inl rfl | exact Or.inr (Or.inl rfl) | exact Or.inr (Or.inr rfl))) q_int))
  (qs_cons (q_if (pb_cmp (od_eq (hu64 hr)) (by rfl) (pv_name (i := 1) rfl (by first | exact Or.inl rfl | exact Or.inr (Or.inl rfl) | exact Or.inr (Or.inr rfl))) q_str) (pxs_one (q_ret (q_call (ok_power T) (hr.mono (by omega)) (by rfl) T.g_power T.F_power.kp T.b_power (passes_call (takes_of rfl rfl rfl rfl) fun _ _ _ _ h => h) (pas_cons (pv_ix (pv_name (i := 0) rfl (by first | exact Or.inl rfl | exact Or.inr (Or.inl rfl) | exact Or.inr (Or.inr rfl))) q_int) (pas_cons (pv_ix (pv_name (i := 0) rfl (by first | exact Or.inl rfl | exact Or.inr (Or.inl rfl) | exact Or.inr (Or.inr rfl))) q_int) qa_nil))))) pxs_nil)
  (qs_cons (q_if (pb_cmp (od_eq (hu64 hr)) (by rfl) (pv_name (i := 1) rfl (by first | exact Or.inl rfl | exact Or.inr (Or.inl rfl) | exact Or.inr (Or.inr rfl))) q_str) (pxs_one (q_ret (q_call (ok_choose T) (hr.mono (by omega)) (by rfl) T.g_choose T.F_choose.kp T.b_choose (passes_call (takes_of rfl rfl rfl rfl) fun _ _ _ _ h => h) (pas_cons (pv_ix (pv_name (i := 0) rfl (by first | exact Or.inl rfl | exact Or.inr (Or.inl rfl) | exact Or.inr (Or.inr rfl))) q_int) (pas_cons (pv_ix (pv_name (i := 0) rfl (by first | exact Or.inl rfl | exact Or.inr (Or.inl rfl) | exact Or.inr (Or.inr rfl))) q_int) qa_nil))))) pxs_nil)
  (qs_cons (q_if (pb_cmp (od_eq (hu64 hr)) (by rfl) (pv_name (i := 1) rfl (by first | exact Or.inl rfl | exact Or.inr (Or.inl rfl) | exact Or.inr (Or.inr rfl))) q_str) (pxs_one (q_ret (pv_callB cd_len (by rfl) T.n_len (by decide +kernel) (pas_cons (pv_ix (pv_name (i := 0) rfl (by first | exact Or.inl rfl | exact Or.inr (Or.inl rfl) | exact Or.inr (Or.inr rfl))) q_int) qa_nil)))) pxs_nil)
  (pxs_one (q_ret (pv_op od_mul (q_call IH (hr.mono (by omega)) (by rfl) T.g_points_of T.F_points_of.kp T.b_points_of (passes_call (takes_of rfl rfl rfl rfl) fun _ _ _ _ h => h) (pas_cons (pv_ix (pv_name (i := 0) rfl (by first | exact Or.inl rfl | exact Or.inr (Or.inl rfl) | exact Or.inr (Or.inr rfl))) q_int) qa_nil)) (q_call IH (hr.mono (by omega)) (by rfl) T.g_points_of T.F_points_of.kp T.b_points_of (passes_call (takes_of rfl rfl rfl rfl) fun _ _ _ _ h => h) (pas_cons (pv_ix (pv_name (i := 0) rfl (by first | exact Or.inl rfl | exact Or.inr (Or.inl rfl) | exact Or.inr (Or.inr rfl))) q_int) qa_nil)))))))))
theorem ok_kinds_of (T : Tx K mg base A) : ∀ m, FnOk P w K mg base (CX P w) (1 + m) A.f_kinds_of A.fd_kinds_of ["tree"] (spP K (tabs A) (xcs A) 1 (F_kinds_of m))
  | 0 => fn_bad
  | m + 1 => fn_pureC (k := 1 + m) T.F_kinds_of sc_kinds_of (fun _ _ => rfl) fun Ar outer s H B E hr =>
    have IH := ok_kinds_of T m
    (qs_cons (q_set (i := 1) sc_kinds_of.nd rfl (pv_ix (pv_name (i := 0) rfl (by first | exact Or.inl rfl | exact Or.inr (Or.inl rfl) | exact Or.inr (Or.inr rfl))) q_int))
  (qs_cons (q_if (pb_cmp (od_eq (hu64 hr)) (by rfl) (pv_name (i := 1) rfl (by first | exact Or.inl rfl | exact Or.inr (Or.inl rfl) | exact Or.inr (Or.inr rfl))) q_str) (pxs_one (q_ret (pv_op od_addU (pv_ix (pv_name (i := 0) rfl (by first | exact Or.inl rfl | exact Or.inr (Or.inl rfl) | exact Or.inr (Or.inr rfl))) q_int) q_int))) pxs_nil)
  (qs_cons (q_if (pb_cmp (od_eq (hu64 hr)) (by rfl) (pv_name (i := 1) rfl (by first | exact Or.inl rfl | exact Or.inr (Or.inl rfl) | exact Or.inr (Or.inr rfl))) q_str) (pxs_one (q_ret (pv_op od_addU (pv_ix (pv_name (i := 0) rfl (by first | exact Or.inl rfl | exact Or.inr (Or.inl rfl) | exact Or.inr (Or.inr rfl))) q_int) q_int))) pxs_nil)
  (qs_cons (q_if (pb_cmp (od_eq (hu64 hr)) (by rfl) (pv_name (i := 1) rfl (by first | exact Or.inl rfl | exact Or.inr (Or.inl rfl) | exact Or.inr (Or.inr rfl))) q_str) (pxs_one (q_ret (pv_op od_addU (pv_callB (cd_maxS rfl (hu64 hr)) (by rfl) T.n_max (by decide +kernel) (pas_cons (pv_ix (pv_ix (pv_name (i := 0) rfl (by first | exact Or.inl rfl | exact Or.inr (Or.inl rfl) | exact Or.inr (Or.inr rfl))) q_int) q_int) qa_nil)) q_int))) pxs_nil)
  (pxs_one (q_ret (pv_op od_mul (q_call IH (hr.mono (by omega)) (by rfl) T.g_kinds_of T.F_kinds_of.kp T.b_kinds_of (passes_call (takes_of rfl rfl rfl rfl) fun _ _ _ _ h => h) (pas_cons (pv_ix (pv_name (i := 0) rfl (by first | exact Or.inl rfl | exact Or.inr (Or.inl rfl) | exact Or.inr (Or.inr rfl))) q_int) qa_nil)) (q_call IH (hr.mono (by omega)) (by rfl) T.g_kinds_of T.F_kinds_of.kp T.b_kinds_of (passes_call (takes_of rfl rfl rfl rfl) fun _ _ _ _ h => h) (pas_cons (pv_ix (pv_name (i := 0) rfl (by first | exact Or.inl rfl | exact Or.inr (Or.inl rfl) | exact Or.inr (Or.inr rfl))) q_int) qa_nil)))))))))
theorem ok_has_shape (T : Tx K mg base A) : FnOk P w K mg base (CX P w) 2 A.f_has_shape A.fd_has_shape ["rows"] (spP K (tabs A) (xcs A) 1 F_has_shape) :=
  fn_pureC (k := 1) T.F_has_shape sc_has_shape (fun _ _ => rfl) fun Ar outer s H B E hr =>
    (qs_cons (q_if (pb_bo (pw_o (pb_not (pb_tru (pv_isiT (by rfl) T.n_isinstance (pv_name (i := 0) rfl (by first | exact Or.inl rfl | exact Or.inr (Or.inl rfl) | exact Or.inr (Or.inr rfl))) (pty_cons (by rfl) T.n_list (by decide +kernel) (by decide) (pty_cons (by rfl) T.n_tuple (by decide +kernel) (by decide) pty_nil))))) (pw_o1 (pb_not (pb_chain od_le od_le q_int (pv_callB cd_len (by rfl) T.n_len (by decide +kernel) (pas_cons (pv_name (i := 0) rfl (by first | exact Or.inl rfl | exact Or.inr (Or.inl rfl) | exact Or.inr (Or.inr rfl))) qa_nil)) (q_gi (by rfl) T.k_MOST_ROWS)))))) (pxs_one (q_ret q_bl)) pxs_nil)
  (pxs_one (q_ret (pv_all (k := 0) (own := [("row", 1)]) (hr.mono (by omega)) sc_has_shape.nd (by rfl) T.n_all T.t_has_shape rfl tm_has_shape (show Nm ["rows", "row"] (defScope s_has_shape) _ _ from by (constructor <;> first | rfl | decide +kernel)) (pit_seq (pv_name (i := 0) rfl (by first | exact Or.inl rfl | exact Or.inr (Or.inl rfl) | exact Or.inr (Or.inr rfl)))) ⟨fun _ _ _ _ _ _ _ hr2 => (ptg_name (i := 1) sc_has_shape.nd rfl (by first | exact Or.inl rfl | exact Or.inr rfl) (by first | exact Or.inl rfl | exact Or.inr rfl)), fun _ _ _ _ _ _ _ hr2 => qf_nil, fun _ _ _ _ _ _ _ hr2 => (pv_and (pv_isiT (by rfl) T.n_isinstance (pv_name (i := 1) rfl (by first | exact Or.inl rfl | exact Or.inr (Or.inl rfl) | exact Or.inr (Or.inr rfl))) (pty_cons (by rfl) T.n_list (by decide +kernel) (by decide) (pty_cons (by rfl) T.n_tuple (by decide +kernel) (by decide) pty_nil))) (pv_one (pv_cmp (od_eq (hu64 hr2)) (by rfl) (pv_callB cd_len (by rfl) T.n_len (by decide +kernel) (pas_cons (pv_name (i := 1) rfl (by first | exact Or.inl rfl | exact Or.inr (Or.inl rfl) | exact Or.inr (Or.inr rfl))) qa_nil)) (pv_callB cd_len (by rfl) T.n_len (by decide +kernel) (pas_cons (pv_name (i := 0) rfl (by first | exact Or.inl rfl | exact Or.inr (Or.inl rfl) | exact Or.inr (Or.inr rfl))) qa_nil)))))⟩ (by decide)))))
theorem ok_cell_fault (T : Tx K mg base A) : FnOk P w K mg base (CX P w) 2 A.f_cell_fault A.fd_cell_fault ["rows"] (spP K (tabs A) (xcs A) 1 F_cell_fault) :=
  fn_pureC (k := 1) T.F_cell_fault sc_cell_fault (fun _ _ => rfl) fun Ar outer s H B E hr =>
    (qs_cons (q_for (passes_of rfl) rfl (qi_enumA (by rfl) T.n_enumerate (pas_cons (pv_name (i := 0) rfl (by first | exact Or.inl rfl | exact Or.inr (Or.inl rfl) | exact Or.inr (Or.inr rfl))) qa_nil)) (ptg_tup rfl (ptgs_cons (ptg_name (i := 1) sc_cell_fault.nd rfl (by first | exact Or.inl rfl | exact Or.inr rfl) (by first | exact Or.inl rfl | exact Or.inr rfl)) (ptgs_cons (ptg_name (i := 2) sc_cell_fault.nd rfl (by first | exact Or.inl rfl | exact Or.inr rfl) (by first | exact Or.inl rfl | exact Or.inr rfl)) ptgs_nil))) (pxs_one (q_for (passes_of rfl) rfl (qi_enumA (by rfl) T.n_enumerate (pas_cons (pv_name (i := 2) rfl (by first | exact Or.inl rfl | exact Or.inr (Or.inl rfl) | exact Or.inr (Or.inr rfl))) qa_nil)) (ptg_tup rfl (ptgs_cons (ptg_name (i := 3) sc_cell_fault.nd rfl (by first | exact Or.inl rfl | exact Or.inr rfl) (by first | exact Or.inl rfl | exact Or.inr rfl)) (ptgs_cons (ptg_name (i := 4) sc_cell_fault.nd rfl (by first | exact Or.inl rfl | exact Or.inr rfl) (by first | exact Or.inl rfl | exact Or.inr rfl)) ptgs_nil))) (pxs_one (q_if (pb_bo (pw_o (pb_not (pb_tru (q_call (ok_is_integer T) (hr.mono (by omega)) (by rfl) T.g_is_integer T.F_is_integer.kp T.b_is_integer (passes_call (takes_of rfl rfl rfl rfl) fun _ _ _ _ h => h) (pas_cons (pv_name (i := 4) rfl (by first | exact Or.inl rfl | exact Or.inr (Or.inl rfl) | exact Or.inr (Or.inr rfl))) qa_nil)))) (pw_o1 (pb_not (pb_chain od_le od_lt q_int (pv_name (i := 4) rfl (by first | exact Or.inl rfl | exact Or.inr (Or.inl rfl) | exact Or.inr (Or.inr rfl))) (q_gi (by rfl) T.k_MOST_LISTED_KINDS)))))) (pxs_one (q_ret (pv_tup (pas_cons q_str (pas_cons (pv_name (i := 1) rfl (by first | exact Or.inl rfl | exact Or.inr (Or.inl rfl) | exact Or.inr (Or.inr rfl))) (pas_cons (pv_name (i := 3) rfl (by first | exact Or.inl rfl | exact Or.inr (Or.inl rfl) | exact Or.inr (Or.inr rfl))) qa_nil)))))) pxs_nil)))))
  (pxs_one (q_ret q_non)))
theorem ok_diagonal_fault (T : Tx K mg base A) : FnOk P w K mg base (CX P w) 1 A.f_diagonal_fault A.fd_diagonal_fault ["rows"] (spP K (tabs A) (xcs A) 1 F_diagonal_fault) :=
  fn_pureC (k := 0) T.F_diagonal_fault sc_diagonal_fault (fun _ _ => rfl) fun Ar outer s H B E hr =>
    (qs_cons (q_for (passes_of rfl) rfl (qi_enumA (by rfl) T.n_enumerate (pas_cons (pv_name (i := 0) rfl (by first | exact Or.inl rfl | exact Or.inr (Or.inl rfl) | exact Or.inr (Or.inr rfl))) qa_nil)) (ptg_tup rfl (ptgs_cons (ptg_name (i := 1) sc_diagonal_fault.nd rfl (by first | exact Or.inl rfl | exact Or.inr rfl) (by first | exact Or.inl rfl | exact Or.inr rfl)) (ptgs_cons (ptg_name (i := 2) sc_diagonal_fault.nd rfl (by first | exact Or.inl rfl | exact Or.inr rfl) (by first | exact Or.inl rfl | exact Or.inr rfl)) ptgs_nil))) (pxs_one (q_for (passes_of rfl) rfl (qi_enumA (by rfl) T.n_enumerate (pas_cons (pv_name (i := 2) rfl (by first | exact Or.inl rfl | exact Or.inr (Or.inl rfl) | exact Or.inr (Or.inr rfl))) qa_nil)) (ptg_tup rfl (ptgs_cons (ptg_name (i := 3) sc_diagonal_fault.nd rfl (by first | exact Or.inl rfl | exact Or.inr rfl) (by first | exact Or.inl rfl | exact Or.inr rfl)) (ptgs_cons (ptg_name (i := 4) sc_diagonal_fault.nd rfl (by first | exact Or.inl rfl | exact Or.inr rfl) (by first | exact Or.inl rfl | exact Or.inr rfl)) ptgs_nil))) (pxs_one (q_if (pb_cmp (od_ne (hu64 hr)) (by rfl) (pv_cmp (od_eq (hu64 hr)) (by rfl) (pv_name (i := 4) rfl (by first | exact Or.inl rfl | exact Or.inr (Or.inl rfl) | exact Or.inr (Or.inr rfl))) q_int) (pv_cmp (od_eq (hu64 hr)) (by rfl) (pv_name (i := 1) rfl (by first | exact Or.inl rfl | exact Or.inr (Or.inl rfl) | exact Or.inr (Or.inr rfl))) (pv_name (i := 3) rfl (by first | exact Or.inl rfl | exact Or.inr (Or.inl rfl) | exact Or.inr (Or.inr rfl))))) (pxs_one (q_ret (pv_tup (pas_cons q_str (pas_cons (pv_name (i := 1) rfl (by first | exact Or.inl rfl | exact Or.inr (Or.inl rfl) | exact Or.inr (Or.inr rfl))) (pas_cons (pv_name (i := 3) rfl (by first | exact Or.inl rfl | exact Or.inr (Or.inl rfl) | exact Or.inr (Or.inr rfl))) qa_nil)))))) pxs_nil)))))
  (pxs_one (q_ret q_non)))
theorem ok_mirror_fault (T : Tx K mg base A) : FnOk P w K mg base (CX P w) 1 A.f_mirror_fault A.fd_mirror_fault ["rows"] (spP K (tabs A) (xcs A) 1 F_mirror_fault) :=
  fn_pureC (k := 0) T.F_mirror_fault sc_mirror_fault (fun _ _ => rfl) fun Ar outer s H B E hr =>
    (qs_cons (q_for (passes_of rfl) rfl (qi_enumA (by rfl) T.n_enumerate (pas_cons (pv_name (i := 0) rfl (by first | exact Or.inl rfl | exact Or.inr (Or.inl rfl) | exact Or.inr (Or.inr rfl))) qa_nil)) (ptg_tup rfl (ptgs_cons (ptg_name (i := 1) sc_mirror_fault.nd rfl (by first | exact Or.inl rfl | exact Or.inr rfl) (by first | exact Or.inl rfl | exact Or.inr rfl)) (ptgs_cons (ptg_name (i := 2) sc_mirror_fault.nd rfl (by first | exact Or.inl rfl | exact Or.inr rfl) (by first | exact Or.inl rfl | exact Or.inr rfl)) ptgs_nil))) (pxs_one (q_for (passes_of rfl) rfl (qi_enumA (by rfl) T.n_enumerate (pas_cons (pv_name (i := 2) rfl (by first | exact Or.inl rfl | exact Or.inr (Or.inl rfl) | exact Or.inr (Or.inr rfl))) qa_nil)) (ptg_tup rfl (ptgs_cons (ptg_name (i := 3) sc_mirror_fault.nd rfl (by first | exact Or.inl rfl | exact Or.inr rfl) (by first | exact Or.inl rfl | exact Or.inr rfl)) (ptgs_cons (ptg_name (i := 4) sc_mirror_fault.nd rfl (by first | exact Or.inl rfl | exact Or.inr rfl) (by first | exact Or.inl rfl | exact Or.inr rfl)) ptgs_nil))) (pxs_one (q_if (pb_cmp (od_ne (hu64 hr)) (by rfl) (pv_name (i := 4) rfl (by first | exact Or.inl rfl | exact Or.inr (Or.inl rfl) | exact Or.inr (Or.inr rfl))) (pv_ix (pv_ix (pv_name (i := 0) rfl (by first | exact Or.inl rfl | exact Or.inr (Or.inl rfl) | exact Or.inr (Or.inr rfl))) (pv_name (i := 3) rfl (by first | exact Or.inl rfl | exact Or.inr (Or.inl rfl) | exact Or.inr (Or.inr rfl)))) (pv_name (i := 1) rfl (by first | exact Or.inl rfl | exact Or.inr (Or.inl rfl) | exact Or.inr (Or.inr rfl))))) (pxs_one (q_ret (pv_tup (pas_cons q_str (pas_cons (pv_name (i := 1) rfl (by first | exact Or.inl rfl | exact Or.inr (Or.inl rfl) | exact Or.inr (Or.inr rfl))) (pas_cons (pv_name (i := 3) rfl (by first | exact Or.inl rfl | exact Or.inr (Or.inl rfl) | exact Or.inr (Or.inr rfl))) qa_nil)))))) pxs_nil)))))
  (pxs_one (q_ret q_non)))
theorem ok_kind_fault (T : Tx K mg base A) : FnOk P w K mg base (CX P w) 1 A.f_kind_fault A.fd_kind_fault ["rows"] (spP K (tabs A) (xcs A) 1 F_kind_fault) :=
  fn_pureC (k := 0) T.F_kind_fault sc_kind_fault (fun _ _ => rfl) fun Ar outer s H B E hr =>
    (qs_cons (q_set (i := 1) sc_kind_fault.nd rfl (pv_of (pn_sortSc2 (own := [("row", 4), ("kind", 3)]) (vs1 := [3]) (by rfl) T.n_sorted rfl sc_kind_fault.nd (pit_seq (pv_name (i := 0) rfl (by first | exact Or.inl rfl | exact Or.inr (Or.inl rfl) | exact Or.inr (Or.inr rfl)))) (blkOk_by (by rfl)) (by decide) (fun _ _ _ _ _ => (ptg_name (i := 4) sc_kind_fault.nd rfl (by first | exact Or.inl rfl | exact Or.inr rfl) (by first | exact Or.inl rfl | exact Or.inr rfl))) (fun _ _ _ _ _ => (pit_seq (pv_name (i := 4) rfl (by first | exact Or.inl rfl | exact Or.inr (Or.inl rfl) | exact Or.inr (Or.inr rfl))))) (fun _ _ _ _ _ => (ptg_name (i := 3) sc_kind_fault.nd rfl (by first | exact Or.inl rfl | exact Or.inr rfl) (by first | exact Or.inl rfl | exact Or.inr rfl))) (fun _ _ _ _ _ => (pv_name (i := 3) rfl (by first | exact Or.inl rfl | exact Or.inr (Or.inl rfl) | exact Or.inr (Or.inr rfl)))) (by decide) (by decide))))
  (qs_cons (q_for (passes_of rfl) rfl (qi_enumA (by rfl) T.n_enumerate (pas_cons (pv_name (i := 1) rfl (by first | exact Or.inl rfl | exact Or.inr (Or.inl rfl) | exact Or.inr (Or.inr rfl))) qa_nil)) (ptg_tup rfl (ptgs_cons (ptg_name (i := 2) sc_kind_fault.nd rfl (by first | exact Or.inl rfl | exact Or.inr rfl) (by first | exact Or.inl rfl | exact Or.inr rfl)) (ptgs_cons (ptg_name (i := 3) sc_kind_fault.nd rfl (by first | exact Or.inl rfl | exact Or.inr rfl) (by first | exact Or.inl rfl | exact Or.inr rfl)) ptgs_nil))) (pxs_one (q_if (pb_cmp (od_ne (hu64 hr)) (by rfl) (pv_name (i := 3) rfl (by first | exact Or.inl rfl | exact Or.inr (Or.inl rfl) | exact Or.inr (Or.inr rfl))) (pv_name (i := 2) rfl (by first | exact Or.inl rfl | exact Or.inr (Or.inl rfl) | exact Or.inr (Or.inr rfl)))) (pxs_one (q_ret (pv_tup (pas_cons q_str (pas_cons (pv_name (i := 2) rfl (by first | exact Or.inl rfl | exact Or.inr (Or.inl rfl) | exact Or.inr (Or.inr rfl))) qa_nil))))) pxs_nil)))
  (pxs_one (q_ret q_non))))
theorem ok_way_counts (T : Tx K mg base A) : FnOk P w K mg base (CX P w) 1 A.f_way_counts A.fd_way_counts ["one", "other"] (spP K (tabs A) (xcs A) 2 F_way_counts) :=
  fn_pureC (k := 0) T.F_way_counts sc_way_counts (fun _ _ => rfl) fun Ar outer s H B E hr =>
    (qs_cons (q_setO (i := 2) sc_way_counts.nd rfl (pn_op on_rep (pv_of (pn_lst (pas_cons q_int qa_nil))) (pv_op od_mul (q_gi (by rfl) T.k_MOST_LISTED_KINDS) (q_gi (by rfl) T.k_MOST_LISTED_KINDS))))
  (qs_cons (q_for (passes_of rfl) rfl (qi_zip (by rfl) T.n_zip (pas_cons (pv_name (i := 0) rfl (by first | exact Or.inl rfl | exact Or.inr (Or.inl rfl) | exact Or.inr (Or.inr rfl))) (pas_cons (pv_name (i := 1) rfl (by first | exact Or.inl rfl | exact Or.inr (Or.inl rfl) | exact Or.inr (Or.inr rfl))) qa_nil))) (ptg_tup rfl (ptgs_cons (ptg_name (i := 3) sc_way_counts.nd rfl (by first | exact Or.inl rfl | exact Or.inr rfl) (by first | exact Or.inl rfl | exact Or.inr rfl)) (ptgs_cons (ptg_name (i := 4) sc_way_counts.nd rfl (by first | exact Or.inl rfl | exact Or.inr rfl) (by first | exact Or.inl rfl | exact Or.inr rfl)) ptgs_nil))) (pxs_one (px_augItem (i := 2) rfl (by first | exact Or.inl rfl | exact Or.inr (Or.inl rfl) | exact Or.inr (Or.inr rfl)) (pv_op od_addU (pv_op od_mul (pv_name (i := 3) rfl (by first | exact Or.inl rfl | exact Or.inr (Or.inl rfl) | exact Or.inr (Or.inr rfl))) (q_gi (by rfl) T.k_MOST_LISTED_KINDS)) (pv_name (i := 4) rfl (by first | exact Or.inl rfl | exact Or.inr (Or.inl rfl) | exact Or.inr (Or.inr rfl)))) q_int id_add)))
  (pxs_one (q_ret (pv_name (i := 2) rfl (by first | exact Or.inl rfl | exact Or.inr (Or.inl rfl) | exact Or.inr (Or.inr rfl)))))))
theorem ok_first_unlike (T : Tx K mg base A) : FnOk P w K mg base (CX P w) 1 A.f_first_unlike A.fd_first_unlike ["one", "other"] (spP K (tabs A) (xcs A) 2 F_first_unlike) := fn_bad
theorem ok_number_fault (T : Tx K mg base A) : FnOk P w K mg base (CX P w) 2 A.f_number_fault A.fd_number_fault ["rows"] (spP K (tabs A) (xcs A) 1 F_number_fault) :=
  fn_pureC (k := 1) T.F_number_fault sc_number_fault (fun _ _ => rfl) fun Ar outer s H B E hr =>
    (qs_cons (q_setO (i := 1) sc_number_fault.nd rfl q_dict)
  (qs_cons (q_for (passes_of rfl) rfl (qi_enumA (by rfl) T.n_enumerate (pas_cons (pv_name (i := 0) rfl (by first | exact Or.inl rfl | exact Or.inr (Or.inl rfl) | exact Or.inr (Or.inr rfl))) qa_nil)) (ptg_tup rfl (ptgs_cons (ptg_name (i := 2) sc_number_fault.nd rfl (by first | exact Or.inl rfl | exact Or.inr rfl) (by first | exact Or.inl rfl | exact Or.inr rfl)) (ptgs_cons (ptg_name (i := 3) sc_number_fault.nd rfl (by first | exact Or.inl rfl | exact Or.inr rfl) (by first | exact Or.inl rfl | exact Or.inr rfl)) ptgs_nil))) (pxs_one (q_for (passes_of rfl) rfl (qi_enumA (by rfl) T.n_enumerate (pas_cons (pv_name (i := 0) rfl (by first | exact Or.inl rfl | exact Or.inr (Or.inl rfl) | exact Or.inr (Or.inr rfl))) qa_nil)) (ptg_tup rfl (ptgs_cons (ptg_name (i := 4) sc_number_fault.nd rfl (by first | exact Or.inl rfl | exact Or.inr rfl) (by first | exact Or.inl rfl | exact Or.inr rfl)) (ptgs_cons (ptg_name (i := 5) sc_number_fault.nd rfl (by first | exact Or.inl rfl | exact Or.inr rfl) (by first | exact Or.inl rfl | exact Or.inr rfl)) ptgs_nil))) (qs_cons (q_set (i := 6) sc_number_fault.nd rfl (q_call (ok_way_counts T) (hr.mono (by omega)) (by rfl) T.g_way_counts T.F_way_counts.kp T.b_way_counts (passes_call (takes_of rfl rfl rfl rfl) fun _ _ _ _ h => h) (pas_cons (pv_name (i := 3) rfl (by first | exact Or.inl rfl | exact Or.inr (Or.inl rfl) | exact Or.inr (Or.inr rfl))) (pas_cons (pv_name (i := 5) rfl (by first | exact Or.inl rfl | exact Or.inr (Or.inl rfl) | exact Or.inr (Or.inr rfl))) qa_nil))))
  (qs_cons (q_set (i := 7) sc_number_fault.nd rfl (pv_setd (i := 1) rfl (by first | exact Or.inl rfl | exact Or.inr (Or.inl rfl) | exact Or.inr (Or.inr rfl)) (pv_ix (pv_name (i := 3) rfl (by first | exact Or.inl rfl | exact Or.inr (Or.inl rfl) | exact Or.inr (Or.inr rfl))) (pv_name (i := 4) rfl (by first | exact Or.inl rfl | exact Or.inr (Or.inl rfl) | exact Or.inr (Or.inr rfl)))) (pv_name (i := 6) rfl (by first | exact Or.inl rfl | exact Or.inr (Or.inl rfl) | exact Or.inr (Or.inr rfl)))))
  (pxs_one (q_if (pb_cmp (od_ne (hu64 hr)) (by rfl) (pv_name (i := 6) rfl (by first | exact Or.inl rfl | exact Or.inr (Or.inl rfl) | exact Or.inr (Or.inr rfl))) (pv_name (i := 7) rfl (by first | exact Or.inl rfl | exact Or.inr (Or.inl rfl) | exact Or.inr (Or.inr rfl)))) (qs_cons (q_set (i := 8) sc_number_fault.nd rfl (q_call (ok_first_unlike T) (hr.mono (by omega)) (by rfl) T.g_first_unlike T.F_first_unlike.kp T.b_first_unlike (passes_call (takes_of rfl rfl rfl rfl) fun _ _ _ _ h => h) (pas_cons (pv_name (i := 6) rfl (by first | exact Or.inl rfl | exact Or.inr (Or.inl rfl) | exact Or.inr (Or.inr rfl))) (pas_cons (pv_name (i := 7) rfl (by first | exact Or.inl rfl | exact Or.inr (Or.inl rfl) | exact Or.inr (Or.inr rfl))) qa_nil))))
  (pxs_one (q_ret (pv_tup (pas_cons q_str (pas_cons (pv_op od_fdv (pv_name (i := 8) rfl (by first | exact Or.inl rfl | exact Or.inr (Or.inl rfl) | exact Or.inr (Or.inr rfl))) (q_gi (by rfl) T.k_MOST_LISTED_KINDS)) (pas_cons (pv_op od_mod (pv_name (i := 8) rfl (by first | exact Or.inl rfl | exact Or.inr (Or.inl rfl) | exact Or.inr (Or.inr rfl))) (q_gi (by rfl) T.k_MOST_LISTED_KINDS)) (pas_cons (pv_name (i := 2) rfl (by first | exact Or.inl rfl | exact Or.inr (Or.inl rfl) | exact Or.inr (Or.inr rfl))) (pas_cons (pv_name (i := 4) rfl (by first | exact Or.inl rfl | exact Or.inr (Or.inl rfl) | exact Or.inr (Or.inr rfl))) qa_nil))))))))) pxs_nil)))))))
  (pxs_one (q_ret q_non))))
theorem ok_table_fault (T : Tx K mg base A) : FnOk P w K mg base (CX P w) 3 A.f_table_fault A.fd_table_fault ["rows"] (spP K (tabs A) (xcs A) 1 F_table_fault) :=
  fn_pureC (k := 2) T.F_table_fault sc_table_fault (fun _ _ => rfl) fun Ar outer s H B E hr =>
    (qs_cons (q_if (pb_not (pb_tru (q_call (ok_has_shape T) (hr.mono (by omega)) (by rfl) T.g_has_shape T.F_has_shape.kp T.b_has_shape (passes_call (takes_of rfl rfl rfl rfl) fun _ _ _ _ h => h) (pas_cons (pv_name (i := 0) rfl (by first | exact Or.inl rfl | exact Or.inr (Or.inl rfl) | exact Or.inr (Or.inr rfl))) qa_nil)))) (pxs_one (q_ret (pv_tup (pas_cons q_str qa_nil)))) pxs_nil)
  (pxs_one (q_ret (pv_orT (q_call (ok_cell_fault T) (hr.mono (by omega)) (by rfl) T.g_cell_fault T.F_cell_fault.kp T.b_cell_fault (passes_call (takes_of rfl rfl rfl rfl) fun _ _ _ _ h => h) (pas_cons (pv_name (i := 0) rfl (by first | exact Or.inl rfl | exact Or.inr (Or.inl rfl) | exact Or.inr (Or.inr rfl))) qa_nil)) (pv_orT (q_call (ok_diagonal_fault T) (hr.mono (by omega)) (by rfl) T.g_diagonal_fault T.F_diagonal_fault.kp T.b_diagonal_fault (passes_call (takes_of rfl rfl rfl rfl) fun _ _ _ _ h => h) (pas_cons (pv_name (i := 0) rfl (by first | exact Or.inl rfl | exact Or.inr (Or.inl rfl) | exact Or.inr (Or.inr rfl))) qa_nil)) (pv_orT (q_call (ok_mirror_fault T) (hr.mono (by omega)) (by rfl) T.g_mirror_fault T.F_mirror_fault.kp T.b_mirror_fault (passes_call (takes_of rfl rfl rfl rfl) fun _ _ _ _ h => h) (pas_cons (pv_name (i := 0) rfl (by first | exact Or.inl rfl | exact Or.inr (Or.inl rfl) | exact Or.inr (Or.inr rfl))) qa_nil)) (pv_orT (q_call (ok_kind_fault T) (hr.mono (by omega)) (by rfl) T.g_kind_fault T.F_kind_fault.kp T.b_kind_fault (passes_call (takes_of rfl rfl rfl rfl) fun _ _ _ _ h => h) (pas_cons (pv_name (i := 0) rfl (by first | exact Or.inl rfl | exact Or.inr (Or.inl rfl) | exact Or.inr (Or.inr rfl))) qa_nil)) (pv_one (q_call (ok_number_fault T) (hr.mono (by omega)) (by rfl) T.g_number_fault T.F_number_fault.kp T.b_number_fault (passes_call (takes_of rfl rfl rfl rfl) fun _ _ _ _ h => h) (pas_cons (pv_name (i := 0) rfl (by first | exact Or.inl rfl | exact Or.inr (Or.inl rfl) | exact Or.inr (Or.inr rfl))) qa_nil))))))))))
theorem ok_is_part (T : Tx K mg base A) : FnOk P w K mg base (CX P w) 4 A.f_is_part A.fd_is_part ["part"] (spP K (tabs A) (xcs A) 1 F_is_part) :=
  fn_pureC (k := 3) T.F_is_part sc_is_part (fun _ _ => rfl) fun Ar outer s H B E hr =>
    (qs_cons (q_if (pb_bo (pw_o (pb_not (pb_tru (pv_isi (by rfl) T.n_isinstance (pv_name (i := 0) rfl (by first | exact Or.inl rfl | exact Or.inr (Or.inl rfl) | exact Or.inr (Or.inr rfl))) (by rfl) T.n_tuple (by decide +kernel) (by decide)))) (pw_o1 (pb_not (pb_tru (pv_name (i := 0) rfl (by first | exact Or.inl rfl | exact Or.inr (Or.inl rfl) | exact Or.inr (Or.inr rfl)))))))) (pxs_one (q_ret q_bl)) pxs_nil)
  (qs_cons (q_set (i := 1) sc_is_part.nd rfl (pv_ix (pv_name (i := 0) rfl (by first | exact Or.inl rfl | exact Or.inr (Or.inl rfl) | exact Or.inr (Or.inr rfl))) q_int))
  (qs_cons (q_if (pb_cmp (od_eq (hu64 hr)) (by rfl) (pv_name (i := 1) rfl (by first | exact Or.inl rfl | exact Or.inr (Or.inl rfl) | exact Or.inr (Or.inr rfl))) q_str) (pxs_one (q_ret (pv_and (pv_cmp (od_eq (hu64 hr)) (by rfl) (pv_callB cd_len (by rfl) T.n_len (by decide +kernel) (pas_cons (pv_name (i := 0) rfl (by first | exact Or.inl rfl | exact Or.inr (Or.inl rfl) | exact Or.inr (Or.inr rfl))) qa_nil)) q_int) (pv_one (pv_cmp od_isN (by rfl) (q_call (ok_table_fault T) (hr.mono (by omega)) (by rfl) T.g_table_fault T.F_table_fault.kp T.b_table_fault (passes_call (takes_of rfl rfl rfl rfl) fun _ _ _ _ h => h) (pas_cons (pv_ix (pv_name (i := 0) rfl (by first | exact Or.inl rfl | exact Or.inr (Or.inl rfl) | exact Or.inr (Or.inr rfl))) q_int) qa_nil)) q_non))))) pxs_nil)
  (qs_cons (q_if (pb_cmp (od_ne (hu64 hr)) (by rfl) (pv_callB cd_len (by rfl) T.n_len (by decide +kernel) (pas_cons (pv_name (i := 0) rfl (by first | exact Or.inl rfl | exact Or.inr (Or.inl rfl) | exact Or.inr (Or.inr rfl))) qa_nil)) q_int) (pxs_one (q_ret q_bl)) pxs_nil)
  (qs_cons (q_if (pb_cmp (od_eq (hu64 hr)) (by rfl) (pv_name (i := 1) rfl (by first | exact Or.inl rfl | exact Or.inr (Or.inl rfl) | exact Or.inr (Or.inr rfl))) q_str) (pxs_one (q_ret (pv_and (q_call (ok_are_integers T) (hr.mono (by omega)) (by rfl) T.g_are_integers T.F_are_integers.kp T.b_are_integers (passes_call (takes_of rfl rfl rfl rfl) fun _ _ _ _ h => h) (pas_cons (pv_sl (pv_name (i := 0) rfl (by first | exact Or.inl rfl | exact Or.inr (Or.inl rfl) | exact Or.inr (Or.inr rfl))) (pq_yes q_int) qq_no) qa_nil)) (pv_and (pv_chain od_le od_le q_int (pv_ix (pv_name (i := 0) rfl (by first | exact Or.inl rfl | exact Or.inr (Or.inl rfl) | exact Or.inr (Or.inr rfl))) q_int) (q_gi (by rfl) T.k_MOST_PLACES)) (pv_one (pv_chain od_le od_le (q_gi (by rfl) T.k_LEAST_BASE) (pv_ix (pv_name (i := 0) rfl (by first | exact Or.inl rfl | exact Or.inr (Or.inl rfl) | exact Or.inr (Or.inr rfl))) q_int) (q_gi (by rfl) T.k_MOST_BASE))))))) pxs_nil)
  (qs_cons (q_if (pb_cmp (od_eq (hu64 hr)) (by rfl) (pv_name (i := 1) rfl (by first | exact Or.inl rfl | exact Or.inr (Or.inl rfl) | exact Or.inr (Or.inr rfl))) q_str) (pxs_one (q_ret (pv_and (q_call (ok_are_integers T) (hr.mono (by omega)) (by rfl) T.g_are_integers T.F_are_integers.kp T.b_are_integers (passes_call (takes_of rfl rfl rfl rfl) fun _ _ _ _ h => h) (pas_cons (pv_sl (pv_name (i := 0) rfl (by first | exact Or.inl rfl | exact Or.inr (Or.inl rfl) | exact Or.inr (Or.inr rfl))) (pq_yes q_int) qq_no) qa_nil)) (pv_and (pv_cmp od_le (by rfl) q_int (pv_ix (pv_name (i := 0) rfl (by first | exact Or.inl rfl | exact Or.inr (Or.inl rfl) | exact Or.inr (Or.inr rfl))) q_int)) (pv_one (pv_chain od_le od_le (pv_op od_mul q_int (pv_ix (pv_name (i := 0) rfl (by first | exact Or.inl rfl | exact Or.inr (Or.inl rfl) | exact Or.inr (Or.inr rfl))) q_int)) (pv_ix (pv_name (i := 0) rfl (by first | exact Or.inl rfl | exact Or.inr (Or.inl rfl) | exact Or.inr (Or.inr rfl))) q_int) (q_gi (by rfl) T.k_MOST_CHOICES))))))) pxs_nil)
  (pxs_one (q_ret (pv_cmp (od_eq (hu64 hr)) (by rfl) (pv_name (i := 1) rfl (by first | exact Or.inl rfl | exact Or.inr (Or.inl rfl) | exact Or.inr (Or.inr rfl))) q_str)))))))))
theorem ok_parts_of (T : Tx K mg base A) : FnOk P w K mg base (CX P w) 5 A.f_parts_of A.fd_parts_of ["tree"] (spP K (tabs A) (xcs A) 1 F_parts_of) :=
  fn_pureC (k := 4) T.F_parts_of sc_parts_of (fun _ _ => rfl) fun Ar outer s H B E hr =>
    (qs_cons (q_setO (i := 1) sc_parts_of.nd rfl (pn_lst qa_nil))
  (qs_cons (q_setO (i := 2) sc_parts_of.nd rfl (pn_lst (pas_cons (pv_name (i := 0) rfl (by first | exact Or.inl rfl | exact Or.inr (Or.inl rfl) | exact Or.inr (Or.inr rfl))) qa_nil)))
  (qs_cons (px_while fuel (passes_of rfl) (pb_truN (i := 2) rfl (by first | exact Or.inl rfl | exact Or.inr (Or.inl rfl) | exact Or.inr (Or.inr rfl))) (qs_cons (q_set (i := 3) sc_parts_of.nd rfl (pv_pop (i := 2) rfl (by first | exact Or.inl rfl | exact Or.inr (Or.inl rfl) | exact Or.inr (Or.inr rfl))))
  (qs_cons (q_if (pb_bo (pw_o (pb_cmp (od_eq (hu64 hr)) (by rfl) (pv_lenN (i := 1) rfl (by first | exact Or.inl rfl | exact Or.inr (Or.inl rfl) | exact Or.inr (Or.inr rfl)) (by rfl) T.n_len) (q_gi (by rfl) T.k_MOST_PARTS)) (pw_o1 (pb_not (pb_tru (q_call (ok_is_part T) (hr.mono (by omega)) (by rfl) T.g_is_part T.F_is_part.kp T.b_is_part (passes_call (takes_of rfl rfl rfl rfl) fun _ _ _ _ h => h) (pas_cons (pv_name (i := 3) rfl (by first | exact Or.inl rfl | exact Or.inr (Or.inl rfl) | exact Or.inr (Or.inr rfl))) qa_nil))))))) (pxs_one (q_ret q_non)) pxs_nil)
  (qs_cons (q_expr (pv_app (i := 1) rfl (by first | exact Or.inl rfl | exact Or.inr (Or.inl rfl) | exact Or.inr (Or.inr rfl)) (pv_name (i := 3) rfl (by first | exact Or.inl rfl | exact Or.inr (Or.inl rfl) | exact Or.inr (Or.inr rfl)))))
  (pxs_one (q_if (pb_cmp (od_eq (hu64 hr)) (by rfl) (pv_ix (pv_name (i := 3) rfl (by first | exact Or.inl rfl | exact Or.inr (Or.inl rfl) | exact Or.inr (Or.inr rfl))) q_int) q_str) (pxs_one (q_expr (pv_ext (i := 2) rfl (by first | exact Or.inl rfl | exact Or.inr (Or.inl rfl) | exact Or.inr (Or.inr rfl)) (pv_sl (pv_name (i := 3) rfl (by first | exact Or.inl rfl | exact Or.inr (Or.inl rfl) | exact Or.inr (Or.inr rfl))) (pq_yes q_int) qq_no)))) pxs_nil))))))
  (pxs_one (q_ret (pv_name (i := 1) rfl (by first | exact Or.inl rfl | exact Or.inr (Or.inl rfl) | exact Or.inr (Or.inr rfl))))))))
theorem ok_is_scheme (T : Tx K mg base A) : FnOk P w K mg base (CX P w) 22 A.f_is_scheme A.fd_is_scheme ["tree"] (spP K (tabs A) (xcs A) 1 F_is_scheme) :=
  fn_pureC (k := 21) T.F_is_scheme sc_is_scheme (fun _ _ => rfl) fun Ar outer s H B E hr =>
    (qs_cons (q_set (i := 1) sc_is_scheme.nd rfl (q_call (ok_parts_of T) (hr.mono (by omega)) (by rfl) T.g_parts_of T.F_parts_of.kp T.b_parts_of (passes_call (takes_of rfl rfl rfl rfl) fun _ _ _ _ h => h) (pas_cons (pv_name (i := 0) rfl (by first | exact Or.inl rfl | exact Or.inr (Or.inl rfl) | exact Or.inr (Or.inr rfl))) qa_nil)))
  (qs_cons (q_if (pb_cmp od_isN (by rfl) (pv_name (i := 1) rfl (by first | exact Or.inl rfl | exact Or.inr (Or.inl rfl) | exact Or.inr (Or.inr rfl))) q_non) (pxs_one (q_ret q_bl)) pxs_nil)
  (pxs_one (q_ret (pv_and (pv_cmp od_le (by rfl) (q_call (ok_points_of T 20) (hr.mono (by omega)) (by rfl) T.g_points_of T.F_points_of.kp T.b_points_of (passes_call (takes_of rfl rfl rfl rfl) fun _ _ _ _ h => h) (pas_cons (pv_name (i := 0) rfl (by first | exact Or.inl rfl | exact Or.inr (Or.inl rfl) | exact Or.inr (Or.inr rfl))) qa_nil)) (q_gi (by rfl) T.k_MOST_POINTS)) (pv_one (pv_cmp od_le (by rfl) (q_call (ok_kinds_of T 20) (hr.mono (by omega)) (by rfl) T.g_kinds_of T.F_kinds_of.kp T.b_kinds_of (passes_call (takes_of rfl rfl rfl rfl) fun _ _ _ _ h => h) (pas_cons (pv_name (i := 0) rfl (by first | exact Or.inl rfl | exact Or.inr (Or.inl rfl) | exact Or.inr (Or.inr rfl))) qa_nil)) (q_gi (by rfl) T.k_MOST_KINDS))))))))
theorem ok_as_tuples (T : Tx K mg base A) : ∀ m, FnOk P w K mg base (CX P w) (1 + m) A.f_as_tuples A.fd_as_tuples ["tree"] (spP K (tabs A) (xcs A) 1 (F_as_tuples m))
  | 0 => fn_bad
  | m + 1 => fn_pureC (k := 1 + m) T.F_as_tuples sc_as_tuples (fun _ _ => rfl) fun Ar outer s H B E hr =>
    have IH := ok_as_tuples T m
    (qs_cons (q_if (pb_cmp (od_eq (hu64 hr)) (by rfl) (pv_ix (pv_name (i := 0) rfl (by first | exact Or.inl rfl | exact Or.inr (Or.inl rfl) | exact Or.inr (Or.inr rfl))) q_int) q_str) (pxs_one (q_ret (pv_tup (pas_cons q_str (pas_cons (pv_callTy cd_tuple (by rfl) T.n_tuple (by decide +kernel) (pas_cons (pv_of (pn_lc (own := [("row", 1)]) rfl sc_as_tuples.nd (pit_seq (pv_ix (pv_name (i := 0) rfl (by first | exact Or.inl rfl | exact Or.inr (Or.inl rfl) | exact Or.inr (Or.inr rfl))) q_int)) (blkOk_by (by rfl)) (fun _ _ _ _ _ => (ptg_name (i := 1) sc_as_tuples.nd rfl (by first | exact Or.inl rfl | exact Or.inr rfl) (by first | exact Or.inl rfl | exact Or.inr rfl))) (fun _ _ _ _ _ => qf_nil) (fun _ _ _ _ _ => (pv_callTy cd_tuple (by rfl) T.n_tuple (by decide +kernel) (pas_cons (pv_name (i := 1) rfl (by first | exact Or.inl rfl | exact Or.inr (Or.inl rfl) | exact Or.inr (Or.inr rfl))) qa_nil))) (by decide))) qa_nil)) qa_nil))))) pxs_nil)
  (qs_cons (q_if (pb_cmp (od_eq (hu64 hr)) (by rfl) (pv_ix (pv_name (i := 0) rfl (by first | exact Or.inl rfl | exact Or.inr (Or.inl rfl) | exact Or.inr (Or.inr rfl))) q_int) q_str) (pxs_one (q_ret (pv_tup (pas_cons q_str (pas_cons (q_call IH (hr.mono (by omega)) (by rfl) T.g_as_tuples T.F_as_tuples.kp T.b_as_tuples (passes_call (takes_of rfl rfl rfl rfl) fun _ _ _ _ h => h) (pas_cons (pv_ix (pv_name (i := 0) rfl (by first | exact Or.inl rfl | exact Or.inr (Or.inl rfl) | exact Or.inr (Or.inr rfl))) q_int) qa_nil)) (pas_cons (q_call IH (hr.mono (by omega)) (by rfl) T.g_as_tuples T.F_as_tuples.kp T.b_as_tuples (passes_call (takes_of rfl rfl rfl rfl) fun _ _ _ _ h => h) (pas_cons (pv_ix (pv_name (i := 0) rfl (by first | exact Or.inl rfl | exact Or.inr (Or.inl rfl) | exact Or.inr (Or.inr rfl))) q_int) qa_nil)) qa_nil)))))) pxs_nil)
  (pxs_one (q_ret (pv_name (i := 0) rfl (by first | exact Or.inl rfl | exact Or.inr (Or.inl rfl) | exact Or.inr (Or.inr rfl)))))))
theorem ok_checked (T : Tx K mg base A) : FnOk P w K mg base (CX P w) 23 A.f_checked A.fd_checked ["tree"] (spP K (tabs A) (xcs A) 1 F_checked) :=
  fn_pureC (k := 22) T.F_checked sc_checked (fun _ _ => rfl) fun Ar outer s H B E hr =>
    (qs_cons (q_if (pb_not (pb_tru (q_call (ok_is_scheme T) (hr.mono (by omega)) (by rfl) T.g_is_scheme T.F_is_scheme.kp T.b_is_scheme (passes_call (takes_of rfl rfl rfl rfl) fun _ _ _ _ h => h) (pas_cons (pv_name (i := 0) rfl (by first | exact Or.inl rfl | exact Or.inr (Or.inl rfl) | exact Or.inr (Or.inr rfl))) qa_nil)))) (pxs_one (q_raise rfl (takes_of rfl rfl rfl rfl) xc_InvalidScheme (pmk_own PySem.F.excBase_ValueError T.x_InvalidScheme T.g_InvalidScheme T.kp_InvalidScheme (raises_own T.xb_InvalidScheme T.xt_InvalidScheme) (by rfl)))) pxs_nil)
  (pxs_one (q_ret (q_call (ok_as_tuples T 20) (hr.mono (by omega)) (by rfl) T.g_as_tuples T.F_as_tuples.kp T.b_as_tuples (passes_call (takes_of rfl rfl rfl rfl) fun _ _ _ _ h => h) (pas_cons (pv_name (i := 0) rfl (by first | exact Or.inl rfl | exact Or.inr (Or.inl rfl) | exact Or.inr (Or.inr rfl))) qa_nil)))))
theorem ok_require_kind (T : Tx K mg base A) : FnOk P w K mg base (CX P w) 22 A.f_require_kind A.fd_require_kind ["tree", "kind"] (spP K (tabs A) (xcs A) 2 F_require_kind) :=
  fn_pureC (k := 21) T.F_require_kind sc_require_kind (fun _ _ => rfl) fun Ar outer s H B E hr =>
    (pxs_one (q_if (pb_bo (pw_o (pb_not (pb_tru (q_call (ok_is_integer T) (hr.mono (by omega)) (by rfl) T.g_is_integer T.F_is_integer.kp T.b_is_integer (passes_call (takes_of rfl rfl rfl rfl) fun _ _ _ _ h => h) (pas_cons (pv_name (i := 1) rfl (by first | exact Or.inl rfl | exact Or.inr (Or.inl rfl) | exact Or.inr (Or.inr rfl))) qa_nil)))) (pw_o1 (pb_not (pb_chain od_le od_lt q_int (pv_name (i := 1) rfl (by first | exact Or.inl rfl | exact Or.inr (Or.inl rfl) | exact Or.inr (Or.inr rfl))) (q_call (ok_kinds_of T 20) (hr.mono (by omega)) (by rfl) T.g_kinds_of T.F_kinds_of.kp T.b_kinds_of (passes_call (takes_of rfl rfl rfl rfl) fun _ _ _ _ h => h) (pas_cons (pv_name (i := 0) rfl (by first | exact Or.inl rfl | exact Or.inr (Or.inl rfl) | exact Or.inr (Or.inr rfl))) qa_nil))))))) (pxs_one (q_raise rfl (takes_of rfl rfl rfl rfl) xc_InvalidQuestion (pmk_own PySem.F.excBase_ValueError T.x_InvalidQuestion T.g_InvalidQuestion T.kp_InvalidQuestion (raises_own T.xb_InvalidQuestion T.xt_InvalidQuestion) (by rfl)))) pxs_nil))
theorem ok_part_valencies (T : Tx K mg base A) : ∀ m, FnOk P w K mg base (CX P w) (21 + m) A.f_part_valencies A.fd_part_valencies ["tree"] (spP K (tabs A) (xcs A) 1 (F_part_valencies m))
  | 0 => fn_bad
  | m + 1 => fn_pureC (k := 21 + m) T.F_part_valencies sc_part_valencies (fun _ _ => rfl) fun Ar outer s H B E hr =>
    have IH := ok_part_valencies T m
    (qs_cons (q_set (i := 1) sc_part_valencies.nd rfl (pv_ix (pv_name (i := 0) rfl (by first | exact Or.inl rfl | exact Or.inr (Or.inl rfl) | exact Or.inr (Or.inr rfl))) q_int))
  (qs_cons (q_if (pb_cmp (od_eq (hu64 hr)) (by rfl) (pv_name (i := 1) rfl (by first | exact Or.inl rfl | exact Or.inr (Or.inl rfl) | exact Or.inr (Or.inr rfl))) q_str) (qs_cons (q_set (i := 3) sc_part_valencies.nd rfl (q_call IH (hr.mono (by omega)) (by rfl) T.g_part_valencies T.F_part_valencies.kp T.b_part_valencies (passes_call (takes_of rfl rfl rfl rfl) fun _ _ _ _ h => h) (pas_cons (pv_ix (pv_name (i := 0) rfl (by first | exact Or.inl rfl | exact Or.inr (Or.inl rfl) | exact Or.inr (Or.inr rfl))) q_int) qa_nil)))
  (pxs_one (q_ret (pv_callTy cd_tuple (by rfl) T.n_tuple (by decide +kernel) (pas_cons (pv_of (pn_lc2 (own := [("one", 8), ("other", 9)]) (vs1 := [9]) rfl sc_part_valencies.nd (pit_seq (q_call IH (hr.mono (by omega)) (by rfl) T.g_part_valencies T.F_part_valencies.kp T.b_part_valencies (passes_call (takes_of rfl rfl rfl rfl) fun _ _ _ _ h => h) (pas_cons (pv_ix (pv_name (i := 0) rfl (by first | exact Or.inl rfl | exact Or.inr (Or.inl rfl) | exact Or.inr (Or.inr rfl))) q_int) qa_nil))) (blkOk_by (by rfl)) (by decide) (fun _ _ _ _ _ => (ptg_name (i := 8) sc_part_valencies.nd rfl (by first | exact Or.inl rfl | exact Or.inr rfl) (by first | exact Or.inl rfl | exact Or.inr rfl))) (fun _ _ _ _ _ => qf_nil) (fun _ _ _ _ _ => (pit_seq (pv_name (i := 3) rfl (by first | exact Or.inl rfl | exact Or.inr (Or.inl rfl) | exact Or.inr (Or.inr rfl))))) (fun _ _ _ _ _ => (ptg_name (i := 9) sc_part_valencies.nd rfl (by first | exact Or.inl rfl | exact Or.inr rfl) (by first | exact Or.inl rfl | exact Or.inr rfl))) (fun _ _ _ _ _ => qf_nil) (fun _ _ _ _ _ => (pv_op od_mul (pv_name (i := 8) rfl (by first | exact Or.inl rfl | exact Or.inr (Or.inl rfl) | exact Or.inr (Or.inr rfl))) (pv_name (i := 9) rfl (by first | exact Or.inl rfl | exact Or.inr (Or.inl rfl) | exact Or.inr (Or.inr rfl))))) (by decide) (by decide))) qa_nil))))) pxs_nil)
  (qs_cons (q_set (i := 2) sc_part_valencies.nd rfl (pv_callTy cd_range1 (by rfl) T.n_range (by decide +kernel) (pas_cons (q_call (ok_kinds_of T 20) (hr.mono (by omega)) (by rfl) T.g_kinds_of T.F_kinds_of.kp T.b_kinds_of (passes_call (takes_of rfl rfl rfl rfl) fun _ _ _ _ h => h) (pas_cons (pv_name (i := 0) rfl (by first | exact Or.inl rfl | exact Or.inr (Or.inl rfl) | exact Or.inr (Or.inr rfl))) qa_nil)) qa_nil)))
  (qs_cons (q_if (pb_cmp (od_eq (hu64 hr)) (by rfl) (pv_name (i := 1) rfl (by first | exact Or.inl rfl | exact Or.inr (Or.inl rfl) | exact Or.inr (Or.inr rfl))) q_str) (qs_cons (q_asg (pv_sl (pv_name (i := 0) rfl (by first | exact Or.inl rfl | exact Or.inr (Or.inl rfl) | exact Or.inr (Or.inr rfl))) (pq_yes q_int) qq_no) (ptg_tup rfl (ptgs_cons (ptg_name (i := 4) sc_part_valencies.nd rfl (by first | exact Or.inl rfl | exact Or.inr rfl) (by first | exact Or.inl rfl | exact Or.inr rfl)) (ptgs_cons (ptg_name (i := 5) sc_part_valencies.nd rfl (by first | exact Or.inl rfl | exact Or.inr rfl) (by first | exact Or.inl rfl | exact Or.inr rfl)) ptgs_nil))))
  (pxs_one (q_ret (pv_callTy cd_tuple (by rfl) T.n_tuple (by decide +kernel) (pas_cons (pv_of (pn_lc (own := [("i", 7)]) rfl sc_part_valencies.nd (qi_rngV (pv_name (i := 2) rfl (by first | exact Or.inl rfl | exact Or.inr (Or.inl rfl) | exact Or.inr (Or.inr rfl)))) (blkOk_by (by rfl)) (fun _ _ _ _ _ => (ptg_name (i := 7) sc_part_valencies.nd rfl (by first | exact Or.inl rfl | exact Or.inr rfl) (by first | exact Or.inl rfl | exact Or.inr rfl))) (fun _ _ _ _ _ => qf_nil) (fun _ _ _ _ _ => (pv_op od_mul (q_call (ok_choose T) (hr.mono (by omega)) (by rfl) T.g_choose T.F_choose.kp T.b_choose passL (pas_cons (pv_name (i := 4) rfl (by first | exact Or.inl rfl | exact Or.inr (Or.inl rfl) | exact Or.inr (Or.inr rfl))) (pas_cons (pv_name (i := 7) rfl (by first | exact Or.inl rfl | exact Or.inr (Or.inl rfl) | exact Or.inr (Or.inr rfl))) qa_nil))) (q_call (ok_power T) (hr.mono (by omega)) (by rfl) T.g_power T.F_power.kp T.b_power passL (pas_cons (pv_op od_sub (pv_name (i := 5) rfl (by first | exact Or.inl rfl | exact Or.inr (Or.inl rfl) | exact Or.inr (Or.inr rfl))) q_int) (pas_cons (pv_name (i := 7) rfl (by first | exact Or.inl rfl | exact Or.inr (Or.inl rfl) | exact Or.inr (Or.inr rfl))) qa_nil))))) (by decide))) qa_nil))))) pxs_nil)
  (qs_cons (q_if (pb_cmp (od_eq (hu64 hr)) (by rfl) (pv_name (i := 1) rfl (by first | exact Or.inl rfl | exact Or.inr (Or.inl rfl) | exact Or.inr (Or.inr rfl))) q_str) (qs_cons (q_asg (pv_sl (pv_name (i := 0) rfl (by first | exact Or.inl rfl | exact Or.inr (Or.inl rfl) | exact Or.inr (Or.inr rfl))) (pq_yes q_int) qq_no) (ptg_tup rfl (ptgs_cons (ptg_name (i := 4) sc_part_valencies.nd rfl (by first | exact Or.inl rfl | exact Or.inr rfl) (by first | exact Or.inl rfl | exact Or.inr rfl)) (ptgs_cons (ptg_name (i := 6) sc_part_valencies.nd rfl (by first | exact Or.inl rfl | exact Or.inr rfl) (by first | exact Or.inl rfl | exact Or.inr rfl)) ptgs_nil))))
  (pxs_one (q_ret (pv_callTy cd_tuple (by rfl) T.n_tuple (by decide +kernel) (pas_cons (pv_of (pn_lc (own := [("i", 7)]) rfl sc_part_valencies.nd (qi_rngV (pv_name (i := 2) rfl (by first | exact Or.inl rfl | exact Or.inr (Or.inl rfl) | exact Or.inr (Or.inr rfl)))) (blkOk_by (by rfl)) (fun _ _ _ _ _ => (ptg_name (i := 7) sc_part_valencies.nd rfl (by first | exact Or.inl rfl | exact Or.inr rfl) (by first | exact Or.inl rfl | exact Or.inr rfl))) (fun _ _ _ _ _ => qf_nil) (fun _ _ _ _ _ => (pv_op od_mul (q_call (ok_choose T) (hr.mono (by omega)) (by rfl) T.g_choose T.F_choose.kp T.b_choose passL (pas_cons (pv_name (i := 6) rfl (by first | exact Or.inl rfl | exact Or.inr (Or.inl rfl) | exact Or.inr (Or.inr rfl))) (pas_cons (pv_name (i := 7) rfl (by first | exact Or.inl rfl | exact Or.inr (Or.inl rfl) | exact Or.inr (Or.inr rfl))) qa_nil))) (q_call (ok_choose T) (hr.mono (by omega)) (by rfl) T.g_choose T.F_choose.kp T.b_choose passL (pas_cons (pv_op od_sub (pv_name (i := 4) rfl (by first | exact Or.inl rfl | exact Or.inr (Or.inl rfl) | exact Or.inr (Or.inr rfl))) (pv_name (i := 6) rfl (by first | exact Or.inl rfl | exact Or.inr (Or.inl rfl) | exact Or.inr (Or.inr rfl)))) (pas_cons (pv_name (i := 7) rfl (by first | exact Or.inl rfl | exact Or.inr (Or.inl rfl) | exact Or.inr (Or.inr rfl))) qa_nil))))) (by decide))) qa_nil))))) pxs_nil)
  (pxs_one (q_ret (pv_callTy cd_tuple (by rfl) T.n_tuple (by decide +kernel) (pas_cons (pv_of (pn_lc (own := [("i", 7)]) rfl sc_part_valencies.nd (qi_rngV (pv_name (i := 2) rfl (by first | exact Or.inl rfl | exact Or.inr (Or.inl rfl) | exact Or.inr (Or.inr rfl)))) (blkOk_by (by rfl)) (fun _ _ _ _ _ => (ptg_name (i := 7) sc_part_valencies.nd rfl (by first | exact Or.inl rfl | exact Or.inr rfl) (by first | exact Or.inl rfl | exact Or.inr rfl))) (fun _ _ _ _ _ => qf_nil) (fun _ _ _ _ _ => (q_cnt (pv_ix (pv_ix (pv_name (i := 0) rfl (by first | exact Or.inl rfl | exact Or.inr (Or.inl rfl) | exact Or.inr (Or.inr rfl))) q_int) q_int) (pv_name (i := 7) rfl (by first | exact Or.inl rfl | exact Or.inr (Or.inl rfl) | exact Or.inr (Or.inr rfl))))) (by decide))) qa_nil)))))))))
theorem ok_word_ways (T : Tx K mg base A) : FnOk P w K mg base (CX P w) 2 A.f_word_ways A.fd_word_ways ["many", "base", "i", "j", "k"] (spP K (tabs A) (xcs A) 5 F_word_ways) :=
  fn_pureC (k := 1) T.F_word_ways sc_word_ways (fun _ _ => rfl) fun Ar outer s H B E hr =>
    (qs_cons (q_set (i := 5) sc_word_ways.nd rfl q_int)
  (qs_cons (q_for (passes_of rfl) rfl (qi_range1 (by rfl) T.n_range (pas_cons (pv_op od_addU (pv_op od_sub (pv_name (i := 0) rfl (by first | exact Or.inl rfl | exact Or.inr (Or.inl rfl) | exact Or.inr (Or.inr rfl))) (pv_name (i := 4) rfl (by first | exact Or.inl rfl | exact Or.inr (Or.inl rfl) | exact Or.inr (Or.inr rfl)))) q_int) qa_nil)) (ptg_name (i := 6) sc_word_ways.nd rfl (by first | exact Or.inl rfl | exact Or.inr rfl) (by first | exact Or.inl rfl | exact Or.inr rfl)) (qs_cons (q_set (i := 7) sc_word_ways.nd rfl (pv_op od_addU (pv_op od_sub (pv_name (i := 4) rfl (by first | exact Or.inl rfl | exact Or.inr (Or.inl rfl) | exact Or.inr (Or.inr rfl))) (pv_name (i := 3) rfl (by first | exact Or.inl rfl | exact Or.inr (Or.inl rfl) | exact Or.inr (Or.inr rfl)))) (pv_name (i := 6) rfl (by first | exact Or.inl rfl | exact Or.inr (Or.inl rfl) | exact Or.inr (Or.inr rfl)))))
  (qs_cons (q_set (i := 8) sc_word_ways.nd rfl (pv_op od_addU (pv_op od_sub (pv_name (i := 4) rfl (by first | exact Or.inl rfl | exact Or.inr (Or.inl rfl) | exact Or.inr (Or.inr rfl))) (pv_name (i := 2) rfl (by first | exact Or.inl rfl | exact Or.inr (Or.inl rfl) | exact Or.inr (Or.inr rfl)))) (pv_name (i := 6) rfl (by first | exact Or.inl rfl | exact Or.inr (Or.inl rfl) | exact Or.inr (Or.inr rfl)))))
  (qs_cons (q_set (i := 9) sc_word_ways.nd rfl (pv_op od_sub (pv_op od_sub (pv_name (i := 4) rfl (by first | exact Or.inl rfl | exact Or.inr (Or.inl rfl) | exact Or.inr (Or.inr rfl))) (pv_name (i := 7) rfl (by first | exact Or.inl rfl | exact Or.inr (Or.inl rfl) | exact Or.inr (Or.inr rfl)))) (pv_name (i := 8) rfl (by first | exact Or.inl rfl | exact Or.inr (Or.inl rfl) | exact Or.inr (Or.inr rfl)))))
  (pxs_one (q_if (pb_bo (pw_a (pb_cmp od_ge (by rfl) (pv_name (i := 7) rfl (by first | exact Or.inl rfl | exact Or.inr (Or.inl rfl) | exact Or.inr (Or.inr rfl))) q_int) (pw_a (pb_cmp od_ge (by rfl) (pv_name (i := 8) rfl (by first | exact Or.inl rfl | exact Or.inr (Or.inl rfl) | exact Or.inr (Or.inr rfl))) q_int) (pw_a1 (pb_cmp od_ge (by rfl) (pv_name (i := 9) rfl (by first | exact Or.inl rfl | exact Or.inr (Or.inl rfl) | exact Or.inr (Or.inr rfl))) q_int))))) (qs_cons (q_set (i := 10) sc_word_ways.nd rfl (pv_op od_mul (q_call (ok_choose T) (hr.mono (by omega)) (by rfl) T.g_choose T.F_choose.kp T.b_choose (passes_call (takes_of rfl rfl rfl rfl) fun _ _ _ _ h => h) (pas_cons (pv_op od_sub (pv_name (i := 0) rfl (by first | exact Or.inl rfl | exact Or.inr (Or.inl rfl) | exact Or.inr (Or.inr rfl))) (pv_name (i := 4) rfl (by first | exact Or.inl rfl | exact Or.inr (Or.inl rfl) | exact Or.inr (Or.inr rfl)))) (pas_cons (pv_name (i := 6) rfl (by first | exact Or.inl rfl | exact Or.inr (Or.inl rfl) | exact Or.inr (Or.inr rfl))) qa_nil))) (q_call (ok_power T) (hr.mono (by omega)) (by rfl) T.g_power T.F_power.kp T.b_power (passes_call (takes_of rfl rfl rfl rfl) fun _ _ _ _ h => h) (pas_cons (pv_op od_sub (pv_name (i := 1) rfl (by first | exact Or.inl rfl | exact Or.inr (Or.inl rfl) | exact Or.inr (Or.inr rfl))) q_int) (pas_cons (pv_name (i := 6) rfl (by first | exact Or.inl rfl | exact Or.inr (Or.inl rfl) | exact Or.inr (Or.inr rfl))) qa_nil)))))
  (pxs_one (px_aug (i := 5) sc_word_ways.nd rfl (by first | exact Or.inl rfl | exact Or.inr rfl) (pv_op od_mul (pv_op od_mul (pv_op od_mul (pv_name (i := 10) rfl (by first | exact Or.inl rfl | exact Or.inr (Or.inl rfl) | exact Or.inr (Or.inr rfl))) (q_call (ok_choose T) (hr.mono (by omega)) (by rfl) T.g_choose T.F_choose.kp T.b_choose (passes_call (takes_of rfl rfl rfl rfl) fun _ _ _ _ h => h) (pas_cons (pv_name (i := 4) rfl (by first | exact Or.inl rfl | exact Or.inr (Or.inl rfl) | exact Or.inr (Or.inr rfl))) (pas_cons (pv_name (i := 7) rfl (by first | exact Or.inl rfl | exact Or.inr (Or.inl rfl) | exact Or.inr (Or.inr rfl))) qa_nil)))) (q_call (ok_choose T) (hr.mono (by omega)) (by rfl) T.g_choose T.F_choose.kp T.b_choose (passes_call (takes_of rfl rfl rfl rfl) fun _ _ _ _ h => h) (pas_cons (pv_op od_sub (pv_name (i := 4) rfl (by first | exact Or.inl rfl | exact Or.inr (Or.inl rfl) | exact Or.inr (Or.inr rfl))) (pv_name (i := 7) rfl (by first | exact Or.inl rfl | exact Or.inr (Or.inl rfl) | exact Or.inr (Or.inr rfl)))) (pas_cons (pv_name (i := 8) rfl (by first | exact Or.inl rfl | exact Or.inr (Or.inl rfl) | exact Or.inr (Or.inr rfl))) qa_nil)))) (q_call (ok_power T) (hr.mono (by omega)) (by rfl) T.g_power T.F_power.kp T.b_power (passes_call (takes_of rfl rfl rfl rfl) fun _ _ _ _ h => h) (pas_cons (pv_op od_sub (pv_name (i := 1) rfl (by first | exact Or.inl rfl | exact Or.inr (Or.inl rfl) | exact Or.inr (Or.inr rfl))) q_int) (pas_cons (pv_name (i := 9) rfl (by first | exact Or.inl rfl | exact Or.inr (Or.inl rfl) | exact Or.inr (Or.inr rfl))) qa_nil)))) id_add))) pxs_nil))))))
  (pxs_one (q_ret (pv_name (i := 5) rfl (by first | exact Or.inl rfl | exact Or.inr (Or.inl rfl) | exact Or.inr (Or.inr rfl)))))))
theorem ok_set_ways (T : Tx K mg base A) : FnOk P w K mg base (CX P w) 2 A.f_set_ways A.fd_set_ways ["many", "size", "i", "j", "k"] (spP K (tabs A) (xcs A) 5 F_set_ways) :=
  fn_pureC (k := 1) T.F_set_ways sc_set_ways (fun _ _ => rfl) fun Ar outer s H B E hr =>
    (qs_cons (q_set (i := 5) sc_set_ways.nd rfl q_int)
  (qs_cons (q_for (passes_of rfl) rfl (qi_range1 (by rfl) T.n_range (pas_cons (pv_op od_addU (pv_op od_sub (pv_name (i := 1) rfl (by first | exact Or.inl rfl | exact Or.inr (Or.inl rfl) | exact Or.inr (Or.inr rfl))) (pv_name (i := 4) rfl (by first | exact Or.inl rfl | exact Or.inr (Or.inl rfl) | exact Or.inr (Or.inr rfl)))) q_int) qa_nil)) (ptg_name (i := 6) sc_set_ways.nd rfl (by first | exact Or.inl rfl | exact Or.inr rfl) (by first | exact Or.inl rfl | exact Or.inr rfl)) (qs_cons (q_set (i := 7) sc_set_ways.nd rfl (pv_op od_mul (pv_op od_mul (q_call (ok_choose T) (hr.mono (by omega)) (by rfl) T.g_choose T.F_choose.kp T.b_choose (passes_call (takes_of rfl rfl rfl rfl) fun _ _ _ _ h => h) (pas_cons (pv_op od_sub (pv_name (i := 1) rfl (by first | exact Or.inl rfl | exact Or.inr (Or.inl rfl) | exact Or.inr (Or.inr rfl))) (pv_name (i := 4) rfl (by first | exact Or.inl rfl | exact Or.inr (Or.inl rfl) | exact Or.inr (Or.inr rfl)))) (pas_cons (pv_name (i := 6) rfl (by first | exact Or.inl rfl | exact Or.inr (Or.inl rfl) | exact Or.inr (Or.inr rfl))) qa_nil))) (q_call (ok_choose T) (hr.mono (by omega)) (by rfl) T.g_choose T.F_choose.kp T.b_choose (passes_call (takes_of rfl rfl rfl rfl) fun _ _ _ _ h => h) (pas_cons (pv_name (i := 4) rfl (by first | exact Or.inl rfl | exact Or.inr (Or.inl rfl) | exact Or.inr (Or.inr rfl))) (pas_cons (pv_op od_sub (pv_op od_sub (pv_name (i := 1) rfl (by first | exact Or.inl rfl | exact Or.inr (Or.inl rfl) | exact Or.inr (Or.inr rfl))) (pv_name (i := 2) rfl (by first | exact Or.inl rfl | exact Or.inr (Or.inl rfl) | exact Or.inr (Or.inr rfl)))) (pv_name (i := 6) rfl (by first | exact Or.inl rfl | exact Or.inr (Or.inl rfl) | exact Or.inr (Or.inr rfl)))) qa_nil)))) (q_call (ok_choose T) (hr.mono (by omega)) (by rfl) T.g_choose T.F_choose.kp T.b_choose (passes_call (takes_of rfl rfl rfl rfl) fun _ _ _ _ h => h) (pas_cons (pv_name (i := 4) rfl (by first | exact Or.inl rfl | exact Or.inr (Or.inl rfl) | exact Or.inr (Or.inr rfl))) (pas_cons (pv_op od_sub (pv_op od_sub (pv_name (i := 1) rfl (by first | exact Or.inl rfl | exact Or.inr (Or.inl rfl) | exact Or.inr (Or.inr rfl))) (pv_name (i := 3) rfl (by first | exact Or.inl rfl | exact Or.inr (Or.inl rfl) | exact Or.inr (Or.inr rfl)))) (pv_name (i := 6) rfl (by first | exact Or.inl rfl | exact Or.inr (Or.inl rfl) | exact Or.inr (Or.inr rfl)))) qa_nil)))))
  (pxs_one (px_aug (i := 5) sc_set_ways.nd rfl (by first | exact Or.inl rfl | exact Or.inr rfl) (pv_op od_mul (pv_name (i := 7) rfl (by first | exact Or.inl rfl | exact Or.inr (Or.inl rfl) | exact Or.inr (Or.inr rfl))) (q_call (ok_choose T) (hr.mono (by omega)) (by rfl) T.g_choose T.F_choose.kp T.b_choose (passes_call (takes_of rfl rfl rfl rfl) fun _ _ _ _ h => h) (pas_cons (pv_op od_sub (pv_op od_sub (pv_name (i := 0) rfl (by first | exact Or.inl rfl | exact Or.inr (Or.inl rfl) | exact Or.inr (Or.inr rfl))) (pv_name (i := 1) rfl (by first | exact Or.inl rfl | exact Or.inr (Or.inl rfl) | exact Or.inr (Or.inr rfl)))) (pv_name (i := 4) rfl (by first | exact Or.inl rfl | exact Or.inr (Or.inl rfl) | exact Or.inr (Or.inr rfl)))) (pas_cons (pv_op od_sub (pv_op od_addU (pv_op od_addU (pv_name (i := 2) rfl (by first | exact Or.inl rfl | exact Or.inr (Or.inl rfl) | exact Or.inr (Or.inr rfl))) (pv_name (i := 3) rfl (by first | exact Or.inl rfl | exact Or.inr (Or.inl rfl) | exact Or.inr (Or.inr rfl)))) (pv_name (i := 6) rfl (by first | exact Or.inl rfl | exact Or.inr (Or.inl rfl) | exact Or.inr (Or.inr rfl)))) (pv_name (i := 1) rfl (by first | exact Or.inl rfl | exact Or.inr (Or.inl rfl) | exact Or.inr (Or.inr rfl)))) qa_nil)))) id_add))))
  (pxs_one (q_ret (pv_name (i := 5) rfl (by first | exact Or.inl rfl | exact Or.inr (Or.inl rfl) | exact Or.inr (Or.inr rfl)))))))
theorem ok_listed_ways (T : Tx K mg base A) : FnOk P w K mg base (CX P w) 2 A.f_listed_ways A.fd_listed_ways ["rows", "i", "j", "k"] (spP K (tabs A) (xcs A) 4 F_listed_ways) :=
  fn_pureC (k := 1) T.F_listed_ways sc_listed_ways (fun _ _ => rfl) fun Ar outer s H B E hr =>
    (qs_cons (q_set (i := 4) sc_listed_ways.nd rfl (q_call (ok_way_counts T) (hr.mono (by omega)) (by rfl) T.g_way_counts T.F_way_counts.kp T.b_way_counts (passes_call (takes_of rfl rfl rfl rfl) fun _ _ _ _ h => h) (pas_cons (pv_ix (pv_name (i := 0) rfl (by first | exact Or.inl rfl | exact Or.inr (Or.inl rfl) | exact Or.inr (Or.inr rfl))) q_int) (pas_cons (pv_ix (pv_name (i := 0) rfl (by first | exact Or.inl rfl | exact Or.inr (Or.inl rfl) | exact Or.inr (Or.inr rfl))) (q_idxI (pv_ix (pv_name (i := 0) rfl (by first | exact Or.inl rfl | exact Or.inr (Or.inl rfl) | exact Or.inr (Or.inr rfl))) q_int) (pv_name (i := 3) rfl (by first | exact Or.inl rfl | exact Or.inr (Or.inl rfl) | exact Or.inr (Or.inr rfl))))) qa_nil))))
  (pxs_one (q_ret (pv_ix (pv_name (i := 4) rfl (by first | exact Or.inl rfl | exact Or.inr (Or.inl rfl) | exact Or.inr (Or.inr rfl))) (pv_op od_addU (pv_op od_mul (pv_name (i := 1) rfl (by first | exact Or.inl rfl | exact Or.inr (Or.inl rfl) | exact Or.inr (Or.inr rfl))) (q_gi (by rfl) T.k_MOST_LISTED_KINDS)) (pv_name (i := 2) rfl (by first | exact Or.inl rfl | exact Or.inr (Or.inl rfl) | exact Or.inr (Or.inr rfl))))))))
theorem ok_part_ways (T : Tx K mg base A) : ∀ m, FnOk P w K mg base (CX P w) (21 + m) A.f_part_ways A.fd_part_ways ["tree", "i", "j", "k"] (spP K (tabs A) (xcs A) 4 (F_part_ways m))
  | 0 => fn_bad
  | m + 1 => fn_pureC (k := 21 + m) T.F_part_ways sc_part_ways (fun _ _ => rfl) fun Ar outer s H B E hr =>
    have IH := ok_part_ways T m
    (qs_cons (q_set (i := 4) sc_part_ways.nd rfl (pv_ix (pv_name (i := 0) rfl (by first | exact Or.inl rfl | exact Or.inr (Or.inl rfl) | exact Or.inr (Or.inr rfl))) q_int))
  (qs_cons (q_if (pb_cmp (od_eq (hu64 hr)) (by rfl) (pv_name (i := 4) rfl (by first | exact Or.inl rfl | exact Or.inr (Or.inl rfl) | exact Or.inr (Or.inr rfl))) q_str) (pxs_one (q_ret (q_call (ok_word_ways T) (hr.mono (by omega)) (by rfl) T.g_word_ways T.F_word_ways.kp T.b_word_ways (passes_call (takes_of rfl rfl rfl rfl) fun _ _ _ _ h => h) (pas_cons (pv_ix (pv_name (i := 0) rfl (by first | exact Or.inl rfl | exact Or.inr (Or.inl rfl) | exact Or.inr (Or.inr rfl))) q_int) (pas_cons (pv_ix (pv_name (i := 0) rfl (by first | exact Or.inl rfl | exact Or.inr (Or.inl rfl) | exact Or.inr (Or.inr rfl))) q_int) (pas_cons (pv_name (i := 1) rfl (by first | exact Or.inl rfl | exact Or.inr (Or.inl rfl) | exact Or.inr (Or.inr rfl))) (pas_cons (pv_name (i := 2) rfl (by first | exact Or.inl rfl | exact Or.inr (Or.inl rfl) | exact Or.inr (Or.inr rfl))) (pas_cons (pv_name (i := 3) rfl (by first | exact Or.inl rfl | exact Or.inr (Or.inl rfl) | exact Or.inr (Or.inr rfl))) qa_nil)))))))) pxs_nil)
  (qs_cons (q_if (pb_cmp (od_eq (hu64 hr)) (by rfl) (pv_name (i := 4) rfl (by first | exact Or.inl rfl | exact Or.inr (Or.inl rfl) | exact Or.inr (Or.inr rfl))) q_str) (pxs_one (q_ret (q_call (ok_set_ways T) (hr.mono (by omega)) (by rfl) T.g_set_ways T.F_set_ways.kp T.b_set_ways (passes_call (takes_of rfl rfl rfl rfl) fun _ _ _ _ h => h) (pas_cons (pv_ix (pv_name (i := 0) rfl (by first | exact Or.inl rfl | exact Or.inr (Or.inl rfl) | exact Or.inr (Or.inr rfl))) q_int) (pas_cons (pv_ix (pv_name (i := 0) rfl (by first | exact Or.inl rfl | exact Or.inr (Or.inl rfl) | exact Or.inr (Or.inr rfl))) q_int) (pas_cons (pv_name (i := 1) rfl (by first | exact Or.inl rfl | exact Or.inr (Or.inl rfl) | exact Or.inr (Or.inr rfl))) (pas_cons (pv_name (i := 2) rfl (by first | exact Or.inl rfl | exact Or.inr (Or.inl rfl) | exact Or.inr (Or.inr rfl))) (pas_cons (pv_name (i := 3) rfl (by first | exact Or.inl rfl | exact Or.inr (Or.inl rfl) | exact Or.inr (Or.inr rfl))) qa_nil)))))))) pxs_nil)
  (qs_cons (q_if (pb_cmp (od_eq (hu64 hr)) (by rfl) (pv_name (i := 4) rfl (by first | exact Or.inl rfl | exact Or.inr (Or.inl rfl) | exact Or.inr (Or.inr rfl))) q_str) (pxs_one (q_ret (q_call (ok_listed_ways T) (hr.mono (by omega)) (by rfl) T.g_listed_ways T.F_listed_ways.kp T.b_listed_ways (passes_call (takes_of rfl rfl rfl rfl) fun _ _ _ _ h => h) (pas_cons (pv_ix (pv_name (i := 0) rfl (by first | exact Or.inl rfl | exact Or.inr (Or.inl rfl) | exact Or.inr (Or.inr rfl))) q_int) (pas_cons (pv_name (i := 1) rfl (by first | exact Or.inl rfl | exact Or.inr (Or.inl rfl) | exact Or.inr (Or.inr rfl))) (pas_cons (pv_name (i := 2) rfl (by first | exact Or.inl rfl | exact Or.inr (Or.inl rfl) | exact Or.inr (Or.inr rfl))) (pas_cons (pv_name (i := 3) rfl (by first | exact Or.inl rfl | exact Or.inr (Or.inl rfl) | exact Or.inr (Or.inr rfl))) qa_nil))))))) pxs_nil)
  (qs_cons (q_set (i := 5) sc_part_ways.nd rfl (q_call (ok_kinds_of T 20) (hr.mono (by omega)) (by rfl) T.g_kinds_of T.F_kinds_of.kp T.b_kinds_of (passes_call (takes_of rfl rfl rfl rfl) fun _ _ _ _ h => h) (pas_cons (pv_ix (pv_name (i := 0) rfl (by first | exact Or.inl rfl | exact Or.inr (Or.inl rfl) | exact Or.inr (Or.inr rfl))) q_int) qa_nil)))
  (qs_cons (q_set (i := 6) sc_part_ways.nd rfl (q_call IH (hr.mono (by omega)) (by rfl) T.g_part_ways T.F_part_ways.kp T.b_part_ways (passes_call (takes_of rfl rfl rfl rfl) fun _ _ _ _ h => h) (pas_cons (pv_ix (pv_name (i := 0) rfl (by first | exact Or.inl rfl | exact Or.inr (Or.inl rfl) | exact Or.inr (Or.inr rfl))) q_int) (pas_cons (pv_op od_fdv (pv_name (i := 1) rfl (by first | exact Or.inl rfl | exact Or.inr (Or.inl rfl) | exact Or.inr (Or.inr rfl))) (pv_name (i := 5) rfl (by first | exact Or.inl rfl | exact Or.inr (Or.inl rfl) | exact Or.inr (Or.inr rfl)))) (pas_cons (pv_op od_fdv (pv_name (i := 2) rfl (by first | exact Or.inl rfl | exact Or.inr (Or.inl rfl) | exact Or.inr (Or.inr rfl))) (pv_name (i := 5) rfl (by first | exact Or.inl rfl | exact Or.inr (Or.inl rfl) | exact Or.inr (Or.inr rfl)))) (pas_cons (pv_op od_fdv (pv_name (i := 3) rfl (by first | exact Or.inl rfl | exact Or.inr (Or.inl rfl) | exact Or.inr (Or.inr rfl))) (pv_name (i := 5) rfl (by first | exact Or.inl rfl | exact Or.inr (Or.inl rfl) | exact Or.inr (Or.inr rfl)))) qa_nil))))))
  (pxs_one (q_ret (pv_op od_mul (pv_name (i := 6) rfl (by first | exact Or.inl rfl | exact Or.inr (Or.inl rfl) | exact Or.inr (Or.inr rfl))) (q_call IH (hr.mono (by omega)) (by rfl) T.g_part_ways T.F_part_ways.kp T.b_part_ways (passes_call (takes_of rfl rfl rfl rfl) fun _ _ _ _ h => h) (pas_cons (pv_ix (pv_name (i := 0) rfl (by first | exact Or.inl rfl | exact Or.inr (Or.inl rfl) | exact Or.inr (Or.inr rfl))) q_int) (pas_cons (pv_op od_mod (pv_name (i := 1) rfl (by first | exact Or.inl rfl | exact Or.inr (Or.inl rfl) | exact Or.inr (Or.inr rfl))) (pv_name (i := 5) rfl (by first | exact Or.inl rfl | exact Or.inr (Or.inl rfl) | exact Or.inr (Or.inr rfl)))) (pas_cons (pv_op od_mod (pv_name (i := 2) rfl (by first | exact Or.inl rfl | exact Or.inr (Or.inl rfl) | exact Or.inr (Or.inr rfl))) (pv_name (i := 5) rfl (by first | exact Or.inl rfl | exact Or.inr (Or.inl rfl) | exact Or.inr (Or.inr rfl)))) (pas_cons (pv_op od_mod (pv_name (i := 3) rfl (by first | exact Or.inl rfl | exact Or.inr (Or.inl rfl) | exact Or.inr (Or.inr rfl))) (pv_name (i := 5) rfl (by first | exact Or.inl rfl | exact Or.inr (Or.inl rfl) | exact Or.inr (Or.inr rfl)))) qa_nil))))))))))))))
theorem ok_part_numbers (T : Tx K mg base A) : ∀ m, FnOk P w K mg base (CX P w) (41 + m) A.f_part_numbers A.fd_part_numbers ["tree", "k"] (spP K (tabs A) (xcs A) 2 (F_part_numbers m))
  | 0 => fn_bad
  | m + 1 => fn_pureC (k := 41 + m) T.F_part_numbers sc_part_numbers (fun _ _ => rfl) fun Ar outer s H B E hr =>
    have IH := ok_part_numbers T m
    (qs_cons (q_set (i := 2) sc_part_numbers.nd rfl (q_call (ok_kinds_of T 20) (hr.mono (by omega)) (by rfl) T.g_kinds_of T.F_kinds_of.kp T.b_kinds_of (passes_call (takes_of rfl rfl rfl rfl) fun _ _ _ _ h => h) (pas_cons (pv_name (i := 0) rfl (by first | exact Or.inl rfl | exact Or.inr (Or.inl rfl) | exact Or.inr (Or.inr rfl))) qa_nil)))
  (qs_cons (q_if (pb_cmp (od_ne (hu64 hr)) (by rfl) (pv_ix (pv_name (i := 0) rfl (by first | exact Or.inl rfl | exact Or.inr (Or.inl rfl) | exact Or.inr (Or.inr rfl))) q_int) q_str) (pxs_one (q_ret (pv_callTy cd_tuple (by rfl) T.n_tuple (by decide +kernel) (pas_cons (pv_of (pn_lc (own := [("i", 7)]) rfl sc_part_numbers.nd (qi_range1 (by rfl) T.n_range (pas_cons (pv_name (i := 2) rfl (by first | exact Or.inl rfl | exact Or.inr (Or.inl rfl) | exact Or.inr (Or.inr rfl))) qa_nil)) (blkOk_by (by rfl)) (fun _ _ _ _ _ => (ptg_name (i := 7) sc_part_numbers.nd rfl (by first | exact Or.inl rfl | exact Or.inr rfl) (by first | exact Or.inl rfl | exact Or.inr rfl))) (fun _ _ _ _ _ => qf_nil) (fun _ _ _ _ _ => (pv_callTy cd_tuple (by rfl) T.n_tuple (by decide +kernel) (pas_cons (pv_of (pn_lc (own := [("j", 10)]) rfl sc_part_numbers.nd (qi_range1 (by rfl) T.n_range (pas_cons (pv_name (i := 2) rfl (by first | exact Or.inl rfl | exact Or.inr (Or.inl rfl) | exact Or.inr (Or.inr rfl))) qa_nil)) (blkOk_by (by rfl)) (fun _ _ _ _ _ => (ptg_name (i := 10) sc_part_numbers.nd rfl (by first | exact Or.inl rfl | exact Or.inr rfl) (by first | exact Or.inl rfl | exact Or.inr rfl))) (fun _ _ _ _ _ => qf_nil) (fun _ _ _ _ _ => (q_call (ok_part_ways T 20) (hr.mono (by omega)) (by rfl) T.g_part_ways T.F_part_ways.kp T.b_part_ways passL (pas_cons (pv_name (i := 0) rfl (by first | exact Or.inl rfl | exact Or.inr (Or.inl rfl) | exact Or.inr (Or.inr rfl))) (pas_cons (pv_name (i := 7) rfl (by first | exact Or.inl rfl | exact Or.inr (Or.inl rfl) | exact Or.inr (Or.inr rfl))) (pas_cons (pv_name (i := 10) rfl (by first | exact Or.inl rfl | exact Or.inr (Or.inl rfl) | exact Or.inr (Or.inr rfl))) (pas_cons (pv_name (i := 1) rfl (by first | exact Or.inl rfl | exact Or.inr (Or.inl rfl) | exact Or.inr (Or.inr rfl))) qa_nil)))))) (by decide))) qa_nil))) (by decide))) qa_nil)))) pxs_nil)
  (qs_cons (q_set (i := 3) sc_part_numbers.nd rfl (q_call (ok_kinds_of T 20) (hr.mono (by omega)) (by rfl) T.g_kinds_of T.F_kinds_of.kp T.b_kinds_of (passes_call (takes_of rfl rfl rfl rfl) fun _ _ _ _ h => h) (pas_cons (pv_ix (pv_name (i := 0) rfl (by first | exact Or.inl rfl | exact Or.inr (Or.inl rfl) | exact Or.inr (Or.inr rfl))) q_int) qa_nil)))
  (qs_cons (q_set (i := 4) sc_part_numbers.nd rfl (q_call IH (hr.mono (by omega)) (by rfl) T.g_part_numbers T.F_part_numbers.kp T.b_part_numbers (passes_call (takes_of rfl rfl rfl rfl) fun _ _ _ _ h => h) (pas_cons (pv_ix (pv_name (i := 0) rfl (by first | exact Or.inl rfl | exact Or.inr (Or.inl rfl) | exact Or.inr (Or.inr rfl))) q_int) (pas_cons (pv_op od_mod (pv_name (i := 1) rfl (by first | exact Or.inl rfl | exact Or.inr (Or.inl rfl) | exact Or.inr (Or.inr rfl))) (pv_name (i := 3) rfl (by first | exact Or.inl rfl | exact Or.inr (Or.inl rfl) | exact Or.inr (Or.inr rfl)))) qa_nil))))
  (pxs_one (q_ret (pv_callTy cd_tuple (by rfl) T.n_tuple (by decide +kernel) (pas_cons (pv_of (pn_lc2 (own := [("row", 5), ("beside", 6)]) (vs1 := [6]) rfl sc_part_numbers.nd (pit_seq (q_call IH (hr.mono (by omega)) (by rfl) T.g_part_numbers T.F_part_numbers.kp T.b_part_numbers (passes_call (takes_of rfl rfl rfl rfl) fun _ _ _ _ h => h) (pas_cons (pv_ix (pv_name (i := 0) rfl (by first | exact Or.inl rfl | exact Or.inr (Or.inl rfl) | exact Or.inr (Or.inr rfl))) q_int) (pas_cons (pv_op od_fdv (pv_name (i := 1) rfl (by first | exact Or.inl rfl | exact Or.inr (Or.inl rfl) | exact Or.inr (Or.inr rfl))) (pv_name (i := 3) rfl (by first | exact Or.inl rfl | exact Or.inr (Or.inl rfl) | exact Or.inr (Or.inr rfl)))) qa_nil)))) (blkOk_by (by rfl)) (by decide) (fun _ _ _ _ _ => (ptg_name (i := 5) sc_part_numbers.nd rfl (by first | exact Or.inl rfl | exact Or.inr rfl) (by first | exact Or.inl rfl | exact Or.inr rfl))) (fun _ _ _ _ _ => qf_nil) (fun _ _ _ _ _ => (pit_seq (pv_name (i := 4) rfl (by first | exact Or.inl rfl | exact Or.inr (Or.inl rfl) | exact Or.inr (Or.inr rfl))))) (fun _ _ _ _ _ => (ptg_name (i := 6) sc_part_numbers.nd rfl (by first | exact Or.inl rfl | exact Or.inr rfl) (by first | exact Or.inl rfl | exact Or.inr rfl))) (fun _ _ _ _ _ => qf_nil) (fun _ _ _ _ _ => (pv_callTy cd_tuple (by rfl) T.n_tuple (by decide +kernel) (pas_cons (pv_of (pn_lc2 (own := [("one", 8), ("other", 9)]) (vs1 := [9]) rfl sc_part_numbers.nd (pit_seq (pv_name (i := 5) rfl (by first | exact Or.inl rfl | exact Or.inr (Or.inl rfl) | exact Or.inr (Or.inr rfl)))) (blkOk_by (by rfl)) (by decide) (fun _ _ _ _ _ => (ptg_name (i := 8) sc_part_numbers.nd rfl (by first | exact Or.inl rfl | exact Or.inr rfl) (by first | exact Or.inl rfl | exact Or.inr rfl))) (fun _ _ _ _ _ => qf_nil) (fun _ _ _ _ _ => (pit_seq (pv_name (i := 6) rfl (by first | exact Or.inl rfl | exact Or.inr (Or.inl rfl) | exact Or.inr (Or.inr rfl))))) (fun _ _ _ _ _ => (ptg_name (i := 9) sc_part_numbers.nd rfl (by first | exact Or.inl rfl | exact Or.inr rfl) (by first | exact Or.inl rfl | exact Or.inr rfl))) (fun _ _ _ _ _ => qf_nil) (fun _ _ _ _ _ => (pv_op od_mul (pv_name (i := 8) rfl (by first | exact Or.inl rfl | exact Or.inr (Or.inl rfl) | exact Or.inr (Or.inr rfl))) (pv_name (i := 9) rfl (by first | exact Or.inl rfl | exact Or.inr (Or.inl rfl) | exact Or.inr (Or.inr rfl))))) (by decide) (by decide))) qa_nil))) (by decide) (by decide))) qa_nil))))))))
theorem ok_all_numbers (T : Tx K mg base A) : FnOk P w K mg base (CX P w) 62 A.f_all_numbers A.fd_all_numbers ["tree"] (spP K (tabs A) (xcs A) 1 F_all_numbers) :=
  fn_pureC (k := 61) T.F_all_numbers sc_all_numbers (fun _ _ => rfl) fun Ar outer s H B E hr =>
    (pxs_one (q_ret (pv_of (pn_lc (own := [("k", 1)]) rfl sc_all_numbers.nd (qi_range1 (by rfl) T.n_range (pas_cons (q_call (ok_kinds_of T 20) (hr.mono (by omega)) (by rfl) T.g_kinds_of T.F_kinds_of.kp T.b_kinds_of (passes_call (takes_of rfl rfl rfl rfl) fun _ _ _ _ h => h) (pas_cons (pv_name (i := 0) rfl (by first | exact Or.inl rfl | exact Or.inr (Or.inl rfl) | exact Or.inr (Or.inr rfl))) qa_nil)) qa_nil)) (blkOk_by (by rfl)) (fun _ _ _ _ _ => (ptg_name (i := 1) sc_all_numbers.nd rfl (by first | exact Or.inl rfl | exact Or.inr rfl) (by first | exact Or.inl rfl | exact Or.inr rfl))) (fun _ _ _ _ _ => qf_nil) (fun _ _ _ _ _ => (q_call (ok_part_numbers T 20) (hr.mono (by omega)) (by rfl) T.g_part_numbers T.F_part_numbers.kp T.b_part_numbers passL (pas_cons (pv_name (i := 0) rfl (by first | exact Or.inl rfl | exact Or.inr (Or.inl rfl) | exact Or.inr (Or.inr rfl))) (pas_cons (pv_name (i := 1) rfl (by first | exact Or.inl rfl | exact Or.inr (Or.inl rfl) | exact Or.inr (Or.inr rfl))) qa_nil)))) (by decide)))))
theorem ok_dot (T : Tx K mg base A) : FnOk P w K mg base (CX P w) 1 A.f_dot A.fd_dot ["one", "other"] (spP K (tabs A) (xcs A) 2 F_dot) :=
  fn_pureC (k := 0) T.F_dot sc_dot (fun _ _ => rfl) fun Ar outer s H B E hr =>
    (pxs_one (q_ret (pv_callB (cd_sumL rfl) (by rfl) T.n_sum (by decide +kernel) (pas_cons (pv_of (pn_lc (own := [("mine", 2), ("beside", 3)]) rfl sc_dot.nd (qi_zip (by rfl) T.n_zip (pas_cons (pv_name (i := 0) rfl (by first | exact Or.inl rfl | exact Or.inr (Or.inl rfl) | exact Or.inr (Or.inr rfl))) (pas_cons (pv_name (i := 1) rfl (by first | exact Or.inl rfl | exact Or.inr (Or.inl rfl) | exact Or.inr (Or.inr rfl))) qa_nil))) (blkOk_by (by rfl)) (fun _ _ _ _ _ => (ptg_tup rfl (ptgs_cons (ptg_name (i := 2) sc_dot.nd rfl (by first | exact Or.inl rfl | exact Or.inr rfl) (by first | exact Or.inl rfl | exact Or.inr rfl)) (ptgs_cons (ptg_name (i := 3) sc_dot.nd rfl (by first | exact Or.inl rfl | exact Or.inr rfl) (by first | exact Or.inl rfl | exact Or.inr rfl)) ptgs_nil)))) (fun _ _ _ _ _ => qf_nil) (fun _ _ _ _ _ => (pv_op od_mul (pv_name (i := 2) rfl (by first | exact Or.inl rfl | exact Or.inr (Or.inl rfl) | exact Or.inr (Or.inr rfl))) (pv_name (i := 3) rfl (by first | exact Or.inl rfl | exact Or.inr (Or.inl rfl) | exact Or.inr (Or.inr rfl))))) (by decide))) qa_nil))))
theorem ok_action_of (T : Tx K mg base A) : FnOk P w K mg base (CX P w) 1 A.f_action_of A.fd_action_of ["numbers", "i"] (spP K (tabs A) (xcs A) 2 F_action_of) :=
  fn_pureC (k := 0) T.F_action_of sc_action_of (fun _ _ => rfl) fun Ar outer s H B E hr =>
    (pxs_one (q_ret (pv_of (pn_lc (own := [("table", 2)]) rfl sc_action_of.nd (pit_seq (pv_name (i := 0) rfl (by first | exact Or.inl rfl | exact Or.inr (Or.inl rfl) | exact Or.inr (Or.inr rfl)))) (blkOk_by (by rfl)) (fun _ _ _ _ _ => (ptg_name (i := 2) sc_action_of.nd rfl (by first | exact Or.inl rfl | exact Or.inr rfl) (by first | exact Or.inl rfl | exact Or.inr rfl))) (fun _ _ _ _ _ => qf_nil) (fun _ _ _ _ _ => (pv_of (pn_list (by rfl) T.n_list (by decide +kernel) (pas_cons (pv_ix (pv_name (i := 2) rfl (by first | exact Or.inl rfl | exact Or.inr (Or.inl rfl) | exact Or.inr (Or.inr rfl))) (pv_name (i := 1) rfl (by first | exact Or.inl rfl | exact Or.inr (Or.inl rfl) | exact Or.inr (Or.inr rfl)))) qa_nil)))) (by decide)))))
theorem ok_times (T : Tx K mg base A) : FnOk P w K mg base (CX P w) 2 A.f_times A.fd_times ["one", "other"] (spP K (tabs A) (xcs A) 2 F_times) :=
  fn_pureC (k := 1) T.F_times sc_times (fun _ _ => rfl) fun Ar outer s H B E hr =>
    (qs_cons (q_set (i := 2) sc_times.nd rfl q_bad)
  (pxs_one (q_ret (pv_of (pn_lc (own := [("row", 4)]) rfl sc_times.nd (pit_seq (pv_name (i := 0) rfl (by first | exact Or.inl rfl | exact Or.inr (Or.inl rfl) | exact Or.inr (Or.inr rfl)))) (blkOk_by (by rfl)) (fun _ _ _ _ _ => (ptg_name (i := 4) sc_times.nd rfl (by first | exact Or.inl rfl | exact Or.inr rfl) (by first | exact Or.inl rfl | exact Or.inr rfl))) (fun _ _ _ _ _ => qf_nil) (fun _ _ _ _ _ => (pv_of (pn_lc (own := [("column", 3)]) rfl sc_times.nd (pit_seq (pv_name (i := 2) rfl (by first | exact Or.inl rfl | exact Or.inr (Or.inl rfl) | exact Or.inr (Or.inr rfl)))) (blkOk_by (by rfl)) (fun _ _ _ _ _ => (ptg_name (i := 3) sc_times.nd rfl (by first | exact Or.inl rfl | exact Or.inr rfl) (by first | exact Or.inl rfl | exact Or.inr rfl))) (fun _ _ _ _ _ => qf_nil) (fun _ _ _ _ _ => (q_call (ok_dot T) (hr.mono (by omega)) (by rfl) T.g_dot T.F_dot.kp T.b_dot passL (pas_cons (pv_name (i := 4) rfl (by first | exact Or.inl rfl | exact Or.inr (Or.inl rfl) | exact Or.inr (Or.inr rfl))) (pas_cons (pv_name (i := 3) rfl (by first | exact Or.inl rfl | exact Or.inr (Or.inl rfl) | exact Or.inr (Or.inr rfl))) qa_nil)))) (by decide)))) (by decide))))))
theorem ok_characteristic (T : Tx K mg base A) : FnOk P w K mg base (CX P w) 3 A.f_characteristic A.fd_characteristic ["rows"] (spP K (tabs A) (xcs A) 1 F_characteristic) :=
  fn_pureC (k := 2) T.F_characteristic sc_characteristic (fun _ _ => rfl) fun Ar outer s H B E hr =>
    (qs_cons (q_set (i := 1) sc_characteristic.nd rfl (pv_callB cd_len (by rfl) T.n_len (by decide +kernel) (pas_cons (pv_name (i := 0) rfl (by first | exact Or.inl rfl | exact Or.inr (Or.inl rfl) | exact Or.inr (Or.inr rfl))) qa_nil)))
  (qs_cons (q_setO (i := 2) sc_characteristic.nd rfl (pn_lst (pas_cons q_int qa_nil)))
  (qs_cons (q_set (i := 3) sc_characteristic.nd rfl (pv_of (pn_lc (own := [("_", 7)]) rfl sc_characteristic.nd (qi_range1 (by rfl) T.n_range (pas_cons (pv_name (i := 1) rfl (by first | exact Or.inl rfl | exact Or.inr (Or.inl rfl) | exact Or.inr (Or.inr rfl))) qa_nil)) (blkOk_by (by rfl)) (fun _ _ _ _ _ => (ptg_name (i := 7) sc_characteristic.nd rfl (by first | exact Or.inl rfl | exact Or.inr rfl) (by first | exact Or.inl rfl | exact Or.inr rfl))) (fun _ _ _ _ _ => qf_nil) (fun _ _ _ _ _ => (pv_of (pn_op on_rep (pv_of (pn_lst (pas_cons q_int qa_nil))) (pv_name (i := 1) rfl (by first | exact Or.inl rfl | exact Or.inr (Or.inl rfl) | exact Or.inr (Or.inr rfl)))))) (by decide))))
  (qs_cons (q_for (passes_of rfl) rfl (qi_range2 (by rfl) T.n_range (pas_cons q_int (pas_cons (pv_op od_addU (pv_name (i := 1) rfl (by first | exact Or.inl rfl | exact Or.inr (Or.inl rfl) | exact Or.inr (Or.inr rfl))) q_int) qa_nil))) (ptg_name (i := 4) sc_characteristic.nd rfl (by first | exact Or.inl rfl | exact Or.inr rfl) (by first | exact Or.inl rfl | exact Or.inr rfl)) (qs_cons (q_sw (psw_frz 2 (psw_lc (i := 5) (own := [("r", 8), ("row", 9)]) rfl sc_characteristic.nd (qi_enumA (by rfl) T.n_enumerate (pas_cons (pv_name (i := 3) rfl (by first | exact Or.inl rfl | exact Or.inr (Or.inl rfl) | exact Or.inr (Or.inr rfl))) qa_nil)) (blkOk_by (by rfl)) (fun _ _ _ _ _ => (ptg_tup rfl (ptgs_cons (ptg_name (i := 8) sc_characteristic.nd rfl (by first | exact Or.inl rfl | exact Or.inr rfl) (by first | exact Or.inl rfl | exact Or.inr rfl)) (ptgs_cons (ptg_name (i := 9) sc_characteristic.nd rfl (by first | exact Or.inl rfl | exact Or.inr rfl) (by first | exact Or.inl rfl | exact Or.inr rfl)) ptgs_nil)))) (fun _ _ _ _ _ => qf_nil) (fun _ _ _ _ _ => (pv_of (pn_frz 2 (pn_lc (own := [("c", 11), ("cell", 12)]) rfl sc_characteristic.nd (qi_enumA (by rfl) T.n_enumerate (pas_cons (pv_name (i := 9) rfl (by first | exact Or.inl rfl | exact Or.inr (Or.inl rfl) | exact Or.inr (Or.inr rfl))) qa_nil)) (blkOk_by (by rfl)) (fun _ _ _ _ _ => (ptg_tup rfl (ptgs_cons (ptg_name (i := 11) sc_characteristic.nd rfl (by first | exact Or.inl rfl | exact Or.inr rfl) (by first | exact Or.inl rfl | exact Or.inr rfl)) (ptgs_cons (ptg_name (i := 12) sc_characteristic.nd rfl (by first | exact Or.inl rfl | exact Or.inr rfl) (by first | exact Or.inl rfl | exact Or.inr rfl)) ptgs_nil)))) (fun _ _ _ _ _ => qf_nil) (fun _ _ _ _ _ => (pv_op od_addU (pv_name (i := 12) rfl (by first | exact Or.inl rfl | exact Or.inr (Or.inl rfl) | exact Or.inr (Or.inr rfl))) (pv_if (pb_cmp (od_eq (hu64 hr)) (by rfl) (pv_name (i := 8) rfl (by first | exact Or.inl rfl | exact Or.inr (Or.inl rfl) | exact Or.inr (Or.inr rfl))) (pv_name (i := 11) rfl (by first | exact Or.inl rfl | exact Or.inr (Or.inl rfl) | exact Or.inr (Or.inr rfl)))) (pv_ixN (i := 2) rfl (by first | exact Or.inl rfl | exact Or.inr (Or.inl rfl) | exact Or.inr (Or.inr rfl)) (pv_neg q_int)) q_int))) (by decide))))) (by decide) rfl rfl (by rfl))))
  (qs_cons (q_set (i := 3) sc_characteristic.nd rfl (q_call (ok_times T) (hr.mono (by omega)) (by rfl) T.g_times T.F_times.kp T.b_times (passes_call (takes_of rfl rfl rfl rfl) fun _ _ _ _ h => h) (pas_cons (pv_name (i := 0) rfl (by first | exact Or.inl rfl | exact Or.inr (Or.inl rfl) | exact Or.inr (Or.inr rfl))) (pas_cons (pv_name (i := 5) rfl (by first | exact Or.inl rfl | exact Or.inr (Or.inl rfl) | exact Or.inr (Or.inr rfl))) qa_nil))))
  (qs_cons (q_set (i := 6) sc_characteristic.nd rfl (pv_callB (cd_sumL rfl) (by rfl) T.n_sum (by decide +kernel) (pas_cons (pv_of (pn_lc (own := [("at", 10)]) rfl sc_characteristic.nd (qi_range1 (by rfl) T.n_range (pas_cons (pv_name (i := 1) rfl (by first | exact Or.inl rfl | exact Or.inr (Or.inl rfl) | exact Or.inr (Or.inr rfl))) qa_nil)) (blkOk_by (by rfl)) (fun _ _ _ _ _ => (ptg_name (i := 10) sc_characteristic.nd rfl (by first | exact Or.inl rfl | exact Or.inr rfl) (by first | exact Or.inl rfl | exact Or.inr rfl))) (fun _ _ _ _ _ => qf_nil) (fun _ _ _ _ _ => (pv_ix (pv_ix (pv_name (i := 3) rfl (by first | exact Or.inl rfl | exact Or.inr (Or.inl rfl) | exact Or.inr (Or.inr rfl))) (pv_name (i := 10) rfl (by first | exact Or.inl rfl | exact Or.inr (Or.inl rfl) | exact Or.inr (Or.inr rfl)))) (pv_name (i := 10) rfl (by first | exact Or.inl rfl | exact Or.inr (Or.inl rfl) | exact Or.inr (Or.inr rfl))))) (by decide))) qa_nil)))
  (pxs_one (q_expr (pv_app (i := 2) rfl (by first | exact Or.inl rfl | exact Or.inr (Or.inl rfl) | exact Or.inr (Or.inr rfl)) (pv_op od_fdv (pv_neg (pv_name (i := 6) rfl (by first | exact Or.inl rfl | exact Or.inr (Or.inl rfl) | exact Or.inr (Or.inr rfl)))) (pv_name (i := 4) rfl (by first | exact Or.inl rfl | exact Or.inr (Or.inl rfl) | exact Or.inr (Or.inr rfl)))))))))))
  (pxs_one (q_ret (pv_name (i := 2) rfl (by first | exact Or.inl rfl | exact Or.inr (Or.inl rfl) | exact Or.inr (Or.inr rfl)))))))))
theorem ok_divided (T : Tx K mg base A) : FnOk P w K mg base (CX P w) 1 A.f_divided A.fd_divided ["coefficients", "root"] (spP K (tabs A) (xcs A) 2 F_divided) :=
  fn_pureC (k := 0) T.F_divided sc_divided (fun _ _ => rfl) fun Ar outer s H B E hr =>
    (qs_cons (q_setO (i := 2) sc_divided.nd rfl (pn_lst qa_nil))
  (qs_cons (q_set (i := 3) sc_divided.nd rfl q_int)
  (qs_cons (q_for (passes_of rfl) rfl (pit_seq (pv_name (i := 0) rfl (by first | exact Or.inl rfl | exact Or.inr (Or.inl rfl) | exact Or.inr (Or.inr rfl)))) (ptg_name (i := 4) sc_divided.nd rfl (by first | exact Or.inl rfl | exact Or.inr rfl) (by first | exact Or.inl rfl | exact Or.inr rfl)) (qs_cons (q_set (i := 3) sc_divided.nd rfl (pv_op od_addU (pv_op od_mul (pv_name (i := 3) rfl (by first | exact Or.inl rfl | exact Or.inr (Or.inl rfl) | exact Or.inr (Or.inr rfl))) (pv_name (i := 1) rfl (by first | exact Or.inl rfl | exact Or.inr (Or.inl rfl) | exact Or.inr (Or.inr rfl)))) (pv_name (i := 4) rfl (by first | exact Or.inl rfl | exact Or.inr (Or.inl rfl) | exact Or.inr (Or.inr rfl)))))
  (pxs_one (q_expr (pv_app (i := 2) rfl (by first | exact Or.inl rfl | exact Or.inr (Or.inl rfl) | exact Or.inr (Or.inr rfl)) (pv_name (i := 3) rfl (by first | exact Or.inl rfl | exact Or.inr (Or.inl rfl) | exact Or.inr (Or.inr rfl))))))))
  (pxs_one (q_ret (pv_tup (pas_cons (pv_sl (pv_name (i := 2) rfl (by first | exact Or.inl rfl | exact Or.inr (Or.inl rfl) | exact Or.inr (Or.inr rfl))) qq_no (pq_yes (pv_neg q_int))) (pas_cons (pv_ixN (i := 2) rfl (by first | exact Or.inl rfl | exact Or.inr (Or.inl rfl) | exact Or.inr (Or.inr rfl)) (pv_neg q_int)) qa_nil))))))))
theorem ok_whole_roots (T : Tx K mg base A) : FnOk P w K mg base (CX P w) 2 A.f_whole_roots A.fd_whole_roots ["coefficients", "most"] (spP K (tabs A) (xcs A) 2 F_whole_roots) :=
  fn_pureC (k := 1) T.F_whole_roots sc_whole_roots (fun _ _ => rfl) fun Ar outer s H B E hr =>
    (qs_cons (q_setO (i := 2) sc_whole_roots.nd rfl (pn_lst qa_nil))
  (qs_cons (q_set (i := 3) sc_whole_roots.nd rfl (pv_name (i := 0) rfl (by first | exact Or.inl rfl | exact Or.inr (Or.inl rfl) | exact Or.inr (Or.inr rfl))))
  (qs_cons (q_for (passes_of rfl) rfl (qi_range2 (by rfl) T.n_range (pas_cons (pv_neg (pv_name (i := 1) rfl (by first | exact Or.inl rfl | exact Or.inr (Or.inl rfl) | exact Or.inr (Or.inr rfl)))) (pas_cons (pv_op od_addU (pv_name (i := 1) rfl (by first | exact Or.inl rfl | exact Or.inr (Or.inl rfl) | exact Or.inr (Or.inr rfl))) q_int) qa_nil))) (ptg_name (i := 4) sc_whole_roots.nd rfl (by first | exact Or.inl rfl | exact Or.inr rfl) (by first | exact Or.inl rfl | exact Or.inr rfl)) (qs_cons (q_asg (q_call (ok_divided T) (hr.mono (by omega)) (by rfl) T.g_divided T.F_divided.kp T.b_divided (passes_call (takes_of rfl rfl rfl rfl) fun _ _ _ _ h => h) (pas_cons (pv_name (i := 3) rfl (by first | exact Or.inl rfl | exact Or.inr (Or.inl rfl) | exact Or.inr (Or.inr rfl))) (pas_cons (pv_name (i := 4) rfl (by first | exact Or.inl rfl | exact Or.inr (Or.inl rfl) | exact Or.inr (Or.inr rfl))) qa_nil))) (ptg_tup rfl (ptgs_cons (ptg_name (i := 5) sc_whole_roots.nd rfl (by first | exact Or.inl rfl | exact Or.inr rfl) (by first | exact Or.inl rfl | exact Or.inr rfl)) (ptgs_cons (ptg_name (i := 6) sc_whole_roots.nd rfl (by first | exact Or.inl rfl | exact Or.inr rfl) (by first | exact Or.inl rfl | exact Or.inr rfl)) ptgs_nil))))
  (pxs_one (px_while fuel (passes_of rfl) (pb_bo (pw_a (pb_cmp od_gt (by rfl) (pv_callB cd_len (by rfl) T.n_len (by decide +kernel) (pas_cons (pv_name (i := 3) rfl (by first | exact Or.inl rfl | exact Or.inr (Or.inl rfl) | exact Or.inr (Or.inr rfl))) qa_nil)) q_int) (pw_a1 (pb_cmp (od_eq (hu64 hr)) (by rfl) (pv_name (i := 6) rfl (by first | exact Or.inl rfl | exact Or.inr (Or.inl rfl) | exact Or.inr (Or.inr rfl))) q_int)))) (qs_cons (q_expr (pv_app (i := 2) rfl (by first | exact Or.inl rfl | exact Or.inr (Or.inl rfl) | exact Or.inr (Or.inr rfl)) (pv_name (i := 4) rfl (by first | exact Or.inl rfl | exact Or.inr (Or.inl rfl) | exact Or.inr (Or.inr rfl)))))
  (qs_cons (q_set (i := 3) sc_whole_roots.nd rfl (pv_name (i := 5) rfl (by first | exact Or.inl rfl | exact Or.inr (Or.inl rfl) | exact Or.inr (Or.inr rfl))))
  (pxs_one (q_asg (q_call (ok_divided T) (hr.mono (by omega)) (by rfl) T.g_divided T.F_divided.kp T.b_divided (passes_call (takes_of rfl rfl rfl rfl) fun _ _ _ _ h => h) (pas_cons (pv_name (i := 3) rfl (by first | exact Or.inl rfl | exact Or.inr (Or.inl rfl) | exact Or.inr (Or.inr rfl))) (pas_cons (pv_name (i := 4) rfl (by first | exact Or.inl rfl | exact Or.inr (Or.inl rfl) | exact Or.inr (Or.inr rfl))) qa_nil))) (ptg_tup rfl (ptgs_cons (ptg_name (i := 5) sc_whole_roots.nd rfl (by first | exact Or.inl rfl | exact Or.inr rfl) (by first | exact Or.inl rfl | exact Or.inr rfl)) (ptgs_cons (ptg_name (i := 6) sc_whole_roots.nd rfl (by first | exact Or.inl rfl | exact Or.inr rfl) (by first | exact Or.inl rfl | exact Or.inr rfl)) ptgs_nil)))))))))))
  (qs_cons (q_if (pb_cmp od_gt (by rfl) (pv_callB cd_len (by rfl) T.n_len (by decide +kernel) (pas_cons (pv_name (i := 3) rfl (by first | exact Or.inl rfl | exact Or.inr (Or.inl rfl) | exact Or.inr (Or.inr rfl))) qa_nil)) q_int) (pxs_one (q_raise rfl (takes_of rfl rfl rfl rfl) xc_InvalidQuestion (pmk_own PySem.F.excBase_ValueError T.x_InvalidQuestion T.g_InvalidQuestion T.kp_InvalidQuestion (raises_own T.xb_InvalidQuestion T.xt_InvalidQuestion) (by rfl)))) pxs_nil)
  (pxs_one (q_ret q_bad))))))
theorem ok_without (T : Tx K mg base A) : FnOk P w K mg base (CX P w) 2 A.f_without A.fd_without ["action", "roots", "told"] (spP K (tabs A) (xcs A) 3 F_without) :=
  fn_pureC (k := 1) T.F_without sc_without (fun _ _ => rfl) fun Ar outer s H B E hr =>
    (qs_cons (q_set (i := 3) sc_without.nd rfl (pv_name (i := 2) rfl (by first | exact Or.inl rfl | exact Or.inr (Or.inl rfl) | exact Or.inr (Or.inr rfl))))
  (qs_cons (q_for (passes_of rfl) rfl (pit_seq (pv_name (i := 1) rfl (by first | exact Or.inl rfl | exact Or.inr (Or.inl rfl) | exact Or.inr (Or.inr rfl)))) (ptg_name (i := 4) sc_without.nd rfl (by first | exact Or.inl rfl | exact Or.inr rfl) (by first | exact Or.inl rfl | exact Or.inr rfl)) (pxs_one (q_set (i := 3) sc_without.nd rfl (pv_of (pn_lc (own := [("row", 5), ("number", 6)]) rfl sc_without.nd (qi_zip (by rfl) T.n_zip (pas_cons (pv_name (i := 0) rfl (by first | exact Or.inl rfl | exact Or.inr (Or.inl rfl) | exact Or.inr (Or.inr rfl))) (pas_cons (pv_name (i := 3) rfl (by first | exact Or.inl rfl | exact Or.inr (Or.inl rfl) | exact Or.inr (Or.inr rfl))) qa_nil))) (blkOk_by (by rfl)) (fun _ _ _ _ _ => (ptg_tup rfl (ptgs_cons (ptg_name (i := 5) sc_without.nd rfl (by first | exact Or.inl rfl | exact Or.inr rfl) (by first | exact Or.inl rfl | exact Or.inr rfl)) (ptgs_cons (ptg_name (i := 6) sc_without.nd rfl (by first | exact Or.inl rfl | exact Or.inr rfl) (by first | exact Or.inl rfl | exact Or.inr rfl)) ptgs_nil)))) (fun _ _ _ _ _ => qf_nil) (fun _ _ _ _ _ => (pv_op od_sub (q_call (ok_dot T) (hr.mono (by omega)) (by rfl) T.g_dot T.F_dot.kp T.b_dot passL (pas_cons (pv_name (i := 5) rfl (by first | exact Or.inl rfl | exact Or.inr (Or.inl rfl) | exact Or.inr (Or.inr rfl))) (pas_cons (pv_name (i := 3) rfl (by first | exact Or.inl rfl | exact Or.inr (Or.inl rfl) | exact Or.inr (Or.inr rfl))) qa_nil))) (pv_op od_mul (pv_name (i := 4) rfl (by first | exact Or.inl rfl | exact Or.inr (Or.inl rfl) | exact Or.inr (Or.inr rfl))) (pv_name (i := 6) rfl (by first | exact Or.inl rfl | exact Or.inr (Or.inl rfl) | exact Or.inr (Or.inr rfl)))))) (by decide))))))
  (pxs_one (q_ret (pv_name (i := 3) rfl (by first | exact Or.inl rfl | exact Or.inr (Or.inl rfl) | exact Or.inr (Or.inr rfl)))))))
theorem ok_listed_rows (T : Tx K mg base A) : FnOk P w K mg base (CX P w) 63 A.f_listed_rows A.fd_listed_rows ["tree"] (spP K (tabs A) (xcs A) 1 F_listed_rows) :=
  fn_pureC (k := 62) T.F_listed_rows sc_listed_rows (fun _ _ => rfl) fun Ar outer s H B E hr =>
    (qs_cons (q_set (i := 1) sc_listed_rows.nd rfl (q_call (ok_all_numbers T) (hr.mono (by omega)) (by rfl) T.g_all_numbers T.F_all_numbers.kp T.b_all_numbers (passes_call (takes_of rfl rfl rfl rfl) fun _ _ _ _ h => h) (pas_cons (pv_name (i := 0) rfl (by first | exact Or.inl rfl | exact Or.inr (Or.inl rfl) | exact Or.inr (Or.inr rfl))) qa_nil)))
  (qs_cons (q_set (i := 2) sc_listed_rows.nd rfl (pv_of (pn_lst (pas_cons (pv_tup (pas_cons (pv_tup qa_nil) (pas_cons (pv_of (pn_op on_cat (pv_of (pn_lst (pas_cons q_int qa_nil))) (pv_of (pn_op on_rep (pv_of (pn_lst (pas_cons q_int qa_nil))) (pv_op od_sub (pv_callB cd_len (by rfl) T.n_len (by decide +kernel) (pas_cons (pv_name (i := 1) rfl (by first | exact Or.inl rfl | exact Or.inr (Or.inl rfl) | exact Or.inr (Or.inr rfl))) qa_nil)) q_int))))) qa_nil))) qa_nil))))
  (qs_cons (q_for (passes_of rfl) rfl (qi_enumA (by rfl) T.n_enumerate (pas_cons (q_call (ok_part_valencies T 20) (hr.mono (by omega)) (by rfl) T.g_part_valencies T.F_part_valencies.kp T.b_part_valencies (passes_call (takes_of rfl rfl rfl rfl) fun _ _ _ _ h => h) (pas_cons (pv_name (i := 0) rfl (by first | exact Or.inl rfl | exact Or.inr (Or.inl rfl) | exact Or.inr (Or.inr rfl))) qa_nil)) qa_nil)) (ptg_tup rfl (ptgs_cons (ptg_name (i := 3) sc_listed_rows.nd rfl (by first | exact Or.inl rfl | exact Or.inr rfl) (by first | exact Or.inl rfl | exact Or.inr rfl)) (ptgs_cons (ptg_name (i := 4) sc_listed_rows.nd rfl (by first | exact Or.inl rfl | exact Or.inr rfl) (by first | exact Or.inl rfl | exact Or.inr rfl)) ptgs_nil))) (qs_cons (q_set (i := 5) sc_listed_rows.nd rfl (q_call (ok_action_of T) (hr.mono (by omega)) (by rfl) T.g_action_of T.F_action_of.kp T.b_action_of (passes_call (takes_of rfl rfl rfl rfl) fun _ _ _ _ h => h) (pas_cons (pv_name (i := 1) rfl (by first | exact Or.inl rfl | exact Or.inr (Or.inl rfl) | exact Or.inr (Or.inr rfl))) (pas_cons (pv_name (i := 3) rfl (by first | exact Or.inl rfl | exact Or.inr (Or.inl rfl) | exact Or.inr (Or.inr rfl))) qa_nil))))
  (qs_cons (q_set (i := 6) sc_listed_rows.nd rfl (q_call (ok_whole_roots T) (hr.mono (by omega)) (by rfl) T.g_whole_roots T.F_whole_roots.kp T.b_whole_roots (passes_call (takes_of rfl rfl rfl rfl) fun _ _ _ _ h => h) (pas_cons (q_call (ok_characteristic T) (hr.mono (by omega)) (by rfl) T.g_characteristic T.F_characteristic.kp T.b_characteristic (passes_call (takes_of rfl rfl rfl rfl) fun _ _ _ _ h => h) (pas_cons (pv_name (i := 5) rfl (by first | exact Or.inl rfl | exact Or.inr (Or.inl rfl) | exact Or.inr (Or.inr rfl))) qa_nil)) (pas_cons (pv_name (i := 4) rfl (by first | exact Or.inl rfl | exact Or.inr (Or.inl rfl) | exact Or.inr (Or.inr rfl))) qa_nil))))
  (qs_cons (q_setO (i := 7) sc_listed_rows.nd rfl (pn_lst qa_nil))
  (qs_cons (q_for (passes_of rfl) rfl (pit_seq (pv_name (i := 2) rfl (by first | exact Or.inl rfl | exact Or.inr (Or.inl rfl) | exact Or.inr (Or.inr rfl)))) (ptg_tup rfl (ptgs_cons (ptg_name (i := 8) sc_listed_rows.nd rfl (by first | exact Or.inl rfl | exact Or.inr rfl) (by first | exact Or.inl rfl | exact Or.inr rfl)) (ptgs_cons (ptg_name (i := 9) sc_listed_rows.nd rfl (by first | exact Or.inl rfl | exact Or.inr rfl) (by first | exact Or.inl rfl | exact Or.inr rfl)) ptgs_nil))) (pxs_one (q_for (passes_of rfl) rfl (pit_seq (pv_name (i := 6) rfl (by first | exact Or.inl rfl | exact Or.inr (Or.inl rfl) | exact Or.inr (Or.inr rfl)))) (ptg_name (i := 10) sc_listed_rows.nd rfl (by first | exact Or.inl rfl | exact Or.inr rfl) (by first | exact Or.inl rfl | exact Or.inr rfl)) (qs_cons (q_set (i := 11) sc_listed_rows.nd rfl (q_call (ok_without T) (hr.mono (by omega)) (by rfl) T.g_without T.F_without.kp T.b_without (passes_call (takes_of rfl rfl rfl rfl) fun _ _ _ _ h => h) (pas_cons (pv_name (i := 5) rfl (by first | exact Or.inl rfl | exact Or.inr (Or.inl rfl) | exact Or.inr (Or.inr rfl))) (pas_cons (pv_of (pn_lc (own := [("other", 13)]) rfl sc_listed_rows.nd (pit_seq (pv_name (i := 6) rfl (by first | exact Or.inl rfl | exact Or.inr (Or.inl rfl) | exact Or.inr (Or.inr rfl)))) (blkOk_by (by rfl)) (fun _ _ _ _ _ => (ptg_name (i := 13) sc_listed_rows.nd rfl (by first | exact Or.inl rfl | exact Or.inr rfl) (by first | exact Or.inl rfl | exact Or.inr rfl))) (fun _ _ _ _ _ => (pif_one (pb_cmp (od_ne (hu64 hr)) (by rfl) (pv_name (i := 13) rfl (by first | exact Or.inl rfl | exact Or.inr (Or.inl rfl) | exact Or.inr (Or.inr rfl))) (pv_name (i := 10) rfl (by first | exact Or.inl rfl | exact Or.inr (Or.inl rfl) | exact Or.inr (Or.inr rfl)))))) (fun _ _ _ _ _ => (pv_name (i := 13) rfl (by first | exact Or.inl rfl | exact Or.inr (Or.inl rfl) | exact Or.inr (Or.inr rfl)))) (by decide))) (pas_cons (pv_name (i := 9) rfl (by first | exact Or.inl rfl | exact Or.inr (Or.inl rfl) | exact Or.inr (Or.inr rfl))) qa_nil)))))
  (pxs_one (q_if (pb_tru q_bad) (pxs_one (q_expr (pv_app (i := 7) rfl (by first | exact Or.inl rfl | exact Or.inr (Or.inl rfl) | exact Or.inr (Or.inr rfl)) (pv_tup (pas_cons q_bad (pas_cons (pv_name (i := 11) rfl (by first | exact Or.inl rfl | exact Or.inr (Or.inl rfl) | exact Or.inr (Or.inr rfl))) qa_nil)))))) pxs_nil))))))
  (pxs_one (q_set (i := 2) sc_listed_rows.nd rfl (pv_name (i := 7) rfl (by first | exact Or.inl rfl | exact Or.inr (Or.inl rfl) | exact Or.inr (Or.inr rfl))))))))))
  (pxs_one (q_ret q_bad)))))
theorem ok_convolved (T : Tx K mg base A) : FnOk P w K mg base (CX P w) 1 A.f_convolved A.fd_convolved ["one", "other"] (spP K (tabs A) (xcs A) 2 F_convolved) :=
  fn_pureC (k := 0) T.F_convolved sc_convolved (fun _ _ => rfl) fun Ar outer s H B E hr =>
    (qs_cons (q_setO (i := 2) sc_convolved.nd rfl (pn_op on_rep (pv_of (pn_lst (pas_cons q_int qa_nil))) (pv_op od_sub (pv_op od_addU (pv_callB cd_len (by rfl) T.n_len (by decide +kernel) (pas_cons (pv_name (i := 0) rfl (by first | exact Or.inl rfl | exact Or.inr (Or.inl rfl) | exact Or.inr (Or.inr rfl))) qa_nil)) (pv_callB cd_len (by rfl) T.n_len (by decide +kernel) (pas_cons (pv_name (i := 1) rfl (by first | exact Or.inl rfl | exact Or.inr (Or.inl rfl) | exact Or.inr (Or.inr rfl))) qa_nil))) q_int)))
  (qs_cons (q_for (passes_of rfl) rfl (qi_enumA (by rfl) T.n_enumerate (pas_cons (pv_name (i := 0) rfl (by first | exact Or.inl rfl | exact Or.inr (Or.inl rfl) | exact Or.inr (Or.inr rfl))) qa_nil)) (ptg_tup rfl (ptgs_cons (ptg_name (i := 3) sc_convolved.nd rfl (by first | exact Or.inl rfl | exact Or.inr rfl) (by first | exact Or.inl rfl | exact Or.inr rfl)) (ptgs_cons (ptg_name (i := 4) sc_convolved.nd rfl (by first | exact Or.inl rfl | exact Or.inr rfl) (by first | exact Or.inl rfl | exact Or.inr rfl)) ptgs_nil))) (pxs_one (q_for (passes_of rfl) rfl (qi_enumA (by rfl) T.n_enumerate (pas_cons (pv_name (i := 1) rfl (by first | exact Or.inl rfl | exact Or.inr (Or.inl rfl) | exact Or.inr (Or.inr rfl))) qa_nil)) (ptg_tup rfl (ptgs_cons (ptg_name (i := 5) sc_convolved.nd rfl (by first | exact Or.inl rfl | exact Or.inr rfl) (by first | exact Or.inl rfl | exact Or.inr rfl)) (ptgs_cons (ptg_name (i := 6) sc_convolved.nd rfl (by first | exact Or.inl rfl | exact Or.inr rfl) (by first | exact Or.inl rfl | exact Or.inr rfl)) ptgs_nil))) (pxs_one (px_augItem (i := 2) rfl (by first | exact Or.inl rfl | exact Or.inr (Or.inl rfl) | exact Or.inr (Or.inr rfl)) (pv_op od_addU (pv_name (i := 3) rfl (by first | exact Or.inl rfl | exact Or.inr (Or.inl rfl) | exact Or.inr (Or.inr rfl))) (pv_name (i := 5) rfl (by first | exact Or.inl rfl | exact Or.inr (Or.inl rfl) | exact Or.inr (Or.inr rfl)))) (pv_op od_mul (pv_name (i := 4) rfl (by first | exact Or.inl rfl | exact Or.inr (Or.inl rfl) | exact Or.inr (Or.inr rfl))) (pv_name (i := 6) rfl (by first | exact Or.inl rfl | exact Or.inr (Or.inl rfl) | exact Or.inr (Or.inr rfl)))) id_add)))))
  (pxs_one (q_ret (pv_name (i := 2) rfl (by first | exact Or.inl rfl | exact Or.inr (Or.inl rfl) | exact Or.inr (Or.inr rfl)))))))
theorem ok_signed_choices (T : Tx K mg base A) : FnOk P w K mg base (CX P w) 2 A.f_signed_choices A.fd_signed_choices ["many"] (spP K (tabs A) (xcs A) 1 F_signed_choices) :=
  fn_pureC (k := 1) T.F_signed_choices sc_signed_choices (fun _ _ => rfl) fun Ar outer s H B E hr =>
    (pxs_one (q_ret (pv_of (pn_lc (own := [("s", 1)]) rfl sc_signed_choices.nd (qi_range1 (by rfl) T.n_range (pas_cons (pv_op od_addU (pv_name (i := 0) rfl (by first | exact Or.inl rfl | exact Or.inr (Or.inl rfl) | exact Or.inr (Or.inr rfl))) q_int) qa_nil)) (blkOk_by (by rfl)) (fun _ _ _ _ _ => (ptg_name (i := 1) sc_signed_choices.nd rfl (by first | exact Or.inl rfl | exact Or.inr rfl) (by first | exact Or.inl rfl | exact Or.inr rfl))) (fun _ _ _ _ _ => qf_nil) (fun _ _ _ _ _ => (pv_if (pb_cmp (od_eq (hu64 hr)) (by rfl) (pv_op od_mod (pv_name (i := 1) rfl (by first | exact Or.inl rfl | exact Or.inr (Or.inl rfl) | exact Or.inr (Or.inr rfl))) q_int) q_int) (q_call (ok_choose T) (hr.mono (by omega)) (by rfl) T.g_choose T.F_choose.kp T.b_choose passL (pas_cons (pv_name (i := 0) rfl (by first | exact Or.inl rfl | exact Or.inr (Or.inl rfl) | exact Or.inr (Or.inr rfl))) (pas_cons (pv_name (i := 1) rfl (by first | exact Or.inl rfl | exact Or.inr (Or.inl rfl) | exact Or.inr (Or.inr rfl))) qa_nil))) (pv_neg (q_call (ok_choose T) (hr.mono (by omega)) (by rfl) T.g_choose T.F_choose.kp T.b_choose passL (pas_cons (pv_name (i := 0) rfl (by first | exact Or.inl rfl | exact Or.inr (Or.inl rfl) | exact Or.inr (Or.inr rfl))) (pas_cons (pv_name (i := 1) rfl (by first | exact Or.inl rfl | exact Or.inr (Or.inl rfl) | exact Or.inr (Or.inr rfl))) qa_nil)))))) (by decide)))))
theorem ok_row_of (T : Tx K mg base A) : ∀ m, FnOk P w K mg base (CX P w) (63 + m) A.f_row_of A.fd_row_of ["tree", "space"] (spP K (tabs A) (xcs A) 2 (F_row_of m))
  | 0 => fn_bad
  | m + 1 => fn_pureC (k := 63 + m) T.F_row_of sc_row_of (fun _ _ => rfl) fun Ar outer s H B E hr =>
    have IH := ok_row_of T m
    (qs_cons (q_set (i := 2) sc_row_of.nd rfl (pv_ix (pv_name (i := 0) rfl (by first | exact Or.inl rfl | exact Or.inr (Or.inl rfl) | exact Or.inr (Or.inr rfl))) q_int))
  (qs_cons (q_if (pb_cmp (od_eq (hu64 hr)) (by rfl) (pv_name (i := 2) rfl (by first | exact Or.inl rfl | exact Or.inr (Or.inl rfl) | exact Or.inr (Or.inr rfl))) q_str) (qs_cons (q_set (i := 3) sc_row_of.nd rfl (q_call (ok_kinds_of T 20) (hr.mono (by omega)) (by rfl) T.g_kinds_of T.F_kinds_of.kp T.b_kinds_of (passes_call (takes_of rfl rfl rfl rfl) fun _ _ _ _ h => h) (pas_cons (pv_ix (pv_name (i := 0) rfl (by first | exact Or.inl rfl | exact Or.inr (Or.inl rfl) | exact Or.inr (Or.inr rfl))) q_int) qa_nil)))
  (qs_cons (q_set (i := 4) sc_row_of.nd rfl (q_call IH (hr.mono (by omega)) (by rfl) T.g_row_of T.F_row_of.kp T.b_row_of (passes_call (takes_of rfl rfl rfl rfl) fun _ _ _ _ h => h) (pas_cons (pv_ix (pv_name (i := 0) rfl (by first | exact Or.inl rfl | exact Or.inr (Or.inl rfl) | exact Or.inr (Or.inr rfl))) q_int) (pas_cons (pv_op od_mod (pv_name (i := 1) rfl (by first | exact Or.inl rfl | exact Or.inr (Or.inl rfl) | exact Or.inr (Or.inr rfl))) (pv_name (i := 3) rfl (by first | exact Or.inl rfl | exact Or.inr (Or.inl rfl) | exact Or.inr (Or.inr rfl)))) qa_nil))))
  (pxs_one (q_ret (pv_callTy cd_tuple (by rfl) T.n_tuple (by decide +kernel) (pas_cons (pv_of (pn_lc2 (own := [("first", 10), ("second", 11)]) (vs1 := [11]) rfl sc_row_of.nd (pit_seq (q_call IH (hr.mono (by omega)) (by rfl) T.g_row_of T.F_row_of.kp T.b_row_of (passes_call (takes_of rfl rfl rfl rfl) fun _ _ _ _ h => h) (pas_cons (pv_ix (pv_name (i := 0) rfl (by first | exact Or.inl rfl | exact Or.inr (Or.inl rfl) | exact Or.inr (Or.inr rfl))) q_int) (pas_cons (pv_op od_fdv (pv_name (i := 1) rfl (by first | exact Or.inl rfl | exact Or.inr (Or.inl rfl) | exact Or.inr (Or.inr rfl))) (pv_name (i := 3) rfl (by first | exact Or.inl rfl | exact Or.inr (Or.inl rfl) | exact Or.inr (Or.inr rfl)))) qa_nil)))) (blkOk_by (by rfl)) (by decide) (fun _ _ _ _ _ => (ptg_name (i := 10) sc_row_of.nd rfl (by first | exact Or.inl rfl | exact Or.inr rfl) (by first | exact Or.inl rfl | exact Or.inr rfl))) (fun _ _ _ _ _ => qf_nil) (fun _ _ _ _ _ => (pit_seq (pv_name (i := 4) rfl (by first | exact Or.inl rfl | exact Or.inr (Or.inl rfl) | exact Or.inr (Or.inr rfl))))) (fun _ _ _ _ _ => (ptg_name (i := 11) sc_row_of.nd rfl (by first | exact Or.inl rfl | exact Or.inr rfl) (by first | exact Or.inl rfl | exact Or.inr rfl))) (fun _ _ _ _ _ => qf_nil) (fun _ _ _ _ _ => (pv_op od_mul (pv_name (i := 10) rfl (by first | exact Or.inl rfl | exact Or.inr (Or.inl rfl) | exact Or.inr (Or.inr rfl))) (pv_name (i := 11) rfl (by first | exact Or.inl rfl | exact Or.inr (Or.inl rfl) | exact Or.inr (Or.inr rfl))))) (by decide) (by decide))) qa_nil)))))) pxs_nil)
  (qs_cons (q_if (pb_cmp (od_eq (hu64 hr)) (by rfl) (pv_name (i := 2) rfl (by first | exact Or.inl rfl | exact Or.inr (Or.inl rfl) | exact Or.inr (Or.inr rfl))) q_str) (pxs_one (q_ret (pv_ix (q_call (ok_listed_rows T) (hr.mono (by omega)) (by rfl) T.g_listed_rows T.F_listed_rows.kp T.b_listed_rows (passes_call (takes_of rfl rfl rfl rfl) fun _ _ _ _ h => h) (pas_cons (pv_name (i := 0) rfl (by first | exact Or.inl rfl | exact Or.inr (Or.inl rfl) | exact Or.inr (Or.inr rfl))) qa_nil)) (pv_name (i := 1) rfl (by first | exact Or.inl rfl | exact Or.inr (Or.inl rfl) | exact Or.inr (Or.inr rfl)))))) pxs_nil)
  (qs_cons (q_if (pb_cmp (od_eq (hu64 hr)) (by rfl) (pv_name (i := 2) rfl (by first | exact Or.inl rfl | exact Or.inr (Or.inl rfl) | exact Or.inr (Or.inr rfl))) q_str) (qs_cons (q_asg (pv_sl (pv_name (i := 0) rfl (by first | exact Or.inl rfl | exact Or.inr (Or.inl rfl) | exact Or.inr (Or.inr rfl))) (pq_yes q_int) qq_no) (ptg_tup rfl (ptgs_cons (ptg_name (i := 6) sc_row_of.nd rfl (by first | exact Or.inl rfl | exact Or.inr rfl) (by first | exact Or.inl rfl | exact Or.inr rfl)) (ptgs_cons (ptg_name (i := 7) sc_row_of.nd rfl (by first | exact Or.inl rfl | exact Or.inr rfl) (by first | exact Or.inl rfl | exact Or.inr rfl)) ptgs_nil))))
  (pxs_one (q_sw (psw_lc (i := 5) (own := [("t", 9)]) rfl sc_row_of.nd (qi_range1 (by rfl) T.n_range (pas_cons (pv_op od_addU (pv_op od_sub (pv_name (i := 6) rfl (by first | exact Or.inl rfl | exact Or.inr (Or.inl rfl) | exact Or.inr (Or.inr rfl))) (pv_name (i := 1) rfl (by first | exact Or.inl rfl | exact Or.inr (Or.inl rfl) | exact Or.inr (Or.inr rfl)))) q_int) qa_nil)) (blkOk_by (by rfl)) (fun _ _ _ _ _ => (ptg_name (i := 9) sc_row_of.nd rfl (by first | exact Or.inl rfl | exact Or.inr rfl) (by first | exact Or.inl rfl | exact Or.inr rfl))) (fun _ _ _ _ _ => qf_nil) (fun _ _ _ _ _ => (pv_op od_mul (q_call (ok_choose T) (hr.mono (by omega)) (by rfl) T.g_choose T.F_choose.kp T.b_choose passL (pas_cons (pv_op od_sub (pv_name (i := 6) rfl (by first | exact Or.inl rfl | exact Or.inr (Or.inl rfl) | exact Or.inr (Or.inr rfl))) (pv_name (i := 1) rfl (by first | exact Or.inl rfl | exact Or.inr (Or.inl rfl) | exact Or.inr (Or.inr rfl)))) (pas_cons (pv_name (i := 9) rfl (by first | exact Or.inl rfl | exact Or.inr (Or.inl rfl) | exact Or.inr (Or.inr rfl))) qa_nil))) (q_call (ok_power T) (hr.mono (by omega)) (by rfl) T.g_power T.F_power.kp T.b_power passL (pas_cons (pv_op od_sub (pv_name (i := 7) rfl (by first | exact Or.inl rfl | exact Or.inr (Or.inl rfl) | exact Or.inr (Or.inr rfl))) q_int) (pas_cons (pv_name (i := 9) rfl (by first | exact Or.inl rfl | exact Or.inr (Or.inl rfl) | exact Or.inr (Or.inr rfl))) qa_nil))))) (by decide) rfl rfl (by rfl))))) (qs_cons (q_asg (pv_sl (pv_name (i := 0) rfl (by first | exact Or.inl rfl | exact Or.inr (Or.inl rfl) | exact Or.inr (Or.inr rfl))) (pq_yes q_int) qq_no) (ptg_tup rfl (ptgs_cons (ptg_name (i := 6) sc_row_of.nd rfl (by first | exact Or.inl rfl | exact Or.inr rfl) (by first | exact Or.inl rfl | exact Or.inr rfl)) (ptgs_cons (ptg_name (i := 8) sc_row_of.nd rfl (by first | exact Or.inl rfl | exact Or.inr rfl) (by first | exact Or.inl rfl | exact Or.inr rfl)) ptgs_nil))))
  (pxs_one (q_sw (psw_lc (i := 5) (own := [("t", 9)]) rfl sc_row_of.nd (qi_range1 (by rfl) T.n_range (pas_cons (pv_op od_addU (pv_op od_sub (pv_name (i := 8) rfl (by first | exact Or.inl rfl | exact Or.inr (Or.inl rfl) | exact Or.inr (Or.inr rfl))) (pv_name (i := 1) rfl (by first | exact Or.inl rfl | exact Or.inr (Or.inl rfl) | exact Or.inr (Or.inr rfl)))) q_int) qa_nil)) (blkOk_by (by rfl)) (fun _ _ _ _ _ => (ptg_name (i := 9) sc_row_of.nd rfl (by first | exact Or.inl rfl | exact Or.inr rfl) (by first | exact Or.inl rfl | exact Or.inr rfl))) (fun _ _ _ _ _ => qf_nil) (fun _ _ _ _ _ => (pv_op od_mul (q_call (ok_choose T) (hr.mono (by omega)) (by rfl) T.g_choose T.F_choose.kp T.b_choose passL (pas_cons (pv_op od_sub (pv_name (i := 8) rfl (by first | exact Or.inl rfl | exact Or.inr (Or.inl rfl) | exact Or.inr (Or.inr rfl))) (pv_name (i := 1) rfl (by first | exact Or.inl rfl | exact Or.inr (Or.inl rfl) | exact Or.inr (Or.inr rfl)))) (pas_cons (pv_name (i := 9) rfl (by first | exact Or.inl rfl | exact Or.inr (Or.inl rfl) | exact Or.inr (Or.inr rfl))) qa_nil))) (q_call (ok_choose T) (hr.mono (by omega)) (by rfl) T.g_choose T.F_choose.kp T.b_choose passL (pas_cons (pv_op od_sub (pv_op od_sub (pv_name (i := 6) rfl (by first | exact Or.inl rfl | exact Or.inr (Or.inl rfl) | exact Or.inr (Or.inr rfl))) (pv_name (i := 8) rfl (by first | exact Or.inl rfl | exact Or.inr (Or.inl rfl) | exact Or.inr (Or.inr rfl)))) (pv_name (i := 1) rfl (by first | exact Or.inl rfl | exact Or.inr (Or.inl rfl) | exact Or.inr (Or.inr rfl)))) (pas_cons (pv_name (i := 9) rfl (by first | exact Or.inl rfl | exact Or.inr (Or.inl rfl) | exact Or.inr (Or.inr rfl))) qa_nil))))) (by decide) rfl rfl (by rfl))))))
  (pxs_one (q_ret (pv_callTy cd_tuple (by rfl) T.n_tuple (by decide +kernel) (pas_cons (q_call (ok_convolved T) (hr.mono (by omega)) (by rfl) T.g_convolved T.F_convolved.kp T.b_convolved (passes_call (takes_of rfl rfl rfl rfl) fun _ _ _ _ h => h) (pas_cons (q_call (ok_signed_choices T) (hr.mono (by omega)) (by rfl) T.g_signed_choices T.F_signed_choices.kp T.b_signed_choices (passes_call (takes_of rfl rfl rfl rfl) fun _ _ _ _ h => h) (pas_cons (pv_name (i := 1) rfl (by first | exact Or.inl rfl | exact Or.inr (Or.inl rfl) | exact Or.inr (Or.inr rfl))) qa_nil)) (pas_cons (pv_name (i := 5) rfl (by first | exact Or.inl rfl | exact Or.inr (Or.inl rfl) | exact Or.inr (Or.inr rfl))) qa_nil))) qa_nil))))))))
theorem ok_rows_of (T : Tx K mg base A) : ∀ m, FnOk P w K mg base (CX P w) (83 + m) A.f_rows_of A.fd_rows_of ["tree"] (spP K (tabs A) (xcs A) 1 (F_rows_of m))
  | 0 => fn_bad
  | m + 1 => fn_pureC (k := 83 + m) T.F_rows_of sc_rows_of (fun _ _ => rfl) fun Ar outer s H B E hr =>
    have IH := ok_rows_of T m
    (qs_cons (q_if (pb_cmp (od_eq (hu64 hr)) (by rfl) (pv_ix (pv_name (i := 0) rfl (by first | exact Or.inl rfl | exact Or.inr (Or.inl rfl) | exact Or.inr (Or.inr rfl))) q_int) q_str) (pxs_one (q_ret (q_call (ok_listed_rows T) (hr.mono (by omega)) (by rfl) T.g_listed_rows T.F_listed_rows.kp T.b_listed_rows (passes_call (takes_of rfl rfl rfl rfl) fun _ _ _ _ h => h) (pas_cons (pv_name (i := 0) rfl (by first | exact Or.inl rfl | exact Or.inr (Or.inl rfl) | exact Or.inr (Or.inr rfl))) qa_nil)))) pxs_nil)
  (qs_cons (q_if (pb_cmp (od_eq (hu64 hr)) (by rfl) (pv_ix (pv_name (i := 0) rfl (by first | exact Or.inl rfl | exact Or.inr (Or.inl rfl) | exact Or.inr (Or.inr rfl))) q_int) q_str) (qs_cons (q_set (i := 1) sc_rows_of.nd rfl (q_call IH (hr.mono (by omega)) (by rfl) T.g_rows_of T.F_rows_of.kp T.b_rows_of (passes_call (takes_of rfl rfl rfl rfl) fun _ _ _ _ h => h) (pas_cons (pv_ix (pv_name (i := 0) rfl (by first | exact Or.inl rfl | exact Or.inr (Or.inl rfl) | exact Or.inr (Or.inr rfl))) q_int) qa_nil)))
  (pxs_one (q_ret (pv_of (pn_lc2 (own := [("row", 3), ("beside", 4)]) (vs1 := [4]) rfl sc_rows_of.nd (pit_seq (q_call IH (hr.mono (by omega)) (by rfl) T.g_rows_of T.F_rows_of.kp T.b_rows_of (passes_call (takes_of rfl rfl rfl rfl) fun _ _ _ _ h => h) (pas_cons (pv_ix (pv_name (i := 0) rfl (by first | exact Or.inl rfl | exact Or.inr (Or.inl rfl) | exact Or.inr (Or.inr rfl))) q_int) qa_nil))) (blkOk_by (by rfl)) (by decide) (fun _ _ _ _ _ => (ptg_name (i := 3) sc_rows_of.nd rfl (by first | exact Or.inl rfl | exact Or.inr rfl) (by first | exact Or.inl rfl | exact Or.inr rfl))) (fun _ _ _ _ _ => qf_nil) (fun _ _ _ _ _ => (pit_seq (pv_name (i := 1) rfl (by first | exact Or.inl rfl | exact Or.inr (Or.inl rfl) | exact Or.inr (Or.inr rfl))))) (fun _ _ _ _ _ => (ptg_name (i := 4) sc_rows_of.nd rfl (by first | exact Or.inl rfl | exact Or.inr rfl) (by first | exact Or.inl rfl | exact Or.inr rfl))) (fun _ _ _ _ _ => qf_nil) (fun _ _ _ _ _ => (pv_callTy cd_tuple (by rfl) T.n_tuple (by decide +kernel) (pas_cons (pv_of (pn_lc2 (own := [("first", 5), ("second", 6)]) (vs1 := [6]) rfl sc_rows_of.nd (pit_seq (pv_name (i := 3) rfl (by first | exact Or.inl rfl | exact Or.inr (Or.inl rfl) | exact Or.inr (Or.inr rfl)))) (blkOk_by (by rfl)) (by decide) (fun _ _ _ _ _ => (ptg_name (i := 5) sc_rows_of.nd rfl (by first | exact Or.inl rfl | exact Or.inr rfl) (by first | exact Or.inl rfl | exact Or.inr rfl))) (fun _ _ _ _ _ => qf_nil) (fun _ _ _ _ _ => (pit_seq (pv_name (i := 4) rfl (by first | exact Or.inl rfl | exact Or.inr (Or.inl rfl) | exact Or.inr (Or.inr rfl))))) (fun _ _ _ _ _ => (ptg_name (i := 6) sc_rows_of.nd rfl (by first | exact Or.inl rfl | exact Or.inr rfl) (by first | exact Or.inl rfl | exact Or.inr rfl))) (fun _ _ _ _ _ => qf_nil) (fun _ _ _ _ _ => (pv_op od_mul (pv_name (i := 5) rfl (by first | exact Or.inl rfl | exact Or.inr (Or.inl rfl) | exact Or.inr (Or.inr rfl))) (pv_name (i := 6) rfl (by first | exact Or.inl rfl | exact Or.inr (Or.inl rfl) | exact Or.inr (Or.inr rfl))))) (by decide) (by decide))) qa_nil))) (by decide) (by decide)))))) pxs_nil)
  (pxs_one (q_ret (pv_of (pn_lc (own := [("space", 2)]) rfl sc_rows_of.nd (qi_range1 (by rfl) T.n_range (pas_cons (q_call (ok_kinds_of T 20) (hr.mono (by omega)) (by rfl) T.g_kinds_of T.F_kinds_of.kp T.b_kinds_of (passes_call (takes_of rfl rfl rfl rfl) fun _ _ _ _ h => h) (pas_cons (pv_name (i := 0) rfl (by first | exact Or.inl rfl | exact Or.inr (Or.inl rfl) | exact Or.inr (Or.inr rfl))) qa_nil)) qa_nil)) (blkOk_by (by rfl)) (fun _ _ _ _ _ => (ptg_name (i := 2) sc_rows_of.nd rfl (by first | exact Or.inl rfl | exact Or.inr rfl) (by first | exact Or.inl rfl | exact Or.inr rfl))) (fun _ _ _ _ _ => qf_nil) (fun _ _ _ _ _ => (q_call (ok_row_of T 20) (hr.mono (by omega)) (by rfl) T.g_row_of T.F_row_of.kp T.b_row_of passL (pas_cons (pv_name (i := 0) rfl (by first | exact Or.inl rfl | exact Or.inr (Or.inl rfl) | exact Or.inr (Or.inr rfl))) (pas_cons (pv_name (i := 2) rfl (by first | exact Or.inl rfl | exact Or.inr (Or.inl rfl) | exact Or.inr (Or.inr rfl))) qa_nil)))) (by decide)))))))
theorem ok_eigenvalue (T : Tx K mg base A) : FnOk P w K mg base (CX P w) 84 A.f_eigenvalue A.fd_eigenvalue ["tree", "space", "kind"] (spP K (tabs A) (xcs A) 3 F_eigenvalue) :=
  fn_pureC (k := 83) T.F_eigenvalue sc_eigenvalue (fun _ _ => rfl) fun Ar outer s H B E hr =>
    (qs_cons (q_set (i := 3) sc_eigenvalue.nd rfl (q_call (ok_checked T) (hr.mono (by omega)) (by rfl) T.g_checked T.F_checked.kp T.b_checked (passes_call (takes_of rfl rfl rfl rfl) fun _ _ _ _ h => h) (pas_cons (pv_name (i := 0) rfl (by first | exact Or.inl rfl | exact Or.inr (Or.inl rfl) | exact Or.inr (Or.inr rfl))) qa_nil)))
  (qs_cons (q_expr (q_call (ok_require_kind T) (hr.mono (by omega)) (by rfl) T.g_require_kind T.F_require_kind.kp T.b_require_kind (passes_call (takes_of rfl rfl rfl rfl) fun _ _ _ _ h => h) (pas_cons (pv_name (i := 3) rfl (by first | exact Or.inl rfl | exact Or.inr (Or.inl rfl) | exact Or.inr (Or.inr rfl))) (pas_cons (pv_name (i := 1) rfl (by first | exact Or.inl rfl | exact Or.inr (Or.inl rfl) | exact Or.inr (Or.inr rfl))) qa_nil))))
  (qs_cons (q_expr (q_call (ok_require_kind T) (hr.mono (by omega)) (by rfl) T.g_require_kind T.F_require_kind.kp T.b_require_kind (passes_call (takes_of rfl rfl rfl rfl) fun _ _ _ _ h => h) (pas_cons (pv_name (i := 3) rfl (by first | exact Or.inl rfl | exact Or.inr (Or.inl rfl) | exact Or.inr (Or.inr rfl))) (pas_cons (pv_name (i := 2) rfl (by first | exact Or.inl rfl | exact Or.inr (Or.inl rfl) | exact Or.inr (Or.inr rfl))) qa_nil))))
  (pxs_one (q_ret (pv_ix (q_call (ok_row_of T 20) (hr.mono (by omega)) (by rfl) T.g_row_of T.F_row_of.kp T.b_row_of (passes_call (takes_of rfl rfl rfl rfl) fun _ _ _ _ h => h) (pas_cons (pv_name (i := 3) rfl (by first | exact Or.inl rfl | exact Or.inr (Or.inl rfl) | exact Or.inr (Or.inr rfl))) (pas_cons (pv_name (i := 1) rfl (by first | exact Or.inl rfl | exact Or.inr (Or.inl rfl) | exact Or.inr (Or.inr rfl))) qa_nil))) (pv_name (i := 2) rfl (by first | exact Or.inl rfl | exact Or.inr (Or.inl rfl) | exact Or.inr (Or.inr rfl)))))))))
theorem ok_require_ordered (T : Tx K mg base A) : FnOk P w K mg base (CX P w) 1 A.f_require_ordered A.fd_require_ordered ["tree"] (spP K (tabs A) (xcs A) 1 F_require_ordered) :=
  fn_pureC (k := 0) T.F_require_ordered sc_require_ordered (fun _ _ => rfl) fun Ar outer s H B E hr =>
    (pxs_one (q_if (pb_cmp od_notIn (by rfl) (pv_ix (pv_name (i := 0) rfl (by first | exact Or.inl rfl | exact Or.inr (Or.inl rfl) | exact Or.inr (Or.inr rfl))) q_int) (pv_tup (pas_cons q_str (pas_cons q_str qa_nil)))) (pxs_one (q_raise rfl (takes_of rfl rfl rfl rfl) xc_InvalidQuestion (pmk_own PySem.F.excBase_ValueError T.x_InvalidQuestion T.g_InvalidQuestion T.kp_InvalidQuestion (raises_own T.xb_InvalidQuestion T.xt_InvalidQuestion) (by rfl)))) pxs_nil))
theorem ok_require_radius (T : Tx K mg base A) : FnOk P w K mg base (CX P w) 22 A.f_require_radius A.fd_require_radius ["tree", "radius"] (spP K (tabs A) (xcs A) 2 F_require_radius) :=
  fn_pureC (k := 21) T.F_require_radius sc_require_radius (fun _ _ => rfl) fun Ar outer s H B E hr =>
    (pxs_one (q_if (pb_bo (pw_o (pb_not (pb_tru (q_call (ok_is_integer T) (hr.mono (by omega)) (by rfl) T.g_is_integer T.F_is_integer.kp T.b_is_integer (passes_call (takes_of rfl rfl rfl rfl) fun _ _ _ _ h => h) (pas_cons (pv_name (i := 1) rfl (by first | exact Or.inl rfl | exact Or.inr (Or.inl rfl) | exact Or.inr (Or.inr rfl))) qa_nil)))) (pw_o1 (pb_not (pb_chain od_le od_lt q_int (pv_name (i := 1) rfl (by first | exact Or.inl rfl | exact Or.inr (Or.inl rfl) | exact Or.inr (Or.inr rfl))) (q_call (ok_kinds_of T 20) (hr.mono (by omega)) (by rfl) T.g_kinds_of T.F_kinds_of.kp T.b_kinds_of (passes_call (takes_of rfl rfl rfl rfl) fun _ _ _ _ h => h) (pas_cons (pv_name (i := 0) rfl (by first | exact Or.inl rfl | exact Or.inr (Or.inl rfl) | exact Or.inr (Or.inr rfl))) qa_nil))))))) (pxs_one (q_raise rfl (takes_of rfl rfl rfl rfl) xc_InvalidQuestion (pmk_own PySem.F.excBase_ValueError T.x_InvalidQuestion T.g_InvalidQuestion T.kp_InvalidQuestion (raises_own T.xb_InvalidQuestion T.xt_InvalidQuestion) (by rfl)))) pxs_nil))
theorem ok_checked_with_radius (T : Tx K mg base A) : FnOk P w K mg base (CX P w) 24 A.f_checked_with_radius A.fd_checked_with_radius ["tree", "radius"] (spP K (tabs A) (xcs A) 2 F_checked_with_radius) :=
  fn_pureC (k := 23) T.F_checked_with_radius sc_checked_with_radius (fun _ _ => rfl) fun Ar outer s H B E hr =>
    (qs_cons (q_set (i := 2) sc_checked_with_radius.nd rfl (q_call (ok_checked T) (hr.mono (by omega)) (by rfl) T.g_checked T.F_checked.kp T.b_checked (passes_call (takes_of rfl rfl rfl rfl) fun _ _ _ _ h => h) (pas_cons (pv_name (i := 0) rfl (by first | exact Or.inl rfl | exact Or.inr (Or.inl rfl) | exact Or.inr (Or.inr rfl))) qa_nil)))
  (qs_cons (q_expr (q_call (ok_require_ordered T) (hr.mono (by omega)) (by rfl) T.g_require_ordered T.F_require_ordered.kp T.b_require_ordered (passes_call (takes_of rfl rfl rfl rfl) fun _ _ _ _ h => h) (pas_cons (pv_name (i := 2) rfl (by first | exact Or.inl rfl | exact Or.inr (Or.inl rfl) | exact Or.inr (Or.inr rfl))) qa_nil)))
  (qs_cons (q_expr (q_call (ok_require_radius T) (hr.mono (by omega)) (by rfl) T.g_require_radius T.F_require_radius.kp T.b_require_radius (passes_call (takes_of rfl rfl rfl rfl) fun _ _ _ _ h => h) (pas_cons (pv_name (i := 2) rfl (by first | exact Or.inl rfl | exact Or.inr (Or.inl rfl) | exact Or.inr (Or.inr rfl))) (pas_cons (pv_name (i := 1) rfl (by first | exact Or.inl rfl | exact Or.inr (Or.inl rfl) | exact Or.inr (Or.inr rfl))) qa_nil))))
  (pxs_one (q_ret (pv_name (i := 2) rfl (by first | exact Or.inl rfl | exact Or.inr (Or.inl rfl) | exact Or.inr (Or.inr rfl))))))))
theorem ok_ball_of (T : Tx K mg base A) : FnOk P w K mg base (CX P w) 42 A.f_ball_of A.fd_ball_of ["tree", "radius"] (spP K (tabs A) (xcs A) 2 F_ball_of) :=
  fn_pureC (k := 41) T.F_ball_of sc_ball_of (fun _ _ => rfl) fun Ar outer s H B E hr =>
    (pxs_one (q_ret (pv_callB (cd_sumL rfl) (by rfl) T.n_sum (by decide +kernel) (pas_cons (pv_sl (q_call (ok_part_valencies T 20) (hr.mono (by omega)) (by rfl) T.g_part_valencies T.F_part_valencies.kp T.b_part_valencies (passes_call (takes_of rfl rfl rfl rfl) fun _ _ _ _ h => h) (pas_cons (pv_name (i := 0) rfl (by first | exact Or.inl rfl | exact Or.inr (Or.inl rfl) | exact Or.inr (Or.inr rfl))) qa_nil)) qq_no (pq_yes (pv_op od_addU (pv_name (i := 1) rfl (by first | exact Or.inl rfl | exact Or.inr (Or.inl rfl) | exact Or.inr (Or.inr rfl))) q_int))) qa_nil))))
theorem ok_zeros_of (T : Tx K mg base A) : FnOk P w K mg base (CX P w) 104 A.f_zeros_of A.fd_zeros_of ["tree", "radius"] (spP K (tabs A) (xcs A) 2 F_zeros_of) :=
  fn_pureC (k := 103) T.F_zeros_of sc_zeros_of (fun _ _ => rfl) fun Ar outer s H B E hr =>
    (pxs_one (q_ret (pv_of (pn_lc (own := [("space", 2), ("row", 3)]) rfl sc_zeros_of.nd (qi_enumA (by rfl) T.n_enumerate (pas_cons (q_call (ok_rows_of T 20) (hr.mono (by omega)) (by rfl) T.g_rows_of T.F_rows_of.kp T.b_rows_of (passes_call (takes_of rfl rfl rfl rfl) fun _ _ _ _ h => h) (pas_cons (pv_name (i := 0) rfl (by first | exact Or.inl rfl | exact Or.inr (Or.inl rfl) | exact Or.inr (Or.inr rfl))) qa_nil)) qa_nil)) (blkOk_by (by rfl)) (fun _ _ _ _ _ => (ptg_tup rfl (ptgs_cons (ptg_name (i := 2) sc_zeros_of.nd rfl (by first | exact Or.inl rfl | exact Or.inr rfl) (by first | exact Or.inl rfl | exact Or.inr rfl)) (ptgs_cons (ptg_name (i := 3) sc_zeros_of.nd rfl (by first | exact Or.inl rfl | exact Or.inr rfl) (by first | exact Or.inl rfl | exact Or.inr rfl)) ptgs_nil)))) (fun _ _ _ _ _ => (pif_one (pb_cmp (od_eq (hu64 hr)) (by rfl) (pv_callB (cd_sumL rfl) (by rfl) T.n_sum (by decide +kernel) (pas_cons (pv_sl (pv_name (i := 3) rfl (by first | exact Or.inl rfl | exact Or.inr (Or.inl rfl) | exact Or.inr (Or.inr rfl))) qq_no (pq_yes (pv_op od_addU (pv_name (i := 1) rfl (by first | exact Or.inl rfl | exact Or.inr (Or.inl rfl) | exact Or.inr (Or.inr rfl))) q_int))) qa_nil)) q_int))) (fun _ _ _ _ _ => (pv_name (i := 2) rfl (by first | exact Or.inl rfl | exact Or.inr (Or.inl rfl) | exact Or.inr (Or.inr rfl)))) (by decide)))))
theorem ok_ball_size (T : Tx K mg base A) : FnOk P w K mg base (CX P w) 43 A.f_ball_size A.fd_ball_size ["tree", "radius"] (spP K (tabs A) (xcs A) 2 F_ball_size) :=
  fn_pureC (k := 42) T.F_ball_size sc_ball_size (fun _ _ => rfl) fun Ar outer s H B E hr =>
    (pxs_one (q_ret (q_call (ok_ball_of T) (hr.mono (by omega)) (by rfl) T.g_ball_of T.F_ball_of.kp T.b_ball_of (passes_call (takes_of rfl rfl rfl rfl) fun _ _ _ _ h => h) (pas_cons (q_call (ok_checked_with_radius T) (hr.mono (by omega)) (by rfl) T.g_checked_with_radius T.F_checked_with_radius.kp T.b_checked_with_radius (passes_call (takes_of rfl rfl rfl rfl) fun _ _ _ _ h => h) (pas_cons (pv_name (i := 0) rfl (by first | exact Or.inl rfl | exact Or.inr (Or.inl rfl) | exact Or.inr (Or.inr rfl))) (pas_cons (pv_name (i := 1) rfl (by first | exact Or.inl rfl | exact Or.inr (Or.inl rfl) | exact Or.inr (Or.inr rfl))) qa_nil))) (pas_cons (pv_name (i := 1) rfl (by first | exact Or.inl rfl | exact Or.inr (Or.inl rfl) | exact Or.inr (Or.inr rfl))) qa_nil)))))
theorem ok_ball_divides (T : Tx K mg base A) : FnOk P w K mg base (CX P w) 43 A.f_ball_divides A.fd_ball_divides ["tree", "radius"] (spP K (tabs A) (xcs A) 2 F_ball_divides) :=
  fn_pureC (k := 42) T.F_ball_divides sc_ball_divides (fun _ _ => rfl) fun Ar outer s H B E hr =>
    (qs_cons (q_set (i := 2) sc_ball_divides.nd rfl (q_call (ok_checked_with_radius T) (hr.mono (by omega)) (by rfl) T.g_checked_with_radius T.F_checked_with_radius.kp T.b_checked_with_radius (passes_call (takes_of rfl rfl rfl rfl) fun _ _ _ _ h => h) (pas_cons (pv_name (i := 0) rfl (by first | exact Or.inl rfl | exact Or.inr (Or.inl rfl) | exact Or.inr (Or.inr rfl))) (pas_cons (pv_name (i := 1) rfl (by first | exact Or.inl rfl | exact Or.inr (Or.inl rfl) | exact Or.inr (Or.inr rfl))) qa_nil))))
  (pxs_one (q_ret (pv_cmp (od_eq (hu64 hr)) (by rfl) (pv_op od_mod (q_call (ok_points_of T 20) (hr.mono (by omega)) (by rfl) T.g_points_of T.F_points_of.kp T.b_points_of (passes_call (takes_of rfl rfl rfl rfl) fun _ _ _ _ h => h) (pas_cons (pv_name (i := 2) rfl (by first | exact Or.inl rfl | exact Or.inr (Or.inl rfl) | exact Or.inr (Or.inr rfl))) qa_nil)) (q_call (ok_ball_of T) (hr.mono (by omega)) (by rfl) T.g_ball_of T.F_ball_of.kp T.b_ball_of (passes_call (takes_of rfl rfl rfl rfl) fun _ _ _ _ h => h) (pas_cons (pv_name (i := 2) rfl (by first | exact Or.inl rfl | exact Or.inr (Or.inl rfl) | exact Or.inr (Or.inr rfl))) (pas_cons (pv_name (i := 1) rfl (by first | exact Or.inl rfl | exact Or.inr (Or.inl rfl) | exact Or.inr (Or.inr rfl))) qa_nil)))) q_int))))
theorem ok_ball_zeros (T : Tx K mg base A) : FnOk P w K mg base (CX P w) 105 A.f_ball_zeros A.fd_ball_zeros ["tree", "radius"] (spP K (tabs A) (xcs A) 2 F_ball_zeros) :=
  fn_pureC (k := 104) T.F_ball_zeros sc_ball_zeros (fun _ _ => rfl) fun Ar outer s H B E hr =>
    (pxs_one (q_ret (q_call (ok_zeros_of T) (hr.mono (by omega)) (by rfl) T.g_zeros_of T.F_zeros_of.kp T.b_zeros_of (passes_call (takes_of rfl rfl rfl rfl) fun _ _ _ _ h => h) (pas_cons (q_call (ok_checked_with_radius T) (hr.mono (by omega)) (by rfl) T.g_checked_with_radius T.F_checked_with_radius.kp T.b_checked_with_radius (passes_call (takes_of rfl rfl rfl rfl) fun _ _ _ _ h => h) (pas_cons (pv_name (i := 0) rfl (by first | exact Or.inl rfl | exact Or.inr (Or.inl rfl) | exact Or.inr (Or.inr rfl))) (pas_cons (pv_name (i := 1) rfl (by first | exact Or.inl rfl | exact Or.inr (Or.inl rfl) | exact Or.inr (Or.inr rfl))) qa_nil))) (pas_cons (pv_name (i := 1) rfl (by first | exact Or.inl rfl | exact Or.inr (Or.inl rfl) | exact Or.inr (Or.inr rfl))) qa_nil)))))
theorem ok_can_be_perfect (T : Tx K mg base A) : FnOk P w K mg base (CX P w) 105 A.f_can_be_perfect A.fd_can_be_perfect ["tree", "radius"] (spP K (tabs A) (xcs A) 2 F_can_be_perfect) :=
  fn_pureC (k := 104) T.F_can_be_perfect sc_can_be_perfect (fun _ _ => rfl) fun Ar outer s H B E hr =>
    (qs_cons (q_set (i := 2) sc_can_be_perfect.nd rfl (q_call (ok_checked_with_radius T) (hr.mono (by omega)) (by rfl) T.g_checked_with_radius T.F_checked_with_radius.kp T.b_checked_with_radius (passes_call (takes_of rfl rfl rfl rfl) fun _ _ _ _ h => h) (pas_cons (pv_name (i := 0) rfl (by first | exact Or.inl rfl | exact Or.inr (Or.inl rfl) | exact Or.inr (Or.inr rfl))) (pas_cons (pv_name (i := 1) rfl (by first | exact Or.inl rfl | exact Or.inr (Or.inl rfl) | exact Or.inr (Or.inr rfl))) qa_nil))))
  (pxs_one (q_ret (pv_and (pv_cmp (od_eq (hu64 hr)) (by rfl) (pv_op od_mod (q_call (ok_points_of T 20) (hr.mono (by omega)) (by rfl) T.g_points_of T.F_points_of.kp T.b_points_of (passes_call (takes_of rfl rfl rfl rfl) fun _ _ _ _ h => h) (pas_cons (pv_name (i := 2) rfl (by first | exact Or.inl rfl | exact Or.inr (Or.inl rfl) | exact Or.inr (Or.inr rfl))) qa_nil)) (q_call (ok_ball_of T) (hr.mono (by omega)) (by rfl) T.g_ball_of T.F_ball_of.kp T.b_ball_of (passes_call (takes_of rfl rfl rfl rfl) fun _ _ _ _ h => h) (pas_cons (pv_name (i := 2) rfl (by first | exact Or.inl rfl | exact Or.inr (Or.inl rfl) | exact Or.inr (Or.inr rfl))) (pas_cons (pv_name (i := 1) rfl (by first | exact Or.inl rfl | exact Or.inr (Or.inl rfl) | exact Or.inr (Or.inr rfl))) qa_nil)))) q_int) (pv_one (pv_cmp od_ge (by rfl) (pv_callB cd_len (by rfl) T.n_len (by decide +kernel) (pas_cons (q_call (ok_zeros_of T) (hr.mono (by omega)) (by rfl) T.g_zeros_of T.F_zeros_of.kp T.b_zeros_of (passes_call (takes_of rfl rfl rfl rfl) fun _ _ _ _ h => h) (pas_cons (pv_name (i := 2) rfl (by first | exact Or.inl rfl | exact Or.inr (Or.inl rfl) | exact Or.inr (Or.inr rfl))) (pas_cons (pv_name (i := 1) rfl (by first | exact Or.inl rfl | exact Or.inr (Or.inl rfl) | exact Or.inr (Or.inr rfl))) qa_nil))) qa_nil)) (pv_name (i := 1) rfl (by first | exact Or.inl rfl | exact Or.inr (Or.inl rfl) | exact Or.inr (Or.inr rfl)))))))))
theorem ok__law_row (T : Tx K mg base A) : FnOk P w K mg base (CX P w) 1 A.f__law_row A.fd__law_row ["cell", "many"] (spP K (tabs A) (xcs A) 2 F__law_row) :=
  fn_pureC (k := 0) T.F__law_row sc__law_row (fun _ _ => rfl) fun Ar outer s H B E hr =>
    (qs_cons (q_setO (i := 2) sc__law_row.nd rfl (pn_lst qa_nil))
  (qs_cons (q_set (i := 3) sc__law_row.nd rfl (pv_callB cd_abs (by rfl) T.n_abs (by decide +kernel) (pas_cons (pv_name (i := 0) rfl (by first | exact Or.inl rfl | exact Or.inr (Or.inl rfl) | exact Or.inr (Or.inr rfl))) qa_nil)))
  (qs_cons (q_set (i := 4) sc__law_row.nd rfl (pv_op od_mod (pv_callTy cd_int (by rfl) T.n_int (by decide +kernel) (pas_cons (pv_op od_addU (pv_op od_mul (pv_name (i := 3) rfl (by first | exact Or.inl rfl | exact Or.inr (Or.inl rfl) | exact Or.inr (Or.inr rfl))) q_int) q_int) qa_nil)) q_int))
  (qs_cons (q_for (passes_of rfl) rfl (qi_range1 (by rfl) T.n_range (pas_cons (pv_name (i := 1) rfl (by first | exact Or.inl rfl | exact Or.inr (Or.inl rfl) | exact Or.inr (Or.inr rfl))) qa_nil)) (ptg_name (i := 5) sc__law_row.nd rfl (by first | exact Or.inl rfl | exact Or.inr rfl) (by first | exact Or.inl rfl | exact Or.inr rfl)) (qs_cons (q_set (i := 4) sc__law_row.nd rfl (pv_op od_mod (pv_callTy cd_int (by rfl) T.n_int (by decide +kernel) (pas_cons (pv_op od_addU (pv_op od_mul (pv_name (i := 4) rfl (by first | exact Or.inl rfl | exact Or.inr (Or.inl rfl) | exact Or.inr (Or.inr rfl))) q_int) (pv_op od_mul q_int (pv_op od_addU (pv_name (i := 5) rfl (by first | exact Or.inl rfl | exact Or.inr (Or.inl rfl) | exact Or.inr (Or.inr rfl))) q_int))) qa_nil)) q_int))
  (pxs_one (q_if (pb_cmp od_ge (by rfl) (pv_callB cd_abs (by rfl) T.n_abs (by decide +kernel) (pas_cons (pv_name (i := 0) rfl (by first | exact Or.inl rfl | exact Or.inr (Or.inl rfl) | exact Or.inr (Or.inr rfl))) qa_nil)) (pv_op od_pow q_int q_int)) (qs_cons (q_expr (pv_app (i := 2) rfl (by first | exact Or.inl rfl | exact Or.inr (Or.inl rfl) | exact Or.inr (Or.inr rfl)) (pv_op od_mod (pv_callTy cd_int (by rfl) T.n_int (by decide +kernel) (pas_cons (pv_name (i := 3) rfl (by first | exact Or.inl rfl | exact Or.inr (Or.inl rfl) | exact Or.inr (Or.inr rfl))) qa_nil)) q_int)))
  (pxs_one (q_set (i := 3) sc__law_row.nd rfl (pv_op od_fdv (pv_name (i := 3) rfl (by first | exact Or.inl rfl | exact Or.inr (Or.inl rfl) | exact Or.inr (Or.inr rfl))) q_int)))) (pxs_one (q_expr (pv_app (i := 2) rfl (by first | exact Or.inl rfl | exact Or.inr (Or.inl rfl) | exact Or.inr (Or.inr rfl)) (pv_op od_mod (pv_callTy cd_int (by rfl) T.n_int (by decide +kernel) (pas_cons (pv_op od_fdv (pv_name (i := 4) rfl (by first | exact Or.inl rfl | exact Or.inr (Or.inl rfl) | exact Or.inr (Or.inr rfl))) q_int) qa_nil)) q_int))))))))
  (pxs_one (q_ret (pv_name (i := 2) rfl (by first | exact Or.inl rfl | exact Or.inr (Or.inl rfl) | exact Or.inr (Or.inr rfl)))))))))
theorem ok__law_numbers (T : Tx K mg base A) : FnOk P w K mg base (CX P w) 2 A.f__law_numbers A.fd__law_numbers ["script", "many"] (spP K (tabs A) (xcs A) 2 F__law_numbers) :=
  fn_pureC (k := 1) T.F__law_numbers sc__law_numbers (fun _ _ => rfl) fun Ar outer s H B E hr =>
    (qs_cons (q_set (i := 2) sc__law_numbers.nd rfl (pv_sl (pv_name (i := 0) rfl (by first | exact Or.inl rfl | exact Or.inr (Or.inl rfl) | exact Or.inr (Or.inr rfl))) qq_no (pq_yes q_int)))
  (qs_cons (q_set (i := 3) sc__law_numbers.nd rfl (pv_op od_addU q_int (pv_op od_fdv (pv_name (i := 1) rfl (by first | exact Or.inl rfl | exact Or.inr (Or.inl rfl) | exact Or.inr (Or.inr rfl))) (pv_callB (cd_max2 rfl) (by rfl) T.n_max (by decide +kernel) (pas_cons q_int (pas_cons (pv_callB cd_len (by rfl) T.n_len (by decide +kernel) (pas_cons (pv_name (i := 2) rfl (by first | exact Or.inl rfl | exact Or.inr (Or.inl rfl) | exact Or.inr (Or.inr rfl))) qa_nil)) qa_nil))))))
  (qs_cons (q_setO (i := 4) sc__law_numbers.nd rfl (pn_lst qa_nil))
  (qs_cons (q_for (passes_of rfl) rfl (pit_seq (pv_name (i := 2) rfl (by first | exact Or.inl rfl | exact Or.inr (Or.inl rfl) | exact Or.inr (Or.inr rfl)))) (ptg_name (i := 5) sc__law_numbers.nd rfl (by first | exact Or.inl rfl | exact Or.inr rfl) (by first | exact Or.inl rfl | exact Or.inr rfl)) (pxs_one (q_for (passes_of rfl) rfl (pit_seq (q_call (ok__law_row T) (hr.mono (by omega)) (by rfl) T.g__law_row T.F__law_row.kp T.b__law_row (passes_call (takes_of rfl rfl rfl rfl) fun _ _ _ _ h => h) (pas_cons (pv_name (i := 5) rfl (by first | exact Or.inl rfl | exact Or.inr (Or.inl rfl) | exact Or.inr (Or.inr rfl))) (pas_cons (pv_name (i := 3) rfl (by first | exact Or.inl rfl | exact Or.inr (Or.inl rfl) | exact Or.inr (Or.inr rfl))) qa_nil)))) (ptg_name (i := 6) sc__law_numbers.nd rfl (by first | exact Or.inl rfl | exact Or.inr rfl) (by first | exact Or.inl rfl | exact Or.inr rfl)) (pxs_one (q_expr (pv_app (i := 4) rfl (by first | exact Or.inl rfl | exact Or.inr (Or.inl rfl) | exact Or.inr (Or.inr rfl)) (pv_name (i := 6) rfl (by first | exact Or.inl rfl | exact Or.inr (Or.inl rfl) | exact Or.inr (Or.inr rfl)))))))))
  (qs_cons (px_while fuel (passes_of rfl) (pb_cmp od_lt (by rfl) (pv_lenN (i := 4) rfl (by first | exact Or.inl rfl | exact Or.inr (Or.inl rfl) | exact Or.inr (Or.inr rfl)) (by rfl) T.n_len) (pv_name (i := 1) rfl (by first | exact Or.inl rfl | exact Or.inr (Or.inl rfl) | exact Or.inr (Or.inr rfl)))) (pxs_one (q_expr (pv_app (i := 4) rfl (by first | exact Or.inl rfl | exact Or.inr (Or.inl rfl) | exact Or.inr (Or.inr rfl)) q_int))))
  (pxs_one (q_ret (pv_sl (pv_name (i := 4) rfl (by first | exact Or.inl rfl | exact Or.inr (Or.inl rfl) | exact Or.inr (Or.inr rfl))) qq_no (pq_yes (pv_name (i := 1) rfl (by first | exact Or.inl rfl | exact Or.inr (Or.inl rfl) | exact Or.inr (Or.inr rfl))))))))))))
theorem ok__law_pick (T : Tx K mg base A) : FnOk P w K mg base (CX P w) 1 A.f__law_pick A.fd__law_pick ["numbers", "at", "most"] (spP K (tabs A) (xcs A) 3 F__law_pick) :=
  fn_pureC (k := 0) T.F__law_pick sc__law_pick (fun _ _ => rfl) fun Ar outer s H B E hr =>
    (pxs_one (q_ret (pv_op od_mod (pv_callTy cd_int (by rfl) T.n_int (by decide +kernel) (pas_cons (pv_ix (pv_name (i := 0) rfl (by first | exact Or.inl rfl | exact Or.inr (Or.inl rfl) | exact Or.inr (Or.inr rfl))) (pv_name (i := 1) rfl (by first | exact Or.inl rfl | exact Or.inr (Or.inl rfl) | exact Or.inr (Or.inr rfl)))) qa_nil)) (pv_name (i := 2) rfl (by first | exact Or.inl rfl | exact Or.inr (Or.inl rfl) | exact Or.inr (Or.inr rfl))))))
theorem ok__law_choose (T : Tx K mg base A) : FnOk P w K mg base (CX P w) 1 A.f__law_choose A.fd__law_choose ["n", "k"] (spP K (tabs A) (xcs A) 2 F__law_choose) :=
  fn_pureC (k := 0) T.F__law_choose sc__law_choose (fun _ _ => rfl) fun Ar outer s H B E hr =>
    (qs_cons (q_if (pb_bo (pw_o (pb_cmp od_lt (by rfl) (pv_name (i := 1) rfl (by first | exact Or.inl rfl | exact Or.inr (Or.inl rfl) | exact Or.inr (Or.inr rfl))) q_int) (pw_o1 (pb_cmp od_gt (by rfl) (pv_name (i := 1) rfl (by first | exact Or.inl rfl | exact Or.inr (Or.inl rfl) | exact Or.inr (Or.inr rfl))) (pv_name (i := 0) rfl (by first | exact Or.inl rfl | exact Or.inr (Or.inl rfl) | exact Or.inr (Or.inr rfl))))))) (pxs_one (q_ret q_int)) pxs_nil)
  (qs_cons (q_set (i := 2) sc__law_choose.nd rfl q_int)
  (qs_cons (q_for (passes_of rfl) rfl (qi_range1 (by rfl) T.n_range (pas_cons (pv_name (i := 1) rfl (by first | exact Or.inl rfl | exact Or.inr (Or.inl rfl) | exact Or.inr (Or.inr rfl))) qa_nil)) (ptg_name (i := 3) sc__law_choose.nd rfl (by first | exact Or.inl rfl | exact Or.inr rfl) (by first | exact Or.inl rfl | exact Or.inr rfl)) (pxs_one (q_set (i := 2) sc__law_choose.nd rfl (pv_callTy cd_int (by rfl) T.n_int (by decide +kernel) (pas_cons (pv_op od_fdv (pv_op od_mul (pv_name (i := 2) rfl (by first | exact Or.inl rfl | exact Or.inr (Or.inl rfl) | exact Or.inr (Or.inr rfl))) (pv_op od_sub (pv_name (i := 0) rfl (by first | exact Or.inl rfl | exact Or.inr (Or.inl rfl) | exact Or.inr (Or.inr rfl))) (pv_name (i := 3) rfl (by first | exact Or.inl rfl | exact Or.inr (Or.inl rfl) | exact Or.inr (Or.inr rfl))))) (pv_op od_addU (pv_name (i := 3) rfl (by first | exact Or.inl rfl | exact Or.inr (Or.inl rfl) | exact Or.inr (Or.inr rfl))) q_int)) qa_nil)))))
  (pxs_one (q_ret (pv_name (i := 2) rfl (by first | exact Or.inl rfl | exact Or.inr (Or.inl rfl) | exact Or.inr (Or.inr rfl))))))))
theorem ok__law_sets (T : Tx K mg base A) : FnOk P w K mg base (CX P w) 1 A.f__law_sets A.fd__law_sets ["n", "k"] (spP K (tabs A) (xcs A) 2 F__law_sets) :=
  fn_pureC (k := 0) T.F__law_sets sc__law_sets (fun _ _ => rfl) fun Ar outer s H B E hr =>
    (qs_cons (q_set (i := 2) sc__law_sets.nd rfl (pv_of (pn_lst (pas_cons (pv_tup qa_nil) qa_nil))))
  (qs_cons (q_for (passes_of rfl) rfl (qi_range1 (by rfl) T.n_range (pas_cons (pv_name (i := 1) rfl (by first | exact Or.inl rfl | exact Or.inr (Or.inl rfl) | exact Or.inr (Or.inr rfl))) qa_nil)) (ptg_name (i := 3) sc__law_sets.nd rfl (by first | exact Or.inl rfl | exact Or.inr rfl) (by first | exact Or.inl rfl | exact Or.inr rfl)) (qs_cons (q_setO (i := 4) sc__law_sets.nd rfl (pn_lst qa_nil))
  (qs_cons (q_for (passes_of rfl) rfl (pit_seq (pv_name (i := 2) rfl (by first | exact Or.inl rfl | exact Or.inr (Or.inl rfl) | exact Or.inr (Or.inr rfl)))) (ptg_name (i := 5) sc__law_sets.nd rfl (by first | exact Or.inl rfl | exact Or.inr rfl) (by first | exact Or.inl rfl | exact Or.inr rfl)) (pxs_one (q_for (passes_of rfl) rfl (qi_range2 (by rfl) T.n_range (pas_cons (pv_if (pb_cmp od_gt (by rfl) (pv_callB cd_len (by rfl) T.n_len (by decide +kernel) (pas_cons (pv_name (i := 5) rfl (by first | exact Or.inl rfl | exact Or.inr (Or.inl rfl) | exact Or.inr (Or.inr rfl))) qa_nil)) q_int) (pv_op od_addU (pv_callTy cd_int (by rfl) T.n_int (by decide +kernel) (pas_cons (pv_ix (pv_name (i := 5) rfl (by first | exact Or.inl rfl | exact Or.inr (Or.inl rfl) | exact Or.inr (Or.inr rfl))) (pv_neg q_int)) qa_nil)) q_int) q_int) (pas_cons (pv_name (i := 0) rfl (by first | exact Or.inl rfl | exact Or.inr (Or.inl rfl) | exact Or.inr (Or.inr rfl))) qa_nil))) (ptg_name (i := 6) sc__law_sets.nd rfl (by first | exact Or.inl rfl | exact Or.inr rfl) (by first | exact Or.inl rfl | exact Or.inr rfl)) (pxs_one (q_expr (pv_app (i := 4) rfl (by first | exact Or.inl rfl | exact Or.inr (Or.inl rfl) | exact Or.inr (Or.inr rfl)) (pv_op od_catT (pv_name (i := 5) rfl (by first | exact Or.inl rfl | exact Or.inr (Or.inl rfl) | exact Or.inr (Or.inr rfl))) (pv_tup (pas_cons (pv_name (i := 6) rfl (by first | exact Or.inl rfl | exact Or.inr (Or.inl rfl) | exact Or.inr (Or.inr rfl))) qa_nil)))))))))
  (pxs_one (q_set (i := 2) sc__law_sets.nd rfl (pv_name (i := 4) rfl (by first | exact Or.inl rfl | exact Or.inr (Or.inl rfl) | exact Or.inr (Or.inr rfl))))))))
  (pxs_one (q_ret (pv_name (i := 2) rfl (by first | exact Or.inl rfl | exact Or.inr (Or.inl rfl) | exact Or.inr (Or.inr rfl)))))))
theorem ok__law_kinds (T : Tx K mg base A) : ∀ m, FnOk P w K mg base (CX P w) (1 + m) A.f__law_kinds A.fd__law_kinds ["tree"] (spP K (tabs A) (xcs A) 1 (F__law_kinds m))
  | 0 => fn_bad
  | m + 1 => fn_pureC (k := 1 + m) T.F__law_kinds sc__law_kinds (fun _ _ => rfl) fun Ar outer s H B E hr =>
    have IH := ok__law_kinds T m
    (qs_cons (q_if (pb_cmp (od_eq (hu64 hr)) (by rfl) (pv_ix (pv_name (i := 0) rfl (by first | exact Or.inl rfl | exact Or.inr (Or.inl rfl) | exact Or.inr (Or.inr rfl))) q_int) q_str) (pxs_one (q_ret (pv_of (pn_lc (own := [("row", 11)]) rfl sc__law_kinds.nd (pit_seq (pv_ix (pv_name (i := 0) rfl (by first | exact Or.inl rfl | exact Or.inr (Or.inl rfl) | exact Or.inr (Or.inr rfl))) q_int)) (blkOk_by (by rfl)) (fun _ _ _ _ _ => (ptg_name (i := 11) sc__law_kinds.nd rfl (by first | exact Or.inl rfl | exact Or.inr rfl) (by first | exact Or.inl rfl | exact Or.inr rfl))) (fun _ _ _ _ _ => qf_nil) (fun _ _ _ _ _ => (pv_of (pn_list (by rfl) T.n_list (by decide +kernel) (pas_cons (pv_name (i := 11) rfl (by first | exact Or.inl rfl | exact Or.inr (Or.inl rfl) | exact Or.inr (Or.inr rfl))) qa_nil)))) (by decide))))) pxs_nil)
  (qs_cons (q_if (pb_cmp (od_eq (hu64 hr)) (by rfl) (pv_ix (pv_name (i := 0) rfl (by first | exact Or.inl rfl | exact Or.inr (Or.inl rfl) | exact Or.inr (Or.inr rfl))) q_int) q_str) (qs_cons (q_set (i := 6) sc__law_kinds.nd rfl (pv_of (pn_lst (pas_cons (pv_tup qa_nil) qa_nil))))
  (qs_cons (q_for (passes_of rfl) rfl (qi_range1 (by rfl) T.n_range (pas_cons (pv_ix (pv_name (i := 0) rfl (by first | exact Or.inl rfl | exact Or.inr (Or.inl rfl) | exact Or.inr (Or.inr rfl))) q_int) qa_nil)) (ptg_name (i := 7) sc__law_kinds.nd rfl (by first | exact Or.inl rfl | exact Or.inr rfl) (by first | exact Or.inl rfl | exact Or.inr rfl)) (qs_cons (q_set (i := 8) sc__law_kinds.nd rfl (pv_of (pn_lst qa_nil)))
  (qs_cons (q_for (passes_of rfl) rfl (pit_seq (pv_name (i := 6) rfl (by first | exact Or.inl rfl | exact Or.inr (Or.inl rfl) | exact Or.inr (Or.inr rfl)))) (ptg_name (i := 9) sc__law_kinds.nd rfl (by first | exact Or.inl rfl | exact Or.inr rfl) (by first | exact Or.inl rfl | exact Or.inr rfl)) (pxs_one (q_set (i := 8) sc__law_kinds.nd rfl (pv_of (pn_op on_cat (pv_name (i := 8) rfl (by first | exact Or.inl rfl | exact Or.inr (Or.inl rfl) | exact Or.inr (Or.inr rfl))) (pv_of (pn_lc (own := [("k", 14)]) rfl sc__law_kinds.nd (qi_range1 (by rfl) T.n_range (pas_cons (pv_ix (pv_name (i := 0) rfl (by first | exact Or.inl rfl | exact Or.inr (Or.inl rfl) | exact Or.inr (Or.inr rfl))) q_int) qa_nil)) (blkOk_by (by rfl)) (fun _ _ _ _ _ => (ptg_name (i := 14) sc__law_kinds.nd rfl (by first | exact Or.inl rfl | exact Or.inr rfl) (by first | exact Or.inl rfl | exact Or.inr rfl))) (fun _ _ _ _ _ => qf_nil) (fun _ _ _ _ _ => (pv_op od_catT (pv_name (i := 9) rfl (by first | exact Or.inl rfl | exact Or.inr (Or.inl rfl) | exact Or.inr (Or.inr rfl))) (pv_tup (pas_cons (pv_name (i := 14) rfl (by first | exact Or.inl rfl | exact Or.inr (Or.inl rfl) | exact Or.inr (Or.inr rfl))) qa_nil)))) (by decide))))))))
  (pxs_one (q_set (i := 6) sc__law_kinds.nd rfl (pv_name (i := 8) rfl (by first | exact Or.inl rfl | exact Or.inr (Or.inl rfl) | exact Or.inr (Or.inr rfl))))))))
  (pxs_one (q_ret (pv_of (pn_lc (own := [("one", 9)]) rfl sc__law_kinds.nd (pit_seq (pv_name (i := 6) rfl (by first | exact Or.inl rfl | exact Or.inr (Or.inl rfl) | exact Or.inr (Or.inr rfl)))) (blkOk_by (by rfl)) (fun _ _ _ _ _ => (ptg_name (i := 9) sc__law_kinds.nd rfl (by first | exact Or.inl rfl | exact Or.inr rfl) (by first | exact Or.inl rfl | exact Or.inr rfl))) (fun _ _ _ _ _ => qf_nil) (fun _ _ _ _ _ => (pv_of (pn_lc (own := [("other", 13)]) rfl sc__law_kinds.nd (pit_seq (pv_name (i := 6) rfl (by first | exact Or.inl rfl | exact Or.inr (Or.inl rfl) | exact Or.inr (Or.inr rfl)))) (blkOk_by (by rfl)) (fun _ _ _ _ _ => (ptg_name (i := 13) sc__law_kinds.nd rfl (by first | exact Or.inl rfl | exact Or.inr rfl) (by first | exact Or.inl rfl | exact Or.inr rfl))) (fun _ _ _ _ _ => qf_nil) (fun _ _ _ _ _ => (pv_callB (cd_sumL rfl) (by rfl) T.n_sum (by decide +kernel) (pas_cons (pv_of (pn_lc (own := [("k", 14)]) rfl sc__law_kinds.nd (qi_range1 (by rfl) T.n_range (pas_cons (pv_ix (pv_name (i := 0) rfl (by first | exact Or.inl rfl | exact Or.inr (Or.inl rfl) | exact Or.inr (Or.inr rfl))) q_int) qa_nil)) (blkOk_by (by rfl)) (fun _ _ _ _ _ => (ptg_name (i := 14) sc__law_kinds.nd rfl (by first | exact Or.inl rfl | exact Or.inr rfl) (by first | exact Or.inl rfl | exact Or.inr rfl))) (fun _ _ _ _ _ => qf_nil) (fun _ _ _ _ _ => (pv_callTy cd_int (by rfl) T.n_int (by decide +kernel) (pas_cons (pv_cmp (od_ne (hu64 hr)) (by rfl) (pv_ix (pv_name (i := 9) rfl (by first | exact Or.inl rfl | exact Or.inr (Or.inl rfl) | exact Or.inr (Or.inr rfl))) (pv_name (i := 14) rfl (by first | exact Or.inl rfl | exact Or.inr (Or.inl rfl) | exact Or.inr (Or.inr rfl)))) (pv_ix (pv_name (i := 13) rfl (by first | exact Or.inl rfl | exact Or.inr (Or.inl rfl) | exact Or.inr (Or.inr rfl))) (pv_name (i := 14) rfl (by first | exact Or.inl rfl | exact Or.inr (Or.inl rfl) | exact Or.inr (Or.inr rfl))))) qa_nil))) (by decide))) qa_nil))) (by decide)))) (by decide))))))) pxs_nil)
  (qs_cons (q_if (pb_cmp (od_eq (hu64 hr)) (by rfl) (pv_ix (pv_name (i := 0) rfl (by first | exact Or.inl rfl | exact Or.inr (Or.inl rfl) | exact Or.inr (Or.inr rfl))) q_int) q_str) (qs_cons (q_set (i := 6) sc__law_kinds.nd rfl (q_call (ok__law_sets T) (hr.mono (by omega)) (by rfl) T.g__law_sets T.F__law_sets.kp T.b__law_sets (passes_call (takes_of rfl rfl rfl rfl) fun _ _ _ _ h => h) (pas_cons (pv_ix (pv_name (i := 0) rfl (by first | exact Or.inl rfl | exact Or.inr (Or.inl rfl) | exact Or.inr (Or.inr rfl))) q_int) (pas_cons (pv_ix (pv_name (i := 0) rfl (by first | exact Or.inl rfl | exact Or.inr (Or.inl rfl) | exact Or.inr (Or.inr rfl))) q_int) qa_nil))))
  (pxs_one (q_ret (pv_of (pn_lc (own := [("one", 9)]) rfl sc__law_kinds.nd (pit_seq (pv_name (i := 6) rfl (by first | exact Or.inl rfl | exact Or.inr (Or.inl rfl) | exact Or.inr (Or.inr rfl)))) (blkOk_by (by rfl)) (fun _ _ _ _ _ => (ptg_name (i := 9) sc__law_kinds.nd rfl (by first | exact Or.inl rfl | exact Or.inr rfl) (by first | exact Or.inl rfl | exact Or.inr rfl))) (fun _ _ _ _ _ => qf_nil) (fun _ _ _ _ _ => (pv_of (pn_lc (own := [("other", 13)]) rfl sc__law_kinds.nd (pit_seq (pv_name (i := 6) rfl (by first | exact Or.inl rfl | exact Or.inr (Or.inl rfl) | exact Or.inr (Or.inr rfl)))) (blkOk_by (by rfl)) (fun _ _ _ _ _ => (ptg_name (i := 13) sc__law_kinds.nd rfl (by first | exact Or.inl rfl | exact Or.inr rfl) (by first | exact Or.inl rfl | exact Or.inr rfl))) (fun _ _ _ _ _ => qf_nil) (fun _ _ _ _ _ => (pv_op od_sub (pv_ix (pv_name (i := 0) rfl (by first | exact Or.inl rfl | exact Or.inr (Or.inl rfl) | exact Or.inr (Or.inr rfl))) q_int) (pv_callB cd_len (by rfl) T.n_len (by decide +kernel) (pas_cons (pv_of (pn_lc (own := [("x", 15)]) rfl sc__law_kinds.nd (pit_seq (pv_name (i := 9) rfl (by first | exact Or.inl rfl | exact Or.inr (Or.inl rfl) | exact Or.inr (Or.inr rfl)))) (blkOk_by (by rfl)) (fun _ _ _ _ _ => (ptg_name (i := 15) sc__law_kinds.nd rfl (by first | exact Or.inl rfl | exact Or.inr rfl) (by first | exact Or.inl rfl | exact Or.inr rfl))) (fun _ _ _ _ _ => (pif_one (pb_cmp od_in (by rfl) (pv_name (i := 15) rfl (by first | exact Or.inl rfl | exact Or.inr (Or.inl rfl) | exact Or.inr (Or.inr rfl))) (pv_name (i := 13) rfl (by first | exact Or.inl rfl | exact Or.inr (Or.inl rfl) | exact Or.inr (Or.inr rfl)))))) (fun _ _ _ _ _ => (pv_name (i := 15) rfl (by first | exact Or.inl rfl | exact Or.inr (Or.inl rfl) | exact Or.inr (Or.inr rfl)))) (by decide))) qa_nil)))) (by decide)))) (by decide)))))) pxs_nil)
  (qs_cons (q_set (i := 1) sc__law_kinds.nd rfl (q_call IH (hr.mono (by omega)) (by rfl) T.g__law_kinds T.F__law_kinds.kp T.b__law_kinds (passes_call (takes_of rfl rfl rfl rfl) fun _ _ _ _ h => h) (pas_cons (pv_ix (pv_name (i := 0) rfl (by first | exact Or.inl rfl | exact Or.inr (Or.inl rfl) | exact Or.inr (Or.inr rfl))) q_int) qa_nil)))
  (qs_cons (q_set (i := 2) sc__law_kinds.nd rfl (q_call IH (hr.mono (by omega)) (by rfl) T.g__law_kinds T.F__law_kinds.kp T.b__law_kinds (passes_call (takes_of rfl rfl rfl rfl) fun _ _ _ _ h => h) (pas_cons (pv_ix (pv_name (i := 0) rfl (by first | exact Or.inl rfl | exact Or.inr (Or.inl rfl) | exact Or.inr (Or.inr rfl))) q_int) qa_nil)))
  (qs_cons (q_set (i := 3) sc__law_kinds.nd rfl (pv_callB cd_len (by rfl) T.n_len (by decide +kernel) (pas_cons (pv_name (i := 2) rfl (by first | exact Or.inl rfl | exact Or.inr (Or.inl rfl) | exact Or.inr (Or.inr rfl))) qa_nil)))
  (qs_cons (q_set (i := 4) sc__law_kinds.nd rfl (pv_op od_addU (pv_callB (cd_maxS rfl (hu64 hr)) (by rfl) T.n_max (by decide +kernel) (pas_cons (pv_of (pn_lc (own := [("row", 11)]) rfl sc__law_kinds.nd (pit_seq (pv_name (i := 2) rfl (by first | exact Or.inl rfl | exact Or.inr (Or.inl rfl) | exact Or.inr (Or.inr rfl)))) (blkOk_by (by rfl)) (fun _ _ _ _ _ => (ptg_name (i := 11) sc__law_kinds.nd rfl (by first | exact Or.inl rfl | exact Or.inr rfl) (by first | exact Or.inl rfl | exact Or.inr rfl))) (fun _ _ _ _ _ => qf_nil) (fun _ _ _ _ _ => (pv_callB (cd_maxS rfl (hu64 hr)) (by rfl) T.n_max (by decide +kernel) (pas_cons (pv_name (i := 11) rfl (by first | exact Or.inl rfl | exact Or.inr (Or.inl rfl) | exact Or.inr (Or.inr rfl))) qa_nil))) (by decide))) qa_nil)) q_int))
  (qs_cons (q_set (i := 5) sc__law_kinds.nd rfl (pv_op od_mul (pv_callB cd_len (by rfl) T.n_len (by decide +kernel) (pas_cons (pv_name (i := 1) rfl (by first | exact Or.inl rfl | exact Or.inr (Or.inl rfl) | exact Or.inr (Or.inr rfl))) qa_nil)) (pv_name (i := 3) rfl (by first | exact Or.inl rfl | exact Or.inr (Or.inl rfl) | exact Or.inr (Or.inr rfl)))))
  (pxs_one (q_ret (pv_of (pn_lc (own := [("r", 10)]) rfl sc__law_kinds.nd (qi_range1 (by rfl) T.n_range (pas_cons (pv_name (i := 5) rfl (by first | exact Or.inl rfl | exact Or.inr (Or.inl rfl) | exact Or.inr (Or.inr rfl))) qa_nil)) (blkOk_by (by rfl)) (fun _ _ _ _ _ => (ptg_name (i := 10) sc__law_kinds.nd rfl (by first | exact Or.inl rfl | exact Or.inr rfl) (by first | exact Or.inl rfl | exact Or.inr rfl))) (fun _ _ _ _ _ => qf_nil) (fun _ _ _ _ _ => (pv_of (pn_lc (own := [("c", 12)]) rfl sc__law_kinds.nd (qi_range1 (by rfl) T.n_range (pas_cons (pv_name (i := 5) rfl (by first | exact Or.inl rfl | exact Or.inr (Or.inl rfl) | exact Or.inr (Or.inr rfl))) qa_nil)) (blkOk_by (by rfl)) (fun _ _ _ _ _ => (ptg_name (i := 12) sc__law_kinds.nd rfl (by first | exact Or.inl rfl | exact Or.inr rfl) (by first | exact Or.inl rfl | exact Or.inr rfl))) (fun _ _ _ _ _ => qf_nil) (fun _ _ _ _ _ => (pv_op od_addU (pv_op od_mul (pv_ix (pv_ix (pv_name (i := 1) rfl (by first | exact Or.inl rfl | exact Or.inr (Or.inl rfl) | exact Or.inr (Or.inr rfl))) (pv_callTy cd_int (by rfl) T.n_int (by decide +kernel) (pas_cons (pv_op od_fdv (pv_name (i := 10) rfl (by first | exact Or.inl rfl | exact Or.inr (Or.inl rfl) | exact Or.inr (Or.inr rfl))) (pv_name (i := 3) rfl (by first | exact Or.inl rfl | exact Or.inr (Or.inl rfl) | exact Or.inr (Or.inr rfl)))) qa_nil))) (pv_callTy cd_int (by rfl) T.n_int (by decide +kernel) (pas_cons (pv_op od_fdv (pv_name (i := 12) rfl (by first | exact Or.inl rfl | exact Or.inr (Or.inl rfl) | exact Or.inr (Or.inr rfl))) (pv_name (i := 3) rfl (by first | exact Or.inl rfl | exact Or.inr (Or.inl rfl) | exact Or.inr (Or.inr rfl)))) qa_nil))) (pv_name (i := 4) rfl (by first | exact Or.inl rfl | exact Or.inr (Or.inl rfl) | exact Or.inr (Or.inr rfl)))) (pv_ix (pv_ix (pv_name (i := 2) rfl (by first | exact Or.inl rfl | exact Or.inr (Or.inl rfl) | exact Or.inr (Or.inr rfl))) (pv_op od_mod (pv_callTy cd_int (by rfl) T.n_int (by decide +kernel) (pas_cons (pv_name (i := 10) rfl (by first | exact Or.inl rfl | exact Or.inr (Or.inl rfl) | exact Or.inr (Or.inr rfl))) qa_nil)) (pv_name (i := 3) rfl (by first | exact Or.inl rfl | exact Or.inr (Or.inl rfl) | exact Or.inr (Or.inr rfl))))) (pv_op od_mod (pv_callTy cd_int (by rfl) T.n_int (by decide +kernel) (pas_cons (pv_name (i := 12) rfl (by first | exact Or.inl rfl | exact Or.inr (Or.inl rfl) | exact Or.inr (Or.inr rfl))) qa_nil)) (pv_name (i := 3) rfl (by first | exact Or.inl rfl | exact Or.inr (Or.inl rfl) | exact Or.inr (Or.inr rfl))))))) (by decide)))) (by decide)))))))))))))
theorem ok__law_metric (T : Tx K mg base A) : FnOk P w K mg base (CX P w) 2 A.f__law_metric A.fd__law_metric ["numbers", "at"] (spP K (tabs A) (xcs A) 2 F__law_metric) :=
  fn_pureC (k := 1) T.F__law_metric sc__law_metric (fun _ _ => rfl) fun Ar outer s H B E hr =>
    (qs_cons (q_set (i := 2) sc__law_metric.nd rfl (q_call (ok__law_pick T) (hr.mono (by omega)) (by rfl) T.g__law_pick T.F__law_pick.kp T.b__law_pick (passes_call (takes_of rfl rfl rfl rfl) fun _ _ _ _ h => h) (pas_cons (pv_name (i := 0) rfl (by first | exact Or.inl rfl | exact Or.inr (Or.inl rfl) | exact Or.inr (Or.inr rfl))) (pas_cons (pv_name (i := 1) rfl (by first | exact Or.inl rfl | exact Or.inr (Or.inl rfl) | exact Or.inr (Or.inr rfl))) (pas_cons q_int qa_nil)))))
  (qs_cons (q_if (pb_cmp od_lt (by rfl) (pv_name (i := 2) rfl (by first | exact Or.inl rfl | exact Or.inr (Or.inl rfl) | exact Or.inr (Or.inr rfl))) q_int) (pxs_one (q_ret (pv_tup (pas_cons q_str (pas_cons (pv_op od_addU q_int (q_call (ok__law_pick T) (hr.mono (by omega)) (by rfl) T.g__law_pick T.F__law_pick.kp T.b__law_pick (passes_call (takes_of rfl rfl rfl rfl) fun _ _ _ _ h => h) (pas_cons (pv_name (i := 0) rfl (by first | exact Or.inl rfl | exact Or.inr (Or.inl rfl) | exact Or.inr (Or.inr rfl))) (pas_cons (pv_op od_addU (pv_name (i := 1) rfl (by first | exact Or.inl rfl | exact Or.inr (Or.inl rfl) | exact Or.inr (Or.inr rfl))) q_int) (pas_cons q_int qa_nil))))) (pas_cons (pv_op od_addU q_int (q_call (ok__law_pick T) (hr.mono (by omega)) (by rfl) T.g__law_pick T.F__law_pick.kp T.b__law_pick (passes_call (takes_of rfl rfl rfl rfl) fun _ _ _ _ h => h) (pas_cons (pv_name (i := 0) rfl (by first | exact Or.inl rfl | exact Or.inr (Or.inl rfl) | exact Or.inr (Or.inr rfl))) (pas_cons (pv_op od_addU (pv_name (i := 1) rfl (by first | exact Or.inl rfl | exact Or.inr (Or.inl rfl) | exact Or.inr (Or.inr rfl))) q_int) (pas_cons q_int qa_nil))))) qa_nil)))))) pxs_nil)
  (qs_cons (q_if (pb_cmp (od_eq (hu64 hr)) (by rfl) (pv_name (i := 2) rfl (by first | exact Or.inl rfl | exact Or.inr (Or.inl rfl) | exact Or.inr (Or.inr rfl))) q_int) (pxs_one (q_ret (pv_tup (pas_cons q_str (pas_cons (pv_op od_addU q_int (q_call (ok__law_pick T) (hr.mono (by omega)) (by rfl) T.g__law_pick T.F__law_pick.kp T.b__law_pick (passes_call (takes_of rfl rfl rfl rfl) fun _ _ _ _ h => h) (pas_cons (pv_name (i := 0) rfl (by first | exact Or.inl rfl | exact Or.inr (Or.inl rfl) | exact Or.inr (Or.inr rfl))) (pas_cons (pv_op od_addU (pv_name (i := 1) rfl (by first | exact Or.inl rfl | exact Or.inr (Or.inl rfl) | exact Or.inr (Or.inr rfl))) q_int) (pas_cons q_int qa_nil))))) (pas_cons q_int qa_nil)))))) pxs_nil)
  (qs_cons (q_if (pb_cmp (od_eq (hu64 hr)) (by rfl) (pv_name (i := 2) rfl (by first | exact Or.inl rfl | exact Or.inr (Or.inl rfl) | exact Or.inr (Or.inr rfl))) q_int) (pxs_one (q_ret (pv_tup (pas_cons q_str (pas_cons (pv_op od_addU q_int (q_call (ok__law_pick T) (hr.mono (by omega)) (by rfl) T.g__law_pick T.F__law_pick.kp T.b__law_pick (passes_call (takes_of rfl rfl rfl rfl) fun _ _ _ _ h => h) (pas_cons (pv_name (i := 0) rfl (by first | exact Or.inl rfl | exact Or.inr (Or.inl rfl) | exact Or.inr (Or.inr rfl))) (pas_cons (pv_op od_addU (pv_name (i := 1) rfl (by first | exact Or.inl rfl | exact Or.inr (Or.inl rfl) | exact Or.inr (Or.inr rfl))) q_int) (pas_cons q_int qa_nil))))) (pas_cons q_int qa_nil)))))) pxs_nil)
  (qs_cons (q_if (pb_cmp (od_eq (hu64 hr)) (by rfl) (pv_name (i := 2) rfl (by first | exact Or.inl rfl | exact Or.inr (Or.inl rfl) | exact Or.inr (Or.inr rfl))) q_int) (pxs_one (q_ret (pv_tup (pas_cons q_str (pas_cons (pv_op od_addU q_int (q_call (ok__law_pick T) (hr.mono (by omega)) (by rfl) T.g__law_pick T.F__law_pick.kp T.b__law_pick (passes_call (takes_of rfl rfl rfl rfl) fun _ _ _ _ h => h) (pas_cons (pv_name (i := 0) rfl (by first | exact Or.inl rfl | exact Or.inr (Or.inl rfl) | exact Or.inr (Or.inr rfl))) (pas_cons (pv_op od_addU (pv_name (i := 1) rfl (by first | exact Or.inl rfl | exact Or.inr (Or.inl rfl) | exact Or.inr (Or.inr rfl))) q_int) (pas_cons q_int qa_nil))))) (pas_cons q_int qa_nil)))))) pxs_nil)
  (pxs_one (q_ret (pv_tup (pas_cons q_str (pas_cons q_int (pas_cons q_int qa_nil)))))))))))
theorem ok__law_size_of (T : Tx K mg base A) : FnOk P w K mg base (CX P w) 2 A.f__law_size_of A.fd__law_size_of ["tree", "radius"] (spP K (tabs A) (xcs A) 2 F__law_size_of) :=
  fn_pureC (k := 1) T.F__law_size_of sc__law_size_of (fun _ _ => rfl) fun Ar outer s H B E hr =>
    (qs_cons (q_set (i := 2) sc__law_size_of.nd rfl q_int)
  (qs_cons (q_set (i := 3) sc__law_size_of.nd rfl q_int)
  (qs_cons (q_for (passes_of rfl) rfl (qi_range1 (by rfl) T.n_range (pas_cons (pv_op od_addU (pv_name (i := 1) rfl (by first | exact Or.inl rfl | exact Or.inr (Or.inl rfl) | exact Or.inr (Or.inr rfl))) q_int) qa_nil)) (ptg_name (i := 4) sc__law_size_of.nd rfl (by first | exact Or.inl rfl | exact Or.inr rfl) (by first | exact Or.inl rfl | exact Or.inr rfl)) (pxs_one (q_if (pb_cmp (od_eq (hu64 hr)) (by rfl) (pv_ix (pv_name (i := 0) rfl (by first | exact Or.inl rfl | exact Or.inr (Or.inl rfl) | exact Or.inr (Or.inr rfl))) q_int) q_str) (qs_cons (q_set (i := 2) sc__law_size_of.nd rfl (pv_op od_addU (pv_name (i := 2) rfl (by first | exact Or.inl rfl | exact Or.inr (Or.inl rfl) | exact Or.inr (Or.inr rfl))) (pv_op od_mul (q_call (ok__law_choose T) (hr.mono (by omega)) (by rfl) T.g__law_choose T.F__law_choose.kp T.b__law_choose (passes_call (takes_of rfl rfl rfl rfl) fun _ _ _ _ h => h) (pas_cons (pv_ix (pv_name (i := 0) rfl (by first | exact Or.inl rfl | exact Or.inr (Or.inl rfl) | exact Or.inr (Or.inr rfl))) q_int) (pas_cons (pv_name (i := 4) rfl (by first | exact Or.inl rfl | exact Or.inr (Or.inl rfl) | exact Or.inr (Or.inr rfl))) qa_nil))) (pv_name (i := 3) rfl (by first | exact Or.inl rfl | exact Or.inr (Or.inl rfl) | exact Or.inr (Or.inr rfl))))))
  (pxs_one (q_set (i := 3) sc__law_size_of.nd rfl (pv_op od_mul (pv_name (i := 3) rfl (by first | exact Or.inl rfl | exact Or.inr (Or.inl rfl) | exact Or.inr (Or.inr rfl))) (pv_op od_sub (pv_ix (pv_name (i := 0) rfl (by first | exact Or.inl rfl | exact Or.inr (Or.inl rfl) | exact Or.inr (Or.inr rfl))) q_int) q_int))))) (pxs_one (q_set (i := 2) sc__law_size_of.nd rfl (pv_op od_addU (pv_name (i := 2) rfl (by first | exact Or.inl rfl | exact Or.inr (Or.inl rfl) | exact Or.inr (Or.inr rfl))) (pv_op od_mul (q_call (ok__law_choose T) (hr.mono (by omega)) (by rfl) T.g__law_choose T.F__law_choose.kp T.b__law_choose (passes_call (takes_of rfl rfl rfl rfl) fun _ _ _ _ h => h) (pas_cons (pv_ix (pv_name (i := 0) rfl (by first | exact Or.inl rfl | exact Or.inr (Or.inl rfl) | exact Or.inr (Or.inr rfl))) q_int) (pas_cons (pv_name (i := 4) rfl (by first | exact Or.inl rfl | exact Or.inr (Or.inl rfl) | exact Or.inr (Or.inr rfl))) qa_nil))) (q_call (ok__law_choose T) (hr.mono (by omega)) (by rfl) T.g__law_choose T.F__law_choose.kp T.b__law_choose (passes_call (takes_of rfl rfl rfl rfl) fun _ _ _ _ h => h) (pas_cons (pv_op od_sub (pv_ix (pv_name (i := 0) rfl (by first | exact Or.inl rfl | exact Or.inr (Or.inl rfl) | exact Or.inr (Or.inr rfl))) q_int) (pv_ix (pv_name (i := 0) rfl (by first | exact Or.inl rfl | exact Or.inr (Or.inl rfl) | exact Or.inr (Or.inr rfl))) q_int)) (pas_cons (pv_name (i := 4) rfl (by first | exact Or.inl rfl | exact Or.inr (Or.inl rfl) | exact Or.inr (Or.inr rfl))) qa_nil))))))))))
  (pxs_one (q_ret (pv_name (i := 2) rfl (by first | exact Or.inl rfl | exact Or.inr (Or.inl rfl) | exact Or.inr (Or.inr rfl))))))))
theorem ok__law_points (T : Tx K mg base A) : FnOk P w K mg base (CX P w) 2 A.f__law_points A.fd__law_points ["tree"] (spP K (tabs A) (xcs A) 1 F__law_points) :=
  fn_pureC (k := 1) T.F__law_points sc__law_points (fun _ _ => rfl) fun Ar outer s H B E hr =>
    (qs_cons (q_if (pb_cmp (od_eq (hu64 hr)) (by rfl) (pv_ix (pv_name (i := 0) rfl (by first | exact Or.inl rfl | exact Or.inr (Or.inl rfl) | exact Or.inr (Or.inr rfl))) q_int) q_str) (pxs_one (q_ret (q_call (ok__law_choose T) (hr.mono (by omega)) (by rfl) T.g__law_choose T.F__law_choose.kp T.b__law_choose (passes_call (takes_of rfl rfl rfl rfl) fun _ _ _ _ h => h) (pas_cons (pv_ix (pv_name (i := 0) rfl (by first | exact Or.inl rfl | exact Or.inr (Or.inl rfl) | exact Or.inr (Or.inr rfl))) q_int) (pas_cons (pv_ix (pv_name (i := 0) rfl (by first | exact Or.inl rfl | exact Or.inr (Or.inl rfl) | exact Or.inr (Or.inr rfl))) q_int) qa_nil))))) pxs_nil)
  (qs_cons (q_set (i := 1) sc__law_points.nd rfl q_int)
  (qs_cons (q_for (passes_of rfl) rfl (qi_range1 (by rfl) T.n_range (pas_cons (pv_ix (pv_name (i := 0) rfl (by first | exact Or.inl rfl | exact Or.inr (Or.inl rfl) | exact Or.inr (Or.inr rfl))) q_int) qa_nil)) (ptg_name (i := 2) sc__law_points.nd rfl (by first | exact Or.inl rfl | exact Or.inr rfl) (by first | exact Or.inl rfl | exact Or.inr rfl)) (pxs_one (q_set (i := 1) sc__law_points.nd rfl (pv_op od_mul (pv_name (i := 1) rfl (by first | exact Or.inl rfl | exact Or.inr (Or.inl rfl) | exact Or.inr (Or.inr rfl))) (pv_ix (pv_name (i := 0) rfl (by first | exact Or.inl rfl | exact Or.inr (Or.inl rfl) | exact Or.inr (Or.inr rfl))) q_int)))))
  (pxs_one (q_ret (pv_name (i := 1) rfl (by first | exact Or.inl rfl | exact Or.inr (Or.inl rfl) | exact Or.inr (Or.inr rfl))))))))
theorem run_law (T : Tx K mg base A) {s : Shared} {H : Hp} {args : Args} {us : List Value} {vs : List V} {Q : VK} {E : XK} (room : Room 106 callerA) (e0 : Env0 P w K mg base callerA [] s H) (bt : BindsTo s A.fd_law args ((["script"] : List Str).zip us)) (rv : Vals vs us)
    (sp : spP K (tabs A) (xcs A) 1 F_law vs H Q E) : codeAny (model P w) callerA (.call (.ref A.f_law) args) (CR (CX P w) [] P w H s Q E) s :=
  law_run (k := 105) T.F_law sc_law (fun _ _ => rfl) room e0 bt rv sp fun B hr =>
    (qs_cons (q_set (i := 1) sc_law.nd rfl (q_call (ok__law_numbers T) (hr.mono (by omega)) (by rfl) T.g__law_numbers T.F__law_numbers.kp T.b__law_numbers (passes_call (takes_of rfl rfl rfl rfl) fun _ _ _ _ h => h) (pas_cons (pv_name (i := 0) rfl (by first | exact Or.inl rfl | exact Or.inr (Or.inl rfl) | exact Or.inr (Or.inr rfl))) (pas_cons q_int qa_nil))))
  (qs_cons (q_set (i := 2) sc_law.nd rfl (q_call (ok__law_metric T) (hr.mono (by omega)) (by rfl) T.g__law_metric T.F__law_metric.kp T.b__law_metric (passes_call (takes_of rfl rfl rfl rfl) fun _ _ _ _ h => h) (pas_cons (pv_name (i := 1) rfl (by first | exact Or.inl rfl | exact Or.inr (Or.inl rfl) | exact Or.inr (Or.inr rfl))) (pas_cons q_int qa_nil))))
  (qs_cons (q_set (i := 3) sc_law.nd rfl (pv_cmp (od_eq (hu64 hr)) (by rfl) (q_call (ok__law_pick T) (hr.mono (by omega)) (by rfl) T.g__law_pick T.F__law_pick.kp T.b__law_pick (passes_call (takes_of rfl rfl rfl rfl) fun _ _ _ _ h => h) (pas_cons (pv_name (i := 1) rfl (by first | exact Or.inl rfl | exact Or.inr (Or.inl rfl) | exact Or.inr (Or.inr rfl))) (pas_cons q_int (pas_cons q_int qa_nil)))) q_int))
  (qs_cons (q_if (pb_tru (pv_name (i := 3) rfl (by first | exact Or.inl rfl | exact Or.inr (Or.inl rfl) | exact Or.inr (Or.inr rfl)))) (qs_cons (q_set (i := 11) sc_law.nd rfl (pv_op od_addU q_int (q_call (ok__law_pick T) (hr.mono (by omega)) (by rfl) T.g__law_pick T.F__law_pick.kp T.b__law_pick (passes_call (takes_of rfl rfl rfl rfl) fun _ _ _ _ h => h) (pas_cons (pv_name (i := 1) rfl (by first | exact Or.inl rfl | exact Or.inr (Or.inl rfl) | exact Or.inr (Or.inr rfl))) (pas_cons q_int (pas_cons q_int qa_nil))))))
  (pxs_one (q_set (i := 2) sc_law.nd rfl (pv_ix (pv_of (pn_lst (pas_cons (pv_tup (pas_cons q_str (pas_cons (pv_name (i := 11) rfl (by first | exact Or.inl rfl | exact Or.inr (Or.inl rfl) | exact Or.inr (Or.inr rfl))) (pas_cons (pv_op od_addU q_int (q_call (ok__law_pick T) (hr.mono (by omega)) (by rfl) T.g__law_pick T.F__law_pick.kp T.b__law_pick (passes_call (takes_of rfl rfl rfl rfl) fun _ _ _ _ h => h) (pas_cons (pv_name (i := 1) rfl (by first | exact Or.inl rfl | exact Or.inr (Or.inl rfl) | exact Or.inr (Or.inr rfl))) (pas_cons q_int (pas_cons q_int qa_nil))))) qa_nil)))) (pas_cons (pv_tup (pas_cons q_str (pas_cons (pv_op od_mul q_int (pv_name (i := 11) rfl (by first | exact Or.inl rfl | exact Or.inr (Or.inl rfl) | exact Or.inr (Or.inr rfl)))) (pas_cons (pv_op od_addU q_int (q_call (ok__law_pick T) (hr.mono (by omega)) (by rfl) T.g__law_pick T.F__law_pick.kp T.b__law_pick (passes_call (takes_of rfl rfl rfl rfl) fun _ _ _ _ h => h) (pas_cons (pv_name (i := 1) rfl (by first | exact Or.inl rfl | exact Or.inr (Or.inl rfl) | exact Or.inr (Or.inr rfl))) (pas_cons q_int (pas_cons (pv_name (i := 11) rfl (by first | exact Or.inl rfl | exact Or.inr (Or.inl rfl) | exact Or.inr (Or.inr rfl))) qa_nil))))) qa_nil)))) qa_nil)))) (q_call (ok__law_pick T) (hr.mono (by omega)) (by rfl) T.g__law_pick T.F__law_pick.kp T.b__law_pick (passes_call (takes_of rfl rfl rfl rfl) fun _ _ _ _ h => h) (pas_cons (pv_name (i := 1) rfl (by first | exact Or.inl rfl | exact Or.inr (Or.inl rfl) | exact Or.inr (Or.inr rfl))) (pas_cons q_int (pas_cons q_int qa_nil)))))))) pxs_nil)
  (qs_cons (q_set (i := 4) sc_law.nd rfl (pv_ix (pv_of (pn_lst (pas_cons (pv_ix (pv_name (i := 2) rfl (by first | exact Or.inl rfl | exact Or.inr (Or.inl rfl) | exact Or.inr (Or.inr rfl))) q_int) (pas_cons (pv_ix (pv_name (i := 2) rfl (by first | exact Or.inl rfl | exact Or.inr (Or.inl rfl) | exact Or.inr (Or.inr rfl))) q_int) qa_nil)))) (pv_callTy cd_int (by rfl) T.n_int (by decide +kernel) (pas_cons (pv_cmp (od_eq (hu64 hr)) (by rfl) (pv_ix (pv_name (i := 2) rfl (by first | exact Or.inl rfl | exact Or.inr (Or.inl rfl) | exact Or.inr (Or.inr rfl))) q_int) q_str) qa_nil))))
  (qs_cons (q_set (i := 5) sc_law.nd rfl (q_call (ok__law_pick T) (hr.mono (by omega)) (by rfl) T.g__law_pick T.F__law_pick.kp T.b__law_pick (passes_call (takes_of rfl rfl rfl rfl) fun _ _ _ _ h => h) (pas_cons (pv_name (i := 1) rfl (by first | exact Or.inl rfl | exact Or.inr (Or.inl rfl) | exact Or.inr (Or.inr rfl))) (pas_cons q_int (pas_cons (pv_op od_addU (pv_name (i := 4) rfl (by first | exact Or.inl rfl | exact Or.inr (Or.inl rfl) | exact Or.inr (Or.inr rfl))) q_int) qa_nil)))))
  (qs_cons (q_if (pb_bo (pw_a (pb_tru (pv_name (i := 3) rfl (by first | exact Or.inl rfl | exact Or.inr (Or.inl rfl) | exact Or.inr (Or.inr rfl)))) (pw_a1 (pb_cmp (od_eq (hu64 hr)) (by rfl) (q_call (ok__law_pick T) (hr.mono (by omega)) (by rfl) T.g__law_pick T.F__law_pick.kp T.b__law_pick (passes_call (takes_of rfl rfl rfl rfl) fun _ _ _ _ h => h) (pas_cons (pv_name (i := 1) rfl (by first | exact Or.inl rfl | exact Or.inr (Or.inl rfl) | exact Or.inr (Or.inr rfl))) (pas_cons q_int (pas_cons q_int qa_nil)))) q_int)))) (qs_cons (q_set (i := 2) sc_law.nd rfl (pv_tup (pas_cons q_str (pas_cons q_int (pas_cons q_int qa_nil)))))
  (qs_cons (q_set (i := 4) sc_law.nd rfl q_int)
  (pxs_one (q_set (i := 5) sc_law.nd rfl q_int)))) pxs_nil)
  (qs_cons (q_set (i := 6) sc_law.nd rfl (q_call (ok__law_size_of T) (hr.mono (by omega)) (by rfl) T.g__law_size_of T.F__law_size_of.kp T.b__law_size_of (passes_call (takes_of rfl rfl rfl rfl) fun _ _ _ _ h => h) (pas_cons (pv_name (i := 2) rfl (by first | exact Or.inl rfl | exact Or.inr (Or.inl rfl) | exact Or.inr (Or.inr rfl))) (pas_cons (pv_name (i := 5) rfl (by first | exact Or.inl rfl | exact Or.inr (Or.inl rfl) | exact Or.inr (Or.inr rfl))) qa_nil))))
  (qs_cons (q_if (pb_bo (pw_a (pb_not (pb_tru (pv_name (i := 3) rfl (by first | exact Or.inl rfl | exact Or.inr (Or.inl rfl) | exact Or.inr (Or.inr rfl))))) (pw_a1 (pb_cmp (od_ne (hu64 hr)) (by rfl) (pv_name (i := 6) rfl (by first | exact Or.inl rfl | exact Or.inr (Or.inl rfl) | exact Or.inr (Or.inr rfl))) (pv_callB cd_len (by rfl) T.n_len (by decide +kernel) (pas_cons (pv_of (pn_lc (own := [("kind", 13)]) rfl sc_law.nd (pit_seq (pv_ix (q_call (ok__law_kinds T 20) (hr.mono (by omega)) (by rfl) T.g__law_kinds T.F__law_kinds.kp T.b__law_kinds (passes_call (takes_of rfl rfl rfl rfl) fun _ _ _ _ h => h) (pas_cons (pv_name (i := 2) rfl (by first | exact Or.inl rfl | exact Or.inr (Or.inl rfl) | exact Or.inr (Or.inr rfl))) qa_nil)) q_int)) (blkOk_by (by rfl)) (fun _ _ _ _ _ => (ptg_name (i := 13) sc_law.nd rfl (by first | exact Or.inl rfl | exact Or.inr rfl) (by first | exact Or.inl rfl | exact Or.inr rfl))) (fun _ _ _ _ _ => (pif_one (pb_cmp od_le (by rfl) (pv_name (i := 13) rfl (by first | exact Or.inl rfl | exact Or.inr (Or.inl rfl) | exact Or.inr (Or.inr rfl))) (pv_name (i := 5) rfl (by first | exact Or.inl rfl | exact Or.inr (Or.inl rfl) | exact Or.inr (Or.inr rfl)))))) (fun _ _ _ _ _ => (pv_name (i := 13) rfl (by first | exact Or.inl rfl | exact Or.inr (Or.inl rfl) | exact Or.inr (Or.inr rfl)))) (by decide))) qa_nil)))))) (pxs_one (q_ret q_bl)) pxs_nil)
  (qs_cons (q_if (pb_cmp (od_ne (hu64 hr)) (by rfl) (q_call (ok_ball_size T) (hr.mono (by omega)) (by rfl) T.g_ball_size T.F_ball_size.kp T.b_ball_size (passes_call (takes_of rfl rfl rfl rfl) fun _ _ _ _ h => h) (pas_cons (pv_name (i := 2) rfl (by first | exact Or.inl rfl | exact Or.inr (Or.inl rfl) | exact Or.inr (Or.inr rfl))) (pas_cons (pv_name (i := 5) rfl (by first | exact Or.inl rfl | exact Or.inr (Or.inl rfl) | exact Or.inr (Or.inr rfl))) qa_nil))) (pv_name (i := 6) rfl (by first | exact Or.inl rfl | exact Or.inr (Or.inl rfl) | exact Or.inr (Or.inr rfl)))) (pxs_one (q_ret q_bl)) pxs_nil)
  (qs_cons (q_set (i := 7) sc_law.nd rfl (pv_cmp (od_eq (hu64 hr)) (by rfl) (pv_op od_mod (pv_callTy cd_int (by rfl) T.n_int (by decide +kernel) (pas_cons (q_call (ok__law_points T) (hr.mono (by omega)) (by rfl) T.g__law_points T.F__law_points.kp T.b__law_points (passes_call (takes_of rfl rfl rfl rfl) fun _ _ _ _ h => h) (pas_cons (pv_name (i := 2) rfl (by first | exact Or.inl rfl | exact Or.inr (Or.inl rfl) | exact Or.inr (Or.inr rfl))) qa_nil)) qa_nil)) (pv_name (i := 6) rfl (by first | exact Or.inl rfl | exact Or.inr (Or.inl rfl) | exact Or.inr (Or.inr rfl)))) q_int))
  (qs_cons (q_set (i := 8) sc_law.nd rfl (q_call (ok_ball_divides T) (hr.mono (by omega)) (by rfl) T.g_ball_divides T.F_ball_divides.kp T.b_ball_divides (passes_call (takes_of rfl rfl rfl rfl) fun _ _ _ _ h => h) (pas_cons (pv_name (i := 2) rfl (by first | exact Or.inl rfl | exact Or.inr (Or.inl rfl) | exact Or.inr (Or.inr rfl))) (pas_cons (pv_name (i := 5) rfl (by first | exact Or.inl rfl | exact Or.inr (Or.inl rfl) | exact Or.inr (Or.inr rfl))) qa_nil))))
  (qs_cons (q_if (pb_bo (pw_o (pb_not (pb_tru (pv_isi (by rfl) T.n_isinstance (pv_name (i := 8) rfl (by first | exact Or.inl rfl | exact Or.inr (Or.inl rfl) | exact Or.inr (Or.inr rfl))) (by rfl) T.n_bool (by decide +kernel) (by decide)))) (pw_o1 (pb_cmp (od_ne (hu64 hr)) (by rfl) (pv_name (i := 8) rfl (by first | exact Or.inl rfl | exact Or.inr (Or.inl rfl) | exact Or.inr (Or.inr rfl))) (pv_name (i := 7) rfl (by first | exact Or.inl rfl | exact Or.inr (Or.inl rfl) | exact Or.inr (Or.inr rfl))))))) (pxs_one (q_ret q_bl)) pxs_nil)
  (qs_cons (q_sw (psw_lc (i := 9) (own := [("j", 12)]) rfl sc_law.nd (qi_range1 (by rfl) T.n_range (pas_cons (pv_op od_addU (pv_name (i := 4) rfl (by first | exact Or.inl rfl | exact Or.inr (Or.inl rfl) | exact Or.inr (Or.inr rfl))) q_int) qa_nil)) (blkOk_by (by rfl)) (fun _ _ _ _ _ => (ptg_name (i := 12) sc_law.nd rfl (by first | exact Or.inl rfl | exact Or.inr rfl) (by first | exact Or.inl rfl | exact Or.inr rfl))) (fun _ _ _ _ _ => (pif_one (pb_cmp (od_eq (hu64 hr)) (by rfl) (pv_callB (cd_sumL rfl) (by rfl) T.n_sum (by decide +kernel) (pas_cons (pv_of (pn_lc (own := [("kind", 13)]) rfl sc_law.nd (qi_range1 (by rfl) T.n_range (pas_cons (pv_op od_addU (pv_name (i := 5) rfl (by first | exact Or.inl rfl | exact Or.inr (Or.inl rfl) | exact Or.inr (Or.inr rfl))) q_int) qa_nil)) (blkOk_by (by rfl)) (fun _ _ _ _ _ => (ptg_name (i := 13) sc_law.nd rfl (by first | exact Or.inl rfl | exact Or.inr rfl) (by first | exact Or.inl rfl | exact Or.inr rfl))) (fun _ _ _ _ _ => qf_nil) (fun _ _ _ _ _ => (q_call (ok_eigenvalue T) (hr.mono (by omega)) (by rfl) T.g_eigenvalue T.F_eigenvalue.kp T.b_eigenvalue passL (pas_cons (pv_name (i := 2) rfl (by first | exact Or.inl rfl | exact Or.inr (Or.inl rfl) | exact Or.inr (Or.inr rfl))) (pas_cons (pv_name (i := 12) rfl (by first | exact Or.inl rfl | exact Or.inr (Or.inl rfl) | exact Or.inr (Or.inr rfl))) (pas_cons (pv_name (i := 13) rfl (by first | exact Or.inl rfl | exact Or.inr (Or.inl rfl) | exact Or.inr (Or.inr rfl))) qa_nil))))) (by decide))) qa_nil)) q_int))) (fun _ _ _ _ _ => (pv_name (i := 12) rfl (by first | exact Or.inl rfl | exact Or.inr (Or.inl rfl) | exact Or.inr (Or.inr rfl)))) (by decide) rfl rfl (by rfl)))
  (qs_cons (q_set (i := 10) sc_law.nd rfl (q_call (ok_ball_zeros T) (hr.mono (by omega)) (by rfl) T.g_ball_zeros T.F_ball_zeros.kp T.b_ball_zeros (passes_call (takes_of rfl rfl rfl rfl) fun _ _ _ _ h => h) (pas_cons (pv_name (i := 2) rfl (by first | exact Or.inl rfl | exact Or.inr (Or.inl rfl) | exact Or.inr (Or.inr rfl))) (pas_cons (pv_name (i := 5) rfl (by first | exact Or.inl rfl | exact Or.inr (Or.inl rfl) | exact Or.inr (Or.inr rfl))) qa_nil))))
  (qs_cons (q_if (pb_bo (pw_o (pb_not (pb_tru (pv_isi (by rfl) T.n_isinstance (pv_name (i := 10) rfl (by first | exact Or.inl rfl | exact Or.inr (Or.inl rfl) | exact Or.inr (Or.inr rfl))) (by rfl) T.n_list (by decide +kernel) (by decide)))) (pw_o (pb_cmp (od_ne (hu64 hr)) (by rfl) (pv_name (i := 10) rfl (by first | exact Or.inl rfl | exact Or.inr (Or.inl rfl) | exact Or.inr (Or.inr rfl))) (pv_name (i := 9) rfl (by first | exact Or.inl rfl | exact Or.inr (Or.inl rfl) | exact Or.inr (Or.inr rfl)))) (pw_o1 (pb_cmp od_gt (by rfl) (pv_callB cd_len (by rfl) T.n_len (by decide +kernel) (pas_cons (pv_name (i := 9) rfl (by first | exact Or.inl rfl | exact Or.inr (Or.inl rfl) | exact Or.inr (Or.inr rfl))) qa_nil)) (pv_name (i := 5) rfl (by first | exact Or.inl rfl | exact Or.inr (Or.inl rfl) | exact Or.inr (Or.inr rfl)))))))) (pxs_one (q_ret q_bl)) pxs_nil)
  (qs_cons (q_set (i := 8) sc_law.nd rfl (q_call (ok_can_be_perfect T) (hr.mono (by omega)) (by rfl) T.g_can_be_perfect T.F_can_be_perfect.kp T.b_can_be_perfect (passes_call (takes_of rfl rfl rfl rfl) fun _ _ _ _ h => h) (pas_cons (pv_name (i := 2) rfl (by first | exact Or.inl rfl | exact Or.inr (Or.inl rfl) | exact Or.inr (Or.inr rfl))) (pas_cons (pv_name (i := 5) rfl (by first | exact Or.inl rfl | exact Or.inr (Or.inl rfl) | exact Or.inr (Or.inr rfl))) qa_nil))))
  (pxs_one (q_ret (pv_and (pv_isi (by rfl) T.n_isinstance (pv_name (i := 8) rfl (by first | exact Or.inl rfl | exact Or.inr (Or.inl rfl) | exact Or.inr (Or.inr rfl))) (by rfl) T.n_bool (by decide +kernel) (by decide)) (pv_one (pv_cmp (od_eq (hu64 hr)) (by rfl) (pv_name (i := 8) rfl (by first | exact Or.inl rfl | exact Or.inr (Or.inl rfl) | exact Or.inr (Or.inr rfl))) (pv_and (pv_name (i := 7) rfl (by first | exact Or.inl rfl | exact Or.inr (Or.inl rfl) | exact Or.inr (Or.inr rfl))) (pv_one (pv_cmp od_ge (by rfl) (pv_callB cd_len (by rfl) T.n_len (by decide +kernel) (pas_cons (pv_name (i := 9) rfl (by first | exact Or.inl rfl | exact Or.inr (Or.inl rfl) | exact Or.inr (Or.inr rfl))) qa_nil)) (pv_name (i := 5) rfl (by first | exact Or.inl rfl | exact Or.inr (Or.inl rfl) | exact Or.inr (Or.inr rfl))))))))))))))))))))))))))))
end
def fa0 : List He.Fa := [.free "abs", .free "all", .free "bool", .free "enumerate", .free "int", .free "isinstance", .free "len", .free "list", .free "max", .free "range", .free "sorted", .free "sum", .free "tuple", .free "zip", .glo "is_integer", .glo "are_integers", .glo "power", .glo "choose", .glo "points_of", .glo "kinds_of", .glo "has_shape", .glo "cell_fault", .glo "diagonal_fault", .glo "mirror_fault", .glo "kind_fault", .glo "way_counts", .glo "first_unlike", .glo "number_fault", .glo "table_fault", .glo "is_part"]
def fa1 : List He.Fa := [.glo "parts_of", .glo "is_scheme", .glo "as_tuples", .glo "checked", .glo "require_kind", .glo "part_valencies", .glo "word_ways", .glo "set_ways", .glo "listed_ways", .glo "part_ways", .glo "part_numbers", .glo "all_numbers", .glo "dot", .glo "action_of", .glo "times", .glo "characteristic", .glo "divided", .glo "whole_roots", .glo "without", .glo "listed_rows", .glo "convolved", .glo "signed_choices", .glo "row_of", .glo "rows_of", .glo "eigenvalue", .glo "require_ordered", .glo "require_radius", .glo "checked_with_radius", .glo "ball_of", .glo "zeros_of"]
def fa2 : List He.Fa := [.glo "ball_size", .glo "ball_divides", .glo "ball_zeros", .glo "can_be_perfect", .glo "_law_row", .glo "_law_numbers", .glo "_law_pick", .glo "_law_choose", .glo "_law_sets", .glo "_law_kinds", .glo "_law_metric", .glo "_law_size_of", .glo "_law_points", .glo "law", .int "MOST_ROWS" 24, .int "MOST_LISTED_KINDS" 8, .int "MOST_PARTS" 8, .int "MOST_KINDS" 60, .int "MOST_POINTS" 1000000000000000000000000000000000000000000000000000000000000, .int "MOST_PLACES" 40, .int "LEAST_BASE" 2, .int "MOST_BASE" 1000, .int "MOST_CHOICES" 80, .glo "SchemeboundError", .exc "SchemeboundError", .glo "InvalidScheme", .exc "InvalidScheme", .glo "InvalidQuestion", .exc "InvalidQuestion"]
def fas : List He.Fa := fa0 ++ fa1 ++ fa2
def fn0 : List He.DefD := [dOf "is_integer" s_is_integer, dOf "are_integers" s_are_integers, dOf "power" s_power, dOf "choose" s_choose, dOf "points_of" s_points_of, dOf "kinds_of" s_kinds_of, dOf "has_shape" s_has_shape, dOf "cell_fault" s_cell_fault, dOf "diagonal_fault" s_diagonal_fault, dOf "mirror_fault" s_mirror_fault, dOf "kind_fault" s_kind_fault, dOf "way_counts" s_way_counts, dOf "first_unlike" s_first_unlike, dOf "number_fault" s_number_fault, dOf "table_fault" s_table_fault, dOf "is_part" s_is_part, dOf "parts_of" s_parts_of, dOf "is_scheme" s_is_scheme, dOf "as_tuples" s_as_tuples, dOf "checked" s_checked, dOf "require_kind" s_require_kind, dOf "part_valencies" s_part_valencies, dOf "word_ways" s_word_ways, dOf "set_ways" s_set_ways, dOf "listed_ways" s_listed_ways, dOf "part_ways" s_part_ways, dOf "part_numbers" s_part_numbers, dOf "all_numbers" s_all_numbers, dOf "dot" s_dot, dOf "action_of" s_action_of]
def fn1 : List He.DefD := [dOf "times" s_times, dOf "characteristic" s_characteristic, dOf "divided" s_divided, dOf "whole_roots" s_whole_roots, dOf "without" s_without, dOf "listed_rows" s_listed_rows, dOf "convolved" s_convolved, dOf "signed_choices" s_signed_choices, dOf "row_of" s_row_of, dOf "rows_of" s_rows_of, dOf "eigenvalue" s_eigenvalue, dOf "require_ordered" s_require_ordered, dOf "require_radius" s_require_radius, dOf "checked_with_radius" s_checked_with_radius, dOf "ball_of" s_ball_of, dOf "zeros_of" s_zeros_of, dOf "ball_size" s_ball_size, dOf "ball_divides" s_ball_divides, dOf "ball_zeros" s_ball_zeros, dOf "can_be_perfect" s_can_be_perfect, dOf "_law_row" s__law_row, dOf "_law_numbers" s__law_numbers, dOf "_law_pick" s__law_pick, dOf "_law_choose" s__law_choose, dOf "_law_sets" s__law_sets, dOf "_law_kinds" s__law_kinds, dOf "_law_metric" s__law_metric, dOf "_law_size_of" s__law_size_of, dOf "_law_points" s__law_points, dOf "law" s_law]
def fns : List He.DefD := fn0 ++ fn1
def tfs : List He.Defn := [("are_integers", none), ("has_shape", none)]
def exs (K : PySem.W.Frag) : Bool := He.eqO (PySem.W.nsIn K mainGlobals "comb") (some (some (.builtin "math.comb")))
abbrev R : PySem.W.OpenRow := PySem.W.OpenLaw.row PySem.Challenge.rw_schemebound_k78_balls
def AK (K : PySem.W.Frag) (z : FuncData) : Ad where
  f_is_integer := He.ga K "is_integer"
  c_is_integer := He.codeOf K ("is_integer", none)
  fd_is_integer := fdG K "is_integer" z
  f_are_integers := He.ga K "are_integers"
  c_are_integers := He.codeOf K ("are_integers", none)
  fd_are_integers := fdG K "are_integers" z
  f_power := He.ga K "power"
  c_power := He.codeOf K ("power", none)
  fd_power := fdG K "power" z
  f_choose := He.ga K "choose"
  c_choose := He.codeOf K ("choose", none)
  fd_choose := fdG K "choose" z
  f_points_of := He.ga K "points_of"
  c_points_of := He.codeOf K ("points_of", none)
  fd_points_of := fdG K "points_of" z
  f_kinds_of := He.ga K "kinds_of"
  c_kinds_of := He.codeOf K ("kinds_of", none)
  fd_kinds_of := fdG K "kinds_of" z
  f_has_shape := He.ga K "has_shape"
  c_has_shape := He.codeOf K ("has_shape", none)
  fd_has_shape := fdG K "has_shape" z
  f_cell_fault := He.ga K "cell_fault"
  c_cell_fault := He.codeOf K ("cell_fault", none)
  fd_cell_fault := fdG K "cell_fault" z
  f_diagonal_fault := He.ga K "diagonal_fault"
  c_diagonal_fault := He.codeOf K ("diagonal_fault", none)
  fd_diagonal_fault := fdG K "diagonal_fault" z
  f_mirror_fault := He.ga K "mirror_fault"
  c_mirror_fault := He.codeOf K ("mirror_fault", none)
  fd_mirror_fault := fdG K "mirror_fault" z
  f_kind_fault := He.ga K "kind_fault"
  c_kind_fault := He.codeOf K ("kind_fault", none)
  fd_kind_fault := fdG K "kind_fault" z
  f_way_counts := He.ga K "way_counts"
  c_way_counts := He.codeOf K ("way_counts", none)
  fd_way_counts := fdG K "way_counts" z
  f_first_unlike := He.ga K "first_unlike"
  c_first_unlike := He.codeOf K ("first_unlike", none)
  fd_first_unlike := fdG K "first_unlike" z
  f_number_fault := He.ga K "number_fault"
  c_number_fault := He.codeOf K ("number_fault", none)
  fd_number_fault := fdG K "number_fault" z
  f_table_fault := He.ga K "table_fault"
  c_table_fault := He.codeOf K ("table_fault", none)
  fd_table_fault := fdG K "table_fault" z
  f_is_part := He.ga K "is_part"
  c_is_part := He.codeOf K ("is_part", none)
  fd_is_part := fdG K "is_part" z
  f_parts_of := He.ga K "parts_of"
  c_parts_of := He.codeOf K ("parts_of", none)
  fd_parts_of := fdG K "parts_of" z
  f_is_scheme := He.ga K "is_scheme"
  c_is_scheme := He.codeOf K ("is_scheme", none)
  fd_is_scheme := fdG K "is_scheme" z
  f_as_tuples := He.ga K "as_tuples"
  c_as_tuples := He.codeOf K ("as_tuples", none)
  fd_as_tuples := fdG K "as_tuples" z
  f_checked := He.ga K "checked"
  c_checked := He.codeOf K ("checked", none)
  fd_checked := fdG K "checked" z
  f_require_kind := He.ga K "require_kind"
  c_require_kind := He.codeOf K ("require_kind", none)
  fd_require_kind := fdG K "require_kind" z
  f_part_valencies := He.ga K "part_valencies"
  c_part_valencies := He.codeOf K ("part_valencies", none)
  fd_part_valencies := fdG K "part_valencies" z
  f_word_ways := He.ga K "word_ways"
  c_word_ways := He.codeOf K ("word_ways", none)
  fd_word_ways := fdG K "word_ways" z
  f_set_ways := He.ga K "set_ways"
  c_set_ways := He.codeOf K ("set_ways", none)
  fd_set_ways := fdG K "set_ways" z
  f_listed_ways := He.ga K "listed_ways"
  c_listed_ways := He.codeOf K ("listed_ways", none)
  fd_listed_ways := fdG K "listed_ways" z
  f_part_ways := He.ga K "part_ways"
  c_part_ways := He.codeOf K ("part_ways", none)
  fd_part_ways := fdG K "part_ways" z
  f_part_numbers := He.ga K "part_numbers"
  c_part_numbers := He.codeOf K ("part_numbers", none)
  fd_part_numbers := fdG K "part_numbers" z
  f_all_numbers := He.ga K "all_numbers"
  c_all_numbers := He.codeOf K ("all_numbers", none)
  fd_all_numbers := fdG K "all_numbers" z
  f_dot := He.ga K "dot"
  c_dot := He.codeOf K ("dot", none)
  fd_dot := fdG K "dot" z
  f_action_of := He.ga K "action_of"
  c_action_of := He.codeOf K ("action_of", none)
  fd_action_of := fdG K "action_of" z
  f_times := He.ga K "times"
  c_times := He.codeOf K ("times", none)
  fd_times := fdG K "times" z
  f_characteristic := He.ga K "characteristic"
  c_characteristic := He.codeOf K ("characteristic", none)
  fd_characteristic := fdG K "characteristic" z
  f_divided := He.ga K "divided"
  c_divided := He.codeOf K ("divided", none)
  fd_divided := fdG K "divided" z
  f_whole_roots := He.ga K "whole_roots"
  c_whole_roots := He.codeOf K ("whole_roots", none)
  fd_whole_roots := fdG K "whole_roots" z
  f_without := He.ga K "without"
  c_without := He.codeOf K ("without", none)
  fd_without := fdG K "without" z
  f_listed_rows := He.ga K "listed_rows"
  c_listed_rows := He.codeOf K ("listed_rows", none)
  fd_listed_rows := fdG K "listed_rows" z
  f_convolved := He.ga K "convolved"
  c_convolved := He.codeOf K ("convolved", none)
  fd_convolved := fdG K "convolved" z
  f_signed_choices := He.ga K "signed_choices"
  c_signed_choices := He.codeOf K ("signed_choices", none)
  fd_signed_choices := fdG K "signed_choices" z
  f_row_of := He.ga K "row_of"
  c_row_of := He.codeOf K ("row_of", none)
  fd_row_of := fdG K "row_of" z
  f_rows_of := He.ga K "rows_of"
  c_rows_of := He.codeOf K ("rows_of", none)
  fd_rows_of := fdG K "rows_of" z
  f_eigenvalue := He.ga K "eigenvalue"
  c_eigenvalue := He.codeOf K ("eigenvalue", none)
  fd_eigenvalue := fdG K "eigenvalue" z
  f_require_ordered := He.ga K "require_ordered"
  c_require_ordered := He.codeOf K ("require_ordered", none)
  fd_require_ordered := fdG K "require_ordered" z
  f_require_radius := He.ga K "require_radius"
  c_require_radius := He.codeOf K ("require_radius", none)
  fd_require_radius := fdG K "require_radius" z
  f_checked_with_radius := He.ga K "checked_with_radius"
  c_checked_with_radius := He.codeOf K ("checked_with_radius", none)
  fd_checked_with_radius := fdG K "checked_with_radius" z
  f_ball_of := He.ga K "ball_of"
  c_ball_of := He.codeOf K ("ball_of", none)
  fd_ball_of := fdG K "ball_of" z
  f_zeros_of := He.ga K "zeros_of"
  c_zeros_of := He.codeOf K ("zeros_of", none)
  fd_zeros_of := fdG K "zeros_of" z
  f_ball_size := He.ga K "ball_size"
  c_ball_size := He.codeOf K ("ball_size", none)
  fd_ball_size := fdG K "ball_size" z
  f_ball_divides := He.ga K "ball_divides"
  c_ball_divides := He.codeOf K ("ball_divides", none)
  fd_ball_divides := fdG K "ball_divides" z
  f_ball_zeros := He.ga K "ball_zeros"
  c_ball_zeros := He.codeOf K ("ball_zeros", none)
  fd_ball_zeros := fdG K "ball_zeros" z
  f_can_be_perfect := He.ga K "can_be_perfect"
  c_can_be_perfect := He.codeOf K ("can_be_perfect", none)
  fd_can_be_perfect := fdG K "can_be_perfect" z
  f__law_row := He.ga K "_law_row"
  c__law_row := He.codeOf K ("_law_row", none)
  fd__law_row := fdG K "_law_row" z
  f__law_numbers := He.ga K "_law_numbers"
  c__law_numbers := He.codeOf K ("_law_numbers", none)
  fd__law_numbers := fdG K "_law_numbers" z
  f__law_pick := He.ga K "_law_pick"
  c__law_pick := He.codeOf K ("_law_pick", none)
  fd__law_pick := fdG K "_law_pick" z
  f__law_choose := He.ga K "_law_choose"
  c__law_choose := He.codeOf K ("_law_choose", none)
  fd__law_choose := fdG K "_law_choose" z
  f__law_sets := He.ga K "_law_sets"
  c__law_sets := He.codeOf K ("_law_sets", none)
  fd__law_sets := fdG K "_law_sets" z
  f__law_kinds := He.ga K "_law_kinds"
  c__law_kinds := He.codeOf K ("_law_kinds", none)
  fd__law_kinds := fdG K "_law_kinds" z
  f__law_metric := He.ga K "_law_metric"
  c__law_metric := He.codeOf K ("_law_metric", none)
  fd__law_metric := fdG K "_law_metric" z
  f__law_size_of := He.ga K "_law_size_of"
  c__law_size_of := He.codeOf K ("_law_size_of", none)
  fd__law_size_of := fdG K "_law_size_of" z
  f__law_points := He.ga K "_law_points"
  c__law_points := He.codeOf K ("_law_points", none)
  fd__law_points := fdG K "_law_points" z
  f_law := He.ga K "law"
  c_law := He.codeOf K ("law", none)
  fd_law := fdG K "law" z
  p_are_integers := (He.cT K ("are_integers", none)).2
  p_has_shape := (He.cT K ("has_shape", none)).2
  C_SchemeboundError := He.ga K "SchemeboundError"
  C_InvalidScheme := He.ga K "InvalidScheme"
  C_InvalidQuestion := He.ga K "InvalidQuestion"
theorem tx_of {K : PySem.W.Frag} {mg : Str → Option Value} {h base : Heap} {w : World} {z : FuncData} (X : K.In h) (G : h.Ns mainGlobals mg) (c : He.SaysX fas fns [] tfs exs w h K)
    (hT : ∀ p ∈ tfs.map (He.cT K), LamX.TabB base mg p.1 p.2) : Tx K mg base (AK K z) := by
  have ex := c.more
  unfold exs at ex
  have q0 := ex
  exact {
    n_abs := He.free_ok X G (c.t.d.fact 0 (f := .free "abs") rfl)
    n_all := He.free_ok X G (c.t.d.fact 1 (f := .free "all") rfl)
    n_bool := He.free_ok X G (c.t.d.fact 2 (f := .free "bool") rfl)
    n_enumerate := He.free_ok X G (c.t.d.fact 3 (f := .free "enumerate") rfl)
    n_int := He.free_ok X G (c.t.d.fact 4 (f := .free "int") rfl)
    n_isinstance := He.free_ok X G (c.t.d.fact 5 (f := .free "isinstance") rfl)
    n_len := He.free_ok X G (c.t.d.fact 6 (f := .free "len") rfl)
    n_list := He.free_ok X G (c.t.d.fact 7 (f := .free "list") rfl)
    n_max := He.free_ok X G (c.t.d.fact 8 (f := .free "max") rfl)
    n_range := He.free_ok X G (c.t.d.fact 9 (f := .free "range") rfl)
    n_sorted := He.free_ok X G (c.t.d.fact 10 (f := .free "sorted") rfl)
    n_sum := He.free_ok X G (c.t.d.fact 11 (f := .free "sum") rfl)
    n_tuple := He.free_ok X G (c.t.d.fact 12 (f := .free "tuple") rfl)
    n_zip := He.free_ok X G (c.t.d.fact 13 (f := .free "zip") rfl)
    g_is_integer := He.glo_ok X G (c.t.d.fact 14 (f := .glo "is_integer") rfl)
    F_is_integer := funC_of (st := s_is_integer) (c.t.d.def_ 0 (d := dOf "is_integer" s_is_integer) rfl)
    b_is_integer := (FunC.f (funC_of (st := s_is_integer) (z := z) (c.t.d.def_ 0 (d := dOf "is_integer" s_is_integer) rfl))).binds (ps := ["value"]) fun _ _ _ _ _ _ us hl => match us, hl with | [_], _ => rfl
    g_are_integers := He.glo_ok X G (c.t.d.fact 15 (f := .glo "are_integers") rfl)
    F_are_integers := funC_of (st := s_are_integers) (c.t.d.def_ 1 (d := dOf "are_integers" s_are_integers) rfl)
    b_are_integers := (FunC.f (funC_of (st := s_are_integers) (z := z) (c.t.d.def_ 1 (d := dOf "are_integers" s_are_integers) rfl))).binds (ps := ["values"]) fun _ _ _ _ _ _ us hl => match us, hl with | [_], _ => rfl
    g_power := He.glo_ok X G (c.t.d.fact 16 (f := .glo "power") rfl)
    F_power := funC_of (st := s_power) (c.t.d.def_ 2 (d := dOf "power" s_power) rfl)
    b_power := (FunC.f (funC_of (st := s_power) (z := z) (c.t.d.def_ 2 (d := dOf "power" s_power) rfl))).binds (ps := ["base", "exponent"]) fun _ _ _ _ _ _ us hl => match us, hl with | [_, _], _ => rfl
    g_choose := He.glo_ok X G (c.t.d.fact 17 (f := .glo "choose") rfl)
    F_choose := funC_of (st := s_choose) (c.t.d.def_ 3 (d := dOf "choose" s_choose) rfl)
    b_choose := (FunC.f (funC_of (st := s_choose) (z := z) (c.t.d.def_ 3 (d := dOf "choose" s_choose) rfl))).binds (ps := ["many", "few"]) fun _ _ _ _ _ _ us hl => match us, hl with | [_, _], _ => rfl
    g_points_of := He.glo_ok X G (c.t.d.fact 18 (f := .glo "points_of") rfl)
    F_points_of := funC_of (st := s_points_of) (c.t.d.def_ 4 (d := dOf "points_of" s_points_of) rfl)
    b_points_of := (FunC.f (funC_of (st := s_points_of) (z := z) (c.t.d.def_ 4 (d := dOf "points_of" s_points_of) rfl))).binds (ps := ["tree"]) fun _ _ _ _ _ _ us hl => match us, hl with | [_], _ => rfl
    g_kinds_of := He.glo_ok X G (c.t.d.fact 19 (f := .glo "kinds_of") rfl)
    F_kinds_of := funC_of (st := s_kinds_of) (c.t.d.def_ 5 (d := dOf "kinds_of" s_kinds_of) rfl)
    b_kinds_of := (FunC.f (funC_of (st := s_kinds_of) (z := z) (c.t.d.def_ 5 (d := dOf "kinds_of" s_kinds_of) rfl))).binds (ps := ["tree"]) fun _ _ _ _ _ _ us hl => match us, hl with | [_], _ => rfl
    g_has_shape := He.glo_ok X G (c.t.d.fact 20 (f := .glo "has_shape") rfl)
    F_has_shape := funC_of (st := s_has_shape) (c.t.d.def_ 6 (d := dOf "has_shape" s_has_shape) rfl)
    b_has_shape := (FunC.f (funC_of (st := s_has_shape) (z := z) (c.t.d.def_ 6 (d := dOf "has_shape" s_has_shape) rfl))).binds (ps := ["rows"]) fun _ _ _ _ _ _ us hl => match us, hl with | [_], _ => rfl
    g_cell_fault := He.glo_ok X G (c.t.d.fact 21 (f := .glo "cell_fault") rfl)
    F_cell_fault := funC_of (st := s_cell_fault) (c.t.d.def_ 7 (d := dOf "cell_fault" s_cell_fault) rfl)
    b_cell_fault := (FunC.f (funC_of (st := s_cell_fault) (z := z) (c.t.d.def_ 7 (d := dOf "cell_fault" s_cell_fault) rfl))).binds (ps := ["rows"]) fun _ _ _ _ _ _ us hl => match us, hl with | [_], _ => rfl
    g_diagonal_fault := He.glo_ok X G (c.t.d.fact 22 (f := .glo "diagonal_fault") rfl)
    F_diagonal_fault := funC_of (st := s_diagonal_fault) (c.t.d.def_ 8 (d := dOf "diagonal_fault" s_diagonal_fault) rfl)
    b_diagonal_fault := (FunC.f (funC_of (st := s_diagonal_fault) (z := z) (c.t.d.def_ 8 (d := dOf "diagonal_fault" s_diagonal_fault) rfl))).binds (ps := ["rows"]) fun _ _ _ _ _ _ us hl => match us, hl with | [_], _ => rfl
    g_mirror_fault := He.glo_ok X G (c.t.d.fact 23 (f := .glo "mirror_fault") rfl)
    F_mirror_fault := funC_of (st := s_mirror_fault) (c.t.d.def_ 9 (d := dOf "mirror_fault" s_mirror_fault) rfl)
    b_mirror_fault := (FunC.f (funC_of (st := s_mirror_fault) (z := z) (c.t.d.def_ 9 (d := dOf "mirror_fault" s_mirror_fault) rfl))).binds (ps := ["rows"]) fun _ _ _ _ _ _ us hl => match us, hl with | [_], _ => rfl
    g_kind_fault := He.glo_ok X G (c.t.d.fact 24 (f := .glo "kind_fault") rfl)
    F_kind_fault := funC_of (st := s_kind_fault) (c.t.d.def_ 10 (d := dOf "kind_fault" s_kind_fault) rfl)
    b_kind_fault := (FunC.f (funC_of (st := s_kind_fault) (z := z) (c.t.d.def_ 10 (d := dOf "kind_fault" s_kind_fault) rfl))).binds (ps := ["rows"]) fun _ _ _ _ _ _ us hl => match us, hl with | [_], _ => rfl
    g_way_counts := He.glo_ok X G (c.t.d.fact 25 (f := .glo "way_counts") rfl)
    F_way_counts := funC_of (st := s_way_counts) (c.t.d.def_ 11 (d := dOf "way_counts" s_way_counts) rfl)
    b_way_counts := (FunC.f (funC_of (st := s_way_counts) (z := z) (c.t.d.def_ 11 (d := dOf "way_counts" s_way_counts) rfl))).binds (ps := ["one", "other"]) fun _ _ _ _ _ _ us hl => match us, hl with | [_, _], _ => rfl
    g_first_unlike := He.glo_ok X G (c.t.d.fact 26 (f := .glo "first_unlike") rfl)
    F_first_unlike := funC_of (st := s_first_unlike) (c.t.d.def_ 12 (d := dOf "first_unlike" s_first_unlike) rfl)
    b_first_unlike := (FunC.f (funC_of (st := s_first_unlike) (z := z) (c.t.d.def_ 12 (d := dOf "first_unlike" s_first_unlike) rfl))).binds (ps := ["one", "other"]) fun _ _ _ _ _ _ us hl => match us, hl with | [_, _], _ => rfl
    g_number_fault := He.glo_ok X G (c.t.d.fact 27 (f := .glo "number_fault") rfl)
    F_number_fault := funC_of (st := s_number_fault) (c.t.d.def_ 13 (d := dOf "number_fault" s_number_fault) rfl)
    b_number_fault := (FunC.f (funC_of (st := s_number_fault) (z := z) (c.t.d.def_ 13 (d := dOf "number_fault" s_number_fault) rfl))).binds (ps := ["rows"]) fun _ _ _ _ _ _ us hl => match us, hl with | [_], _ => rfl
    g_table_fault := He.glo_ok X G (c.t.d.fact 28 (f := .glo "table_fault") rfl)
    F_table_fault := funC_of (st := s_table_fault) (c.t.d.def_ 14 (d := dOf "table_fault" s_table_fault) rfl)
    b_table_fault := (FunC.f (funC_of (st := s_table_fault) (z := z) (c.t.d.def_ 14 (d := dOf "table_fault" s_table_fault) rfl))).binds (ps := ["rows"]) fun _ _ _ _ _ _ us hl => match us, hl with | [_], _ => rfl
    g_is_part := He.glo_ok X G (c.t.d.fact 29 (f := .glo "is_part") rfl)
    F_is_part := funC_of (st := s_is_part) (c.t.d.def_ 15 (d := dOf "is_part" s_is_part) rfl)
    b_is_part := (FunC.f (funC_of (st := s_is_part) (z := z) (c.t.d.def_ 15 (d := dOf "is_part" s_is_part) rfl))).binds (ps := ["part"]) fun _ _ _ _ _ _ us hl => match us, hl with | [_], _ => rfl
    g_parts_of := He.glo_ok X G (c.t.d.fact 30 (f := .glo "parts_of") rfl)
    F_parts_of := funC_of (st := s_parts_of) (c.t.d.def_ 16 (d := dOf "parts_of" s_parts_of) rfl)
    b_parts_of := (FunC.f (funC_of (st := s_parts_of) (z := z) (c.t.d.def_ 16 (d := dOf "parts_of" s_parts_of) rfl))).binds (ps := ["tree"]) fun _ _ _ _ _ _ us hl => match us, hl with | [_], _ => rfl
    g_is_scheme := He.glo_ok X G (c.t.d.fact 31 (f := .glo "is_scheme") rfl)
    F_is_scheme := funC_of (st := s_is_scheme) (c.t.d.def_ 17 (d := dOf "is_scheme" s_is_scheme) rfl)
    b_is_scheme := (FunC.f (funC_of (st := s_is_scheme) (z := z) (c.t.d.def_ 17 (d := dOf "is_scheme" s_is_scheme) rfl))).binds (ps := ["tree"]) fun _ _ _ _ _ _ us hl => match us, hl with | [_], _ => rfl
    g_as_tuples := He.glo_ok X G (c.t.d.fact 32 (f := .glo "as_tuples") rfl)
    F_as_tuples := funC_of (st := s_as_tuples) (c.t.d.def_ 18 (d := dOf "as_tuples" s_as_tuples) rfl)
    b_as_tuples := (FunC.f (funC_of (st := s_as_tuples) (z := z) (c.t.d.def_ 18 (d := dOf "as_tuples" s_as_tuples) rfl))).binds (ps := ["tree"]) fun _ _ _ _ _ _ us hl => match us, hl with | [_], _ => rfl
    g_checked := He.glo_ok X G (c.t.d.fact 33 (f := .glo "checked") rfl)
    F_checked := funC_of (st := s_checked) (c.t.d.def_ 19 (d := dOf "checked" s_checked) rfl)
    b_checked := (FunC.f (funC_of (st := s_checked) (z := z) (c.t.d.def_ 19 (d := dOf "checked" s_checked) rfl))).binds (ps := ["tree"]) fun _ _ _ _ _ _ us hl => match us, hl with | [_], _ => rfl
    g_require_kind := He.glo_ok X G (c.t.d.fact 34 (f := .glo "require_kind") rfl)
    F_require_kind := funC_of (st := s_require_kind) (c.t.d.def_ 20 (d := dOf "require_kind" s_require_kind) rfl)
    b_require_kind := (FunC.f (funC_of (st := s_require_kind) (z := z) (c.t.d.def_ 20 (d := dOf "require_kind" s_require_kind) rfl))).binds (ps := ["tree", "kind"]) fun _ _ _ _ _ _ us hl => match us, hl with | [_, _], _ => rfl
    g_part_valencies := He.glo_ok X G (c.t.d.fact 35 (f := .glo "part_valencies") rfl)
    F_part_valencies := funC_of (st := s_part_valencies) (c.t.d.def_ 21 (d := dOf "part_valencies" s_part_valencies) rfl)
    b_part_valencies := (FunC.f (funC_of (st := s_part_valencies) (z := z) (c.t.d.def_ 21 (d := dOf "part_valencies" s_part_valencies) rfl))).binds (ps := ["tree"]) fun _ _ _ _ _ _ us hl => match us, hl with | [_], _ => rfl
    g_word_ways := He.glo_ok X G (c.t.d.fact 36 (f := .glo "word_ways") rfl)
    F_word_ways := funC_of (st := s_word_ways) (c.t.d.def_ 22 (d := dOf "word_ways" s_word_ways) rfl)
    b_word_ways := (FunC.f (funC_of (st := s_word_ways) (z := z) (c.t.d.def_ 22 (d := dOf "word_ways" s_word_ways) rfl))).binds (ps := ["many", "base", "i", "j", "k"]) fun _ _ _ _ _ _ us hl => match us, hl with | [_, _, _, _, _], _ => rfl
    g_set_ways := He.glo_ok X G (c.t.d.fact 37 (f := .glo "set_ways") rfl)
    F_set_ways := funC_of (st := s_set_ways) (c.t.d.def_ 23 (d := dOf "set_ways" s_set_ways) rfl)
    b_set_ways := (FunC.f (funC_of (st := s_set_ways) (z := z) (c.t.d.def_ 23 (d := dOf "set_ways" s_set_ways) rfl))).binds (ps := ["many", "size", "i", "j", "k"]) fun _ _ _ _ _ _ us hl => match us, hl with | [_, _, _, _, _], _ => rfl
    g_listed_ways := He.glo_ok X G (c.t.d.fact 38 (f := .glo "listed_ways") rfl)
    F_listed_ways := funC_of (st := s_listed_ways) (c.t.d.def_ 24 (d := dOf "listed_ways" s_listed_ways) rfl)
    b_listed_ways := (FunC.f (funC_of (st := s_listed_ways) (z := z) (c.t.d.def_ 24 (d := dOf "listed_ways" s_listed_ways) rfl))).binds (ps := ["rows", "i", "j", "k"]) fun _ _ _ _ _ _ us hl => match us, hl with | [_, _, _, _], _ => rfl
    g_part_ways := He.glo_ok X G (c.t.d.fact 39 (f := .glo "part_ways") rfl)
    F_part_ways := funC_of (st := s_part_ways) (c.t.d.def_ 25 (d := dOf "part_ways" s_part_ways) rfl)
    b_part_ways := (FunC.f (funC_of (st := s_part_ways) (z := z) (c.t.d.def_ 25 (d := dOf "part_ways" s_part_ways) rfl))).binds (ps := ["tree", "i", "j", "k"]) fun _ _ _ _ _ _ us hl => match us, hl with | [_, _, _, _], _ => rfl
    g_part_numbers := He.glo_ok X G (c.t.d.fact 40 (f := .glo "part_numbers") rfl)
    F_part_numbers := funC_of (st := s_part_numbers) (c.t.d.def_ 26 (d := dOf "part_numbers" s_part_numbers) rfl)
    b_part_numbers := (FunC.f (funC_of (st := s_part_numbers) (z := z) (c.t.d.def_ 26 (d := dOf "part_numbers" s_part_numbers) rfl))).binds (ps := ["tree", "k"]) fun _ _ _ _ _ _ us hl => match us, hl with | [_, _], _ => rfl
    g_all_numbers := He.glo_ok X G (c.t.d.fact 41 (f := .glo "all_numbers") rfl)
    F_all_numbers := funC_of (st := s_all_numbers) (c.t.d.def_ 27 (d := dOf "all_numbers" s_all_numbers) rfl)
    b_all_numbers := (FunC.f (funC_of (st := s_all_numbers) (z := z) (c.t.d.def_ 27 (d := dOf "all_numbers" s_all_numbers) rfl))).binds (ps := ["tree"]) fun _ _ _ _ _ _ us hl => match us, hl with | [_], _ => rfl
    g_dot := He.glo_ok X G (c.t.d.fact 42 (f := .glo "dot") rfl)
    F_dot := funC_of (st := s_dot) (c.t.d.def_ 28 (d := dOf "dot" s_dot) rfl)
    b_dot := (FunC.f (funC_of (st := s_dot) (z := z) (c.t.d.def_ 28 (d := dOf "dot" s_dot) rfl))).binds (ps := ["one", "other"]) fun _ _ _ _ _ _ us hl => match us, hl with | [_, _], _ => rfl
    g_action_of := He.glo_ok X G (c.t.d.fact 43 (f := .glo "action_of") rfl)
    F_action_of := funC_of (st := s_action_of) (c.t.d.def_ 29 (d := dOf "action_of" s_action_of) rfl)
    b_action_of := (FunC.f (funC_of (st := s_action_of) (z := z) (c.t.d.def_ 29 (d := dOf "action_of" s_action_of) rfl))).binds (ps := ["numbers", "i"]) fun _ _ _ _ _ _ us hl => match us, hl with | [_, _], _ => rfl
    g_times := He.glo_ok X G (c.t.d.fact 44 (f := .glo "times") rfl)
    F_times := funC_of (st := s_times) (c.t.d.def_ 30 (d := dOf "times" s_times) rfl)
    b_times := (FunC.f (funC_of (st := s_times) (z := z) (c.t.d.def_ 30 (d := dOf "times" s_times) rfl))).binds (ps := ["one", "other"]) fun _ _ _ _ _ _ us hl => match us, hl with | [_, _], _ => rfl
    g_characteristic := He.glo_ok X G (c.t.d.fact 45 (f := .glo "characteristic") rfl)
    F_characteristic := funC_of (st := s_characteristic) (c.t.d.def_ 31 (d := dOf "characteristic" s_characteristic) rfl)
    b_characteristic := (FunC.f (funC_of (st := s_characteristic) (z := z) (c.t.d.def_ 31 (d := dOf "characteristic" s_characteristic) rfl))).binds (ps := ["rows"]) fun _ _ _ _ _ _ us hl => match us, hl with | [_], _ => rfl
    g_divided := He.glo_ok X G (c.t.d.fact 46 (f := .glo "divided") rfl)
    F_divided := funC_of (st := s_divided) (c.t.d.def_ 32 (d := dOf "divided" s_divided) rfl)
    b_divided := (FunC.f (funC_of (st := s_divided) (z := z) (c.t.d.def_ 32 (d := dOf "divided" s_divided) rfl))).binds (ps := ["coefficients", "root"]) fun _ _ _ _ _ _ us hl => match us, hl with | [_, _], _ => rfl
    g_whole_roots := He.glo_ok X G (c.t.d.fact 47 (f := .glo "whole_roots") rfl)
    F_whole_roots := funC_of (st := s_whole_roots) (c.t.d.def_ 33 (d := dOf "whole_roots" s_whole_roots) rfl)
    b_whole_roots := (FunC.f (funC_of (st := s_whole_roots) (z := z) (c.t.d.def_ 33 (d := dOf "whole_roots" s_whole_roots) rfl))).binds (ps := ["coefficients", "most"]) fun _ _ _ _ _ _ us hl => match us, hl with | [_, _], _ => rfl
    g_without := He.glo_ok X G (c.t.d.fact 48 (f := .glo "without") rfl)
    F_without := funC_of (st := s_without) (c.t.d.def_ 34 (d := dOf "without" s_without) rfl)
    b_without := (FunC.f (funC_of (st := s_without) (z := z) (c.t.d.def_ 34 (d := dOf "without" s_without) rfl))).binds (ps := ["action", "roots", "told"]) fun _ _ _ _ _ _ us hl => match us, hl with | [_, _, _], _ => rfl
    g_listed_rows := He.glo_ok X G (c.t.d.fact 49 (f := .glo "listed_rows") rfl)
    F_listed_rows := funC_of (st := s_listed_rows) (c.t.d.def_ 35 (d := dOf "listed_rows" s_listed_rows) rfl)
    b_listed_rows := (FunC.f (funC_of (st := s_listed_rows) (z := z) (c.t.d.def_ 35 (d := dOf "listed_rows" s_listed_rows) rfl))).binds (ps := ["tree"]) fun _ _ _ _ _ _ us hl => match us, hl with | [_], _ => rfl
    g_convolved := He.glo_ok X G (c.t.d.fact 50 (f := .glo "convolved") rfl)
    F_convolved := funC_of (st := s_convolved) (c.t.d.def_ 36 (d := dOf "convolved" s_convolved) rfl)
    b_convolved := (FunC.f (funC_of (st := s_convolved) (z := z) (c.t.d.def_ 36 (d := dOf "convolved" s_convolved) rfl))).binds (ps := ["one", "other"]) fun _ _ _ _ _ _ us hl => match us, hl with | [_, _], _ => rfl
    g_signed_choices := He.glo_ok X G (c.t.d.fact 51 (f := .glo "signed_choices") rfl)
    F_signed_choices := funC_of (st := s_signed_choices) (c.t.d.def_ 37 (d := dOf "signed_choices" s_signed_choices) rfl)
    b_signed_choices := (FunC.f (funC_of (st := s_signed_choices) (z := z) (c.t.d.def_ 37 (d := dOf "signed_choices" s_signed_choices) rfl))).binds (ps := ["many"]) fun _ _ _ _ _ _ us hl => match us, hl with | [_], _ => rfl
    g_row_of := He.glo_ok X G (c.t.d.fact 52 (f := .glo "row_of") rfl)
    F_row_of := funC_of (st := s_row_of) (c.t.d.def_ 38 (d := dOf "row_of" s_row_of) rfl)
    b_row_of := (FunC.f (funC_of (st := s_row_of) (z := z) (c.t.d.def_ 38 (d := dOf "row_of" s_row_of) rfl))).binds (ps := ["tree", "space"]) fun _ _ _ _ _ _ us hl => match us, hl with | [_, _], _ => rfl
    g_rows_of := He.glo_ok X G (c.t.d.fact 53 (f := .glo "rows_of") rfl)
    F_rows_of := funC_of (st := s_rows_of) (c.t.d.def_ 39 (d := dOf "rows_of" s_rows_of) rfl)
    b_rows_of := (FunC.f (funC_of (st := s_rows_of) (z := z) (c.t.d.def_ 39 (d := dOf "rows_of" s_rows_of) rfl))).binds (ps := ["tree"]) fun _ _ _ _ _ _ us hl => match us, hl with | [_], _ => rfl
    g_eigenvalue := He.glo_ok X G (c.t.d.fact 54 (f := .glo "eigenvalue") rfl)
    F_eigenvalue := funC_of (st := s_eigenvalue) (c.t.d.def_ 40 (d := dOf "eigenvalue" s_eigenvalue) rfl)
    b_eigenvalue := (FunC.f (funC_of (st := s_eigenvalue) (z := z) (c.t.d.def_ 40 (d := dOf "eigenvalue" s_eigenvalue) rfl))).binds (ps := ["tree", "space", "kind"]) fun _ _ _ _ _ _ us hl => match us, hl with | [_, _, _], _ => rfl
    g_require_ordered := He.glo_ok X G (c.t.d.fact 55 (f := .glo "require_ordered") rfl)
    F_require_ordered := funC_of (st := s_require_ordered) (c.t.d.def_ 41 (d := dOf "require_ordered" s_require_ordered) rfl)
    b_require_ordered := (FunC.f (funC_of (st := s_require_ordered) (z := z) (c.t.d.def_ 41 (d := dOf "require_ordered" s_require_ordered) rfl))).binds (ps := ["tree"]) fun _ _ _ _ _ _ us hl => match us, hl with | [_], _ => rfl
    g_require_radius := He.glo_ok X G (c.t.d.fact 56 (f := .glo "require_radius") rfl)
    F_require_radius := funC_of (st := s_require_radius) (c.t.d.def_ 42 (d := dOf "require_radius" s_require_radius) rfl)
    b_require_radius := (FunC.f (funC_of (st := s_require_radius) (z := z) (c.t.d.def_ 42 (d := dOf "require_radius" s_require_radius) rfl))).binds (ps := ["tree", "radius"]) fun _ _ _ _ _ _ us hl => match us, hl with | [_, _], _ => rfl
    g_checked_with_radius := He.glo_ok X G (c.t.d.fact 57 (f := .glo "checked_with_radius") rfl)
    F_checked_with_radius := funC_of (st := s_checked_with_radius) (c.t.d.def_ 43 (d := dOf "checked_with_radius" s_checked_with_radius) rfl)
    b_checked_with_radius := (FunC.f (funC_of (st := s_checked_with_radius) (z := z) (c.t.d.def_ 43 (d := dOf "checked_with_radius" s_checked_with_radius) rfl))).binds (ps := ["tree", "radius"]) fun _ _ _ _ _ _ us hl => match us, hl with | [_, _], _ => rfl
    g_ball_of := He.glo_ok X G (c.t.d.fact 58 (f := .glo "ball_of") rfl)
    F_ball_of := funC_of (st := s_ball_of) (c.t.d.def_ 44 (d := dOf "ball_of" s_ball_of) rfl)
    b_ball_of := (FunC.f (funC_of (st := s_ball_of) (z := z) (c.t.d.def_ 44 (d := dOf "ball_of" s_ball_of) rfl))).binds (ps := ["tree", "radius"]) fun _ _ _ _ _ _ us hl => match us, hl with | [_, _], _ => rfl
    g_zeros_of := He.glo_ok X G (c.t.d.fact 59 (f := .glo "zeros_of") rfl)
    F_zeros_of := funC_of (st := s_zeros_of) (c.t.d.def_ 45 (d := dOf "zeros_of" s_zeros_of) rfl)
    b_zeros_of := (FunC.f (funC_of (st := s_zeros_of) (z := z) (c.t.d.def_ 45 (d := dOf "zeros_of" s_zeros_of) rfl))).binds (ps := ["tree", "radius"]) fun _ _ _ _ _ _ us hl => match us, hl with | [_, _], _ => rfl
    g_ball_size := He.glo_ok X G (c.t.d.fact 60 (f := .glo "ball_size") rfl)
    F_ball_size := funC_of (st := s_ball_size) (c.t.d.def_ 46 (d := dOf "ball_size" s_ball_size) rfl)
    b_ball_size := (FunC.f (funC_of (st := s_ball_size) (z := z) (c.t.d.def_ 46 (d := dOf "ball_size" s_ball_size) rfl))).binds (ps := ["tree", "radius"]) fun _ _ _ _ _ _ us hl => match us, hl with | [_, _], _ => rfl
    g_ball_divides := He.glo_ok X G (c.t.d.fact 61 (f := .glo "ball_divides") rfl)
    F_ball_divides := funC_of (st := s_ball_divides) (c.t.d.def_ 47 (d := dOf "ball_divides" s_ball_divides) rfl)
    b_ball_divides := (FunC.f (funC_of (st := s_ball_divides) (z := z) (c.t.d.def_ 47 (d := dOf "ball_divides" s_ball_divides) rfl))).binds (ps := ["tree", "radius"]) fun _ _ _ _ _ _ us hl => match us, hl with | [_, _], _ => rfl
    g_ball_zeros := He.glo_ok X G (c.t.d.fact 62 (f := .glo "ball_zeros") rfl)
    F_ball_zeros := funC_of (st := s_ball_zeros) (c.t.d.def_ 48 (d := dOf "ball_zeros" s_ball_zeros) rfl)
    b_ball_zeros := (FunC.f (funC_of (st := s_ball_zeros) (z := z) (c.t.d.def_ 48 (d := dOf "ball_zeros" s_ball_zeros) rfl))).binds (ps := ["tree", "radius"]) fun _ _ _ _ _ _ us hl => match us, hl with | [_, _], _ => rfl
    g_can_be_perfect := He.glo_ok X G (c.t.d.fact 63 (f := .glo "can_be_perfect") rfl)
    F_can_be_perfect := funC_of (st := s_can_be_perfect) (c.t.d.def_ 49 (d := dOf "can_be_perfect" s_can_be_perfect) rfl)
    b_can_be_perfect := (FunC.f (funC_of (st := s_can_be_perfect) (z := z) (c.t.d.def_ 49 (d := dOf "can_be_perfect" s_can_be_perfect) rfl))).binds (ps := ["tree", "radius"]) fun _ _ _ _ _ _ us hl => match us, hl with | [_, _], _ => rfl
    g__law_row := He.glo_ok X G (c.t.d.fact 64 (f := .glo "_law_row") rfl)
    F__law_row := funC_of (st := s__law_row) (c.t.d.def_ 50 (d := dOf "_law_row" s__law_row) rfl)
    b__law_row := (FunC.f (funC_of (st := s__law_row) (z := z) (c.t.d.def_ 50 (d := dOf "_law_row" s__law_row) rfl))).binds (ps := ["cell", "many"]) fun _ _ _ _ _ _ us hl => match us, hl with | [_, _], _ => rfl
    g__law_numbers := He.glo_ok X G (c.t.d.fact 65 (f := .glo "_law_numbers") rfl)
    F__law_numbers := funC_of (st := s__law_numbers) (c.t.d.def_ 51 (d := dOf "_law_numbers" s__law_numbers) rfl)
    b__law_numbers := (FunC.f (funC_of (st := s__law_numbers) (z := z) (c.t.d.def_ 51 (d := dOf "_law_numbers" s__law_numbers) rfl))).binds (ps := ["script", "many"]) fun _ _ _ _ _ _ us hl => match us, hl with | [_, _], _ => rfl
    g__law_pick := He.glo_ok X G (c.t.d.fact 66 (f := .glo "_law_pick") rfl)
    F__law_pick := funC_of (st := s__law_pick) (c.t.d.def_ 52 (d := dOf "_law_pick" s__law_pick) rfl)
    b__law_pick := (FunC.f (funC_of (st := s__law_pick) (z := z) (c.t.d.def_ 52 (d := dOf "_law_pick" s__law_pick) rfl))).binds (ps := ["numbers", "at", "most"]) fun _ _ _ _ _ _ us hl => match us, hl with | [_, _, _], _ => rfl
    g__law_choose := He.glo_ok X G (c.t.d.fact 67 (f := .glo "_law_choose") rfl)
    F__law_choose := funC_of (st := s__law_choose) (c.t.d.def_ 53 (d := dOf "_law_choose" s__law_choose) rfl)
    b__law_choose := (FunC.f (funC_of (st := s__law_choose) (z := z) (c.t.d.def_ 53 (d := dOf "_law_choose" s__law_choose) rfl))).binds (ps := ["n", "k"]) fun _ _ _ _ _ _ us hl => match us, hl with | [_, _], _ => rfl
    g__law_sets := He.glo_ok X G (c.t.d.fact 68 (f := .glo "_law_sets") rfl)
    F__law_sets := funC_of (st := s__law_sets) (c.t.d.def_ 54 (d := dOf "_law_sets" s__law_sets) rfl)
    b__law_sets := (FunC.f (funC_of (st := s__law_sets) (z := z) (c.t.d.def_ 54 (d := dOf "_law_sets" s__law_sets) rfl))).binds (ps := ["n", "k"]) fun _ _ _ _ _ _ us hl => match us, hl with | [_, _], _ => rfl
    g__law_kinds := He.glo_ok X G (c.t.d.fact 69 (f := .glo "_law_kinds") rfl)
    F__law_kinds := funC_of (st := s__law_kinds) (c.t.d.def_ 55 (d := dOf "_law_kinds" s__law_kinds) rfl)
    b__law_kinds := (FunC.f (funC_of (st := s__law_kinds) (z := z) (c.t.d.def_ 55 (d := dOf "_law_kinds" s__law_kinds) rfl))).binds (ps := ["tree"]) fun _ _ _ _ _ _ us hl => match us, hl with | [_], _ => rfl
    g__law_metric := He.glo_ok X G (c.t.d.fact 70 (f := .glo "_law_metric") rfl)
    F__law_metric := funC_of (st := s__law_metric) (c.t.d.def_ 56 (d := dOf "_law_metric" s__law_metric) rfl)
    b__law_metric := (FunC.f (funC_of (st := s__law_metric) (z := z) (c.t.d.def_ 56 (d := dOf "_law_metric" s__law_metric) rfl))).binds (ps := ["numbers", "at"]) fun _ _ _ _ _ _ us hl => match us, hl with | [_, _], _ => rfl
    g__law_size_of := He.glo_ok X G (c.t.d.fact 71 (f := .glo "_law_size_of") rfl)
    F__law_size_of := funC_of (st := s__law_size_of) (c.t.d.def_ 57 (d := dOf "_law_size_of" s__law_size_of) rfl)
    b__law_size_of := (FunC.f (funC_of (st := s__law_size_of) (z := z) (c.t.d.def_ 57 (d := dOf "_law_size_of" s__law_size_of) rfl))).binds (ps := ["tree", "radius"]) fun _ _ _ _ _ _ us hl => match us, hl with | [_, _], _ => rfl
    g__law_points := He.glo_ok X G (c.t.d.fact 72 (f := .glo "_law_points") rfl)
    F__law_points := funC_of (st := s__law_points) (c.t.d.def_ 58 (d := dOf "_law_points" s__law_points) rfl)
    b__law_points := (FunC.f (funC_of (st := s__law_points) (z := z) (c.t.d.def_ 58 (d := dOf "_law_points" s__law_points) rfl))).binds (ps := ["tree"]) fun _ _ _ _ _ _ us hl => match us, hl with | [_], _ => rfl
    g_law := He.glo_ok X G (c.t.d.fact 73 (f := .glo "law") rfl)
    F_law := funC_of (st := s_law) (c.t.d.def_ 59 (d := dOf "law" s_law) rfl)
    b_law := (FunC.f (funC_of (st := s_law) (z := z) (c.t.d.def_ 59 (d := dOf "law" s_law) rfl))).binds (ps := ["script"]) fun _ _ _ _ _ _ us hl => match us, hl with | [_], _ => rfl
    t_are_integers := tabB_of (hT (He.cT K ("are_integers", none)) (List.mem_map.mpr ⟨_, by unfold tfs; simp, rfl⟩))
    t_has_shape := tabB_of (hT (He.cT K ("has_shape", none)) (List.mem_map.mpr ⟨_, by unfold tfs; simp, rfl⟩))
    k_MOST_ROWS := He.int_ok X G (c.t.d.fact 74 (f := .int "MOST_ROWS" 24) rfl)
    k_MOST_LISTED_KINDS := He.int_ok X G (c.t.d.fact 75 (f := .int "MOST_LISTED_KINDS" 8) rfl)
    k_MOST_PARTS := He.int_ok X G (c.t.d.fact 76 (f := .int "MOST_PARTS" 8) rfl)
    k_MOST_KINDS := He.int_ok X G (c.t.d.fact 77 (f := .int "MOST_KINDS" 60) rfl)
    k_MOST_POINTS := He.int_ok X G (c.t.d.fact 78 (f := .int "MOST_POINTS" 1000000000000000000000000000000000000000000000000000000000000) rfl)
    k_MOST_PLACES := He.int_ok X G (c.t.d.fact 79 (f := .int "MOST_PLACES" 40) rfl)
    k_LEAST_BASE := He.int_ok X G (c.t.d.fact 80 (f := .int "LEAST_BASE" 2) rfl)
    k_MOST_BASE := He.int_ok X G (c.t.d.fact 81 (f := .int "MOST_BASE" 1000) rfl)
    k_MOST_CHOICES := He.int_ok X G (c.t.d.fact 82 (f := .int "MOST_CHOICES" 80) rfl)
    i_comb := PySem.W.mg_of X G (He.eqO_ok q0)
    g_SchemeboundError := He.glo_ok X G (c.t.d.fact 83 (f := .glo "SchemeboundError") rfl)
    x_SchemeboundError := (He.exc_ok (c.t.d.fact 84 (f := .exc "SchemeboundError") rfl)).1
    kp_SchemeboundError := (He.exc_ok (c.t.d.fact 84 (f := .exc "SchemeboundError") rfl)).2.1
    xb_SchemeboundError := (He.exc_ok (c.t.d.fact 84 (f := .exc "SchemeboundError") rfl)).2.2.1
    xt_SchemeboundError := (He.exc_ok (c.t.d.fact 84 (f := .exc "SchemeboundError") rfl)).2.2.2
    g_InvalidScheme := He.glo_ok X G (c.t.d.fact 85 (f := .glo "InvalidScheme") rfl)
    x_InvalidScheme := (He.exc_ok (c.t.d.fact 86 (f := .exc "InvalidScheme") rfl)).1
    kp_InvalidScheme := (He.exc_ok (c.t.d.fact 86 (f := .exc "InvalidScheme") rfl)).2.1
    xb_InvalidScheme := (He.exc_ok (c.t.d.fact 86 (f := .exc "InvalidScheme") rfl)).2.2.1
    xt_InvalidScheme := (He.exc_ok (c.t.d.fact 86 (f := .exc "InvalidScheme") rfl)).2.2.2
    g_InvalidQuestion := He.glo_ok X G (c.t.d.fact 87 (f := .glo "InvalidQuestion") rfl)
    x_InvalidQuestion := (He.exc_ok (c.t.d.fact 88 (f := .exc "InvalidQuestion") rfl)).1
    kp_InvalidQuestion := (He.exc_ok (c.t.d.fact 88 (f := .exc "InvalidQuestion") rfl)).2.1
    xb_InvalidQuestion := (He.exc_ok (c.t.d.fact 88 (f := .exc "InvalidQuestion") rfl)).2.2.1
    xt_InvalidQuestion := (He.exc_ok (c.t.d.fact 88 (f := .exc "InvalidQuestion") rfl)).2.2.2
  }
/-- all but the mathematics -/
theorem law_at (main : ∀ ns : List Int, ns.length ≤ 63 → (∀ z ∈ ns, Builtin.Int.intBits z ≤ 1048576) → F_law [.scr ns] = .ok (.bl true)) {w : World} {mg : Str → Option Value} {fa : Addr} {h : Heap} {K : PySem.W.Frag} (X : K.In h) (G : h.Ns mainGlobals mg)
    (hm : mg "law" = some (.ref fa)) (c : He.SaysX fas fns [] tfs exs w h K) : LawG PySem.Challenge.rw_schemebound_k78_balls w K 63 mg fa h := by
  obtain ⟨fd0, F0⟩ := c.t.d.def_ 59 (d := dOf "law" s_law) rfl
  have hga := He.glo_ok X G (c.t.d.fact 73 (f := .glo "law") rfl)
  have e := hm.symm.trans hga
  cases e
  have hbind := (funC_of (st := s_law) (z := fd0) (c.t.d.def_ 59 (d := dOf "law" s_law) rfl)).bindsA (ps := ["script"]) fun _ _ _ _ _ _ us hl => match us, hl with | [_], _ => rfl
  refine ⟨tfs.map (He.cT K), fun p hp => ?_, fun p hp => ?_, fun p hp => ?_, fun s₁ base H a ns hl hb KB GB hT E0 hH hS => ?_⟩
  · obtain ⟨q, hq, rfl⟩ := List.mem_map.mp hp
    exact c.empty q hq
  · obtain ⟨q, hq, rfl⟩ := List.mem_map.mp hp
    exact c.out q hq
  · obtain ⟨q, hq, rfl⟩ := List.mem_map.mp hp
    exact PySem.W.codeHd_of_K X (c.hd q hq)
  · refine run_law (A := AK K fd0) (us := [.ref a]) (vs := [.ref a]) (tx_of X G c hT) ⟨rfl, by decide, by decide⟩ E0 (hbind s₁ [.ref a] rfl) (.cons rfl .nil) (sp_law (fun P hP => ?_) hS (main ns hl hb))
    have : ∃ p ∈ tfs.map (He.cT K), p.2 = P := by
      unfold tabs AK at hP
      unfold tfs
      simpa [eq_comm] using hP
    obtain ⟨p, hp, rfl⟩ := this
    exact hH p hp
end K78
namespace K78
open PySem PySem.Spec PyProof.Rows L2 Pf
/-! ## integers -/
def isInt : D → Bool
  | .int _ => true
  | _ => false
def okD : D → Bool
  | .rng _ _ => false
  | _ => true
theorem is_integer_eq (d : D) (h : okD d = true) : F_is_integer [d] = .ok (.bl (isInt d)) := by
  cases d <;> first | rfl | cases h
def areInts : D → Bool
  | .lst xs => xs.all isInt
  | .tup xs => xs.all isInt
  | .scr _ => true
  | _ => false
theorem are_gen {v : D} {xs : List D} (hv : v.items = some xs) (h : ∀ x ∈ xs, okD x = true) :
    fGx (fItems (rdN 0)) (gNm 1) tYes' (vCall 1 F_is_integer (fCons (rdN 1) aNil)) [1] resAll [.im v, .no] = .ok (.bl (xs.all isInt)) [.im v, .no] := by
  refine gx_all isInt (ds := xs) ?_ fun x hx => ?_
  · show Rs.opt v.items _ = _
    rw [hv]
    rfl
  · exact turnD_ok rfl (vCall_ok (ds := [x]) rfl rfl (is_integer_eq x (h x hx)))
theorem are_integers_eq (v : D) (hv : okD v = true) (h : ∀ xs, v.items = some xs → ∀ x ∈ xs, okD x = true) : F_are_integers [v] = .ok (.bl (areInts v)) := by
  unfold F_are_integers b_are_integers
  cases v with
  | rng _ _ => cases hv
  | lst xs => rw [rRet_ok ((fAnd_t (by rfl)).trans (are_gen rfl (h xs rfl)))]; rfl
  | tup xs => rw [rRet_ok ((fAnd_t (by rfl)).trans (are_gen rfl (h xs rfl)))]; rfl
  | scr ns =>
    rw [rRet_ok ((fAnd_t (by rfl)).trans (are_gen (v := .scr ns) (xs := ns.map .int) rfl fun x hx => by
      obtain ⟨n, _, rfl⟩ := List.mem_map.mp hx
      rfl))]
    show Rf.ok (.bl ((ns.map D.int).all isInt)) = _
    rw [List.all_map]
    have : (isInt ∘ D.int) = fun _ => true := rfl
    rw [this, List.all_eq_true.mpr fun _ _ => rfl]
    rfl
  | non => rfl
  | bl b => rfl
  | int i => rfl
  | str x => rfl
/-! ## power, choose -/
theorem mulI_ok {t b : Int} (hb : -(2 ^ 64) < b ∧ b < 2 ^ 64) : dMulI (.int t) (.int b) = some (.int (t * b)) := by
  show (if decide (-(2 ^ 64) < t ∧ t < 2 ^ 64 ∨ -(2 ^ 64) < b ∧ b < 2 ^ 64) = true then some (D.int (t * b)) else none) = _
  rw [if_pos (decide_eq_true (.inr hb))]
theorem power_loop {b : Int} {n : D} (hb : -(2 ^ 64) < b ∧ b < 2 ^ 64) : ∀ (ds : List D) (t : Int) (z : Sl), ∃ z', forR (gNm 3) (fAug 2 (rdN 0) dMulI) ds [.im (.int b), .im n, .im (.int t), z] = .nx [.im (.int b), .im n, .im (.int (t * b ^ ds.length)), z']
  | [], t, z => ⟨z, by rw [forR]; simp⟩
  | d :: ds, t, z => by
    obtain ⟨z', h⟩ := power_loop hb ds (t * b) (.im d)
    refine ⟨z', ?_⟩
    have e : fAug 2 (rdN 0) dMulI [.im (.int b), .im n, .im (.int t), .im d] = .nx [.im (.int b), .im n, .im (.int (t * b)), .im d] := by
      show (match dMulI (.int t) (.int b) with | some z => Ro.nx _ | none => Ro.bad) = _
      rw [mulI_ok hb]
      rfl
    rw [forR]
    show (match fAug 2 (rdN 0) dMulI [.im (.int b), .im n, .im (.int t), .im d] with | .nx e' => _ | .ct e' => _ | .bk e' => _ | r => r) = _
    rw [e]
    dsimp only
    rw [h, List.length_cons, Int.pow_succ', Int.mul_assoc]
theorem power_eq (b : Int) (n : Nat) (hb : -(2 ^ 64) < b ∧ b < 2 ^ 64) (hn : n < 2 ^ 62) : F_power [.int b, .int n] = .ok (.int (b ^ n)) := by
  have hr : wRng1 (fCons (rdN 1) aNil) [.im (.int b), .im (.int n), .im (.int 1), .no] = .ok ((List.range n).map fun (i : Nat) => D.int (0 + (i : Int))) [.im (.int b), .im (.int n), .im (.int 1), .no] :=
    wRng1_ok (ds := [.int n]) rfl (rng1_eq (by omega) (by omega))
  obtain ⟨z', h⟩ := power_loop (n := .int n) hb ((List.range n).map fun (i : Nat) => D.int (0 + (i : Int))) 1 .no
  unfold F_power b_power
  rw [rSeq_nx (rSet_ok (by rfl))]
  show (rSeq (rFor _ _ _) _ [.im (.int b), .im (.int n), .im (.int 1), .no]).fn = _
  rw [rSeq_nx ((rFor_ok hr).trans h)]
  show Rf.ok (.int (1 * b ^ ((List.range n).map fun (i : Nat) => D.int (0 + (i : Int))).length)) = _
  rw [List.length_map, List.length_range, Int.one_mul]
def chooseI (n k : Int) : Int := if k < 0 ∨ k > n then 0 else PySem.W.mcComb n k
theorem choose_eq (n k : Int) (h : n < 2 ^ 64) (hk : k ≤ 9000 ∨ n ≤ 18000) : F_choose [.int n, .int k] = .ok (.int (chooseI n k)) := by
  unfold F_choose b_choose chooseI
  have t : bOr (fAsB (f2 (rdN 1) (vK (.int 0)) dLt)) (fAsB (f2 (rdN 1) (rdN 0) dGt)) (env0 2 [.int n, .int k]) = .ok (decide (k < 0 ∨ k > n)) (env0 2 [.int n, .int k]) := by
    by_cases c : k < 0
    · rw [bOr_t (by show Rs.ok (decide (k < 0)) _ = _; rw [decide_eq_true c])]
      simp [c]
    · rw [bOr_f (by show Rs.ok (decide (k < 0)) _ = _; rw [decide_eq_false c])]
      show Rs.ok (decide (n < k)) _ = _
      simp [c]
  by_cases c : k < 0 ∨ k > n
  · rw [if_pos c]
    rw [decide_eq_true c] at t
    rw [rSeq_rt (by rw [rIf_t t]; rfl)]
    rfl
  · rw [if_neg c]
    rw [decide_eq_false c] at t
    rw [rSeq_nx (e := env0 2 [.int n, .int k]) (by rw [rIf_f t])]
    have e : cComb [.int n, .int k] = some (.int (PySem.W.mcComb n k)) := by
      show (if 0 ≤ n ∧ 0 ≤ k ∧ n < 2 ^ 64 ∧ (k ≤ 9000 ∨ n ≤ 18000) then some _ else none) = _
      rw [if_pos (by omega)]
    have q : fCB (fCons (rdN 0) (fCons (rdN 1) aNil)) cComb (env0 2 [.int n, .int k]) = .ok (.int (PySem.W.mcComb n k)) (env0 2 [.int n, .int k]) := fCB_ok (ds := [.int n, .int k]) rfl e
    rw [rRet_ok q]
    rfl
/-! ## trees -/
inductive Tr where
  | words (n q : Nat) | sets (n k : Nat) | listed (rows : List (List Int)) | prod (a b : Tr)
def rowsD (l : Bool) (rows : List (List Int)) : D :=
  if l = true then .lst (rows.map fun r => .lst (r.map .int)) else .tup (rows.map fun r => .tup (r.map .int))
def Tr.D (l : Bool) : Tr → D
  | .words n q => .tup [.str "words", .int n, .int q]
  | .sets n k => .tup [.str "sets", .int n, .int k]
  | .listed rows => .tup [.str "listed", rowsD l rows]
  | .prod a b => .tup [.str "product", a.D l, b.D l]
def Tr.points : Tr → Int
  | .words n q => (q : Int) ^ n
  | .sets n k => chooseI n k
  | .listed rows => rows.length
  | .prod a b => a.points * b.points
def Tr.depth : Tr → Nat
  | .prod a b => max a.depth b.depth + 1
  | _ => 0
def Tr.fit : Tr → Prop
  | .words n q => q < 2 ^ 64 ∧ n < 2 ^ 62
  | .sets n k => n < 2 ^ 64 ∧ k ≤ 9000
  | .listed _ => True
  | .prod a b => a.fit ∧ b.fit ∧ mulOk a.points b.points = true
theorem eq_same : dEq (.str "words") (.str "words") = some (.bl true) ∧ dEq (.str "sets") (.str "sets") = some (.bl true) ∧ dEq (.str "listed") (.str "listed") = some (.bl true) ∧ dEq (.str "product") (.str "product") = some (.bl true) := by
  refine ⟨?_, ?_, ?_, ?_⟩ <;> (rw [dEq_str (by decide +kernel) (by decide +kernel)]; rfl)
theorem sort_is {x y : Str} {b : Bool} {env e : List Sl} {f : List Sl → Rs D} (h : f env = .ok (.str x) e) (hx : PyData.strOk x = true) (hy : PyData.strOk y = true) (q : (x == y) = b) : fAsB (f2 f (vK (.str y)) dEq) env = .ok b e := by
  subst q
  exact fAsB_ok (f2_ok h rfl (dEq_str hx hy))
theorem rec_part {F : List D → Rf} {i : Int} {x d : D} {env : List Sl} (h : fIx (rdN 0) (vK (.int i)) env = .ok x env) (q : F [x] = .ok d) : vCall 1 F (fCons (fIx (rdN 0) (vK (.int i))) aNil) env = .ok d env := by
  have a : fCons (fIx (rdN 0) (vK (.int i))) aNil env = .ok [x] env := by
    unfold fCons; rw [h]; rfl
  exact vCall_ok a rfl q
theorem points_eq (l : Bool) : ∀ (t : Tr) (m : Nat), t.depth < m → t.fit → F_points_of m [t.D l] = .ok (.int t.points)
  | _, 0, h, _ => absurd h (Nat.not_lt_zero _)
  | .words n q, m + 1, _, h => by
    show (b_points_of (F_points_of m) [.im (.tup [.str "words", .int n, .int q]), .no]).fn = _
    unfold b_points_of
    rw [rSeq_nx (rSet_ok (by rfl)), rSeq_rt (d := .int ((q : Int) ^ n))]
    · rfl
    · rw [rIf_t (sort_is (by rfl) (by decide +kernel) (by decide +kernel) (by rfl))]
      exact rRet_ok (vCall_ok (ds := [.int q, .int n]) rfl rfl (power_eq q n (by have := h.1; omega) h.2))
  | .sets n k, m + 1, _, h => by
    show (b_points_of (F_points_of m) [.im (.tup [.str "sets", .int n, .int k]), .no]).fn = _
    unfold b_points_of
    rw [rSeq_nx (rSet_ok (by rfl)), rSeq_nx (by rw [rIf_f (sort_is (by rfl) (by decide +kernel) (by decide +kernel) (by rfl))]), rSeq_rt (d := .int (chooseI n k))]
    · rfl
    · rw [rIf_t (sort_is (by rfl) (by decide +kernel) (by decide +kernel) (by rfl))]
      exact rRet_ok (vCall_ok (ds := [.int n, .int k]) rfl rfl (choose_eq n k (by have := h.1; omega) (.inl (by have := h.2; omega))))
  | .listed rows, m + 1, _, h => by
    show (b_points_of (F_points_of m) [.im (.tup [.str "listed", rowsD l rows]), .no]).fn = _
    unfold b_points_of
    rw [rSeq_nx (rSet_ok (by rfl)), rSeq_nx (by rw [rIf_f (sort_is (by rfl) (by decide +kernel) (by decide +kernel) (by rfl))]), rSeq_nx (by rw [rIf_f (sort_is (by rfl) (by decide +kernel) (by decide +kernel) (by rfl))]), rSeq_rt (d := .int rows.length)]
    · rfl
    · rw [rIf_t (sort_is (by rfl) (by decide +kernel) (by decide +kernel) (by rfl))]
      refine rRet_ok (fCB_ok (ds := [rowsD l rows]) rfl ?_)
      cases l
      · show some (D.int (rows.map _).length) = _; rw [List.length_map]
      · show some (D.int (rows.map _).length) = _; rw [List.length_map]
  | .prod a b, m + 1, hd, h => by
    have ia := points_eq l a m (by unfold Tr.depth at hd; omega) h.1
    have ib := points_eq l b m (by unfold Tr.depth at hd; omega) h.2.1
    show (b_points_of (F_points_of m) [.im (.tup [.str "product", a.D l, b.D l]), .no]).fn = _
    unfold b_points_of
    rw [rSeq_nx (rSet_ok (by rfl)), rSeq_nx (by rw [rIf_f (sort_is (by rfl) (by decide +kernel) (by decide +kernel) (by rfl))]), rSeq_nx (by rw [rIf_f (sort_is (by rfl) (by decide +kernel) (by decide +kernel) (by rfl))]), rSeq_nx (by rw [rIf_f (sort_is (by rfl) (by decide +kernel) (by decide +kernel) (by rfl))])]
    have p : dMul (.int a.points) (.int b.points) = some (.int (a.points * b.points)) := if_pos h.2.2
    rw [rRet_ok (f2_ok (rec_part (by rfl) ia) (rec_part (by rfl) ib) p)]
    rfl
def Tr.kinds : Tr → Int
  | .words n _ => n + 1
  | .sets _ k => k + 1
  | .listed rows => (match rows with
    | (x :: xs) :: _ => maxI x xs
    | _ => 0) + 1
  | .prod a b => a.kinds * b.kinds
def Tr.kfit : Tr → Prop
  | .listed rows => ∃ x xs rs, rows = (x :: xs) :: rs
  | .prod a b => a.kfit ∧ b.kfit ∧ mulOk a.kinds b.kinds = true
  | _ => True
theorem intsD_map : ∀ xs : List Int, intsD (xs.map D.int) = some xs
  | [] => rfl
  | x :: xs => by
    show (intsD (xs.map D.int)).map (x :: ·) = _
    rw [intsD_map xs]
    rfl
theorem ixD_first (x : D) (xs : List D) : ixD (.lst (x :: xs)) (.int 0) = some x ∧ ixD (.tup (x :: xs)) (.int 0) = some x := by
  have a : atI (x :: xs) 0 = some x := by
    have b : ixN (xs.length + 1) 0 = some 0 := by
      unfold ixN
      rw [if_pos (by omega)]
      rw [if_pos (by omega)]
      rfl
    show (ixN (xs.length + 1) 0).bind _ = _
    rw [b]
    rfl
  exact ⟨a, a⟩
theorem maxS_row (x : Int) (xs : List Int) (l : Bool) : cMaxS [if l = true then .lst ((x :: xs).map .int) else .tup ((x :: xs).map .int)] = some (.int (maxI x xs)) := by
  cases l <;> (show resMax ((x :: xs).map D.int) = _; unfold resMax; rw [intsD_map])
theorem kinds_eq (l : Bool) : ∀ (t : Tr) (m : Nat), t.depth < m → t.kfit → F_kinds_of m [t.D l] = .ok (.int t.kinds)
  | _, 0, h, _ => absurd h (Nat.not_lt_zero _)
  | .words n q, m + 1, _, h => by
    show (b_kinds_of (F_kinds_of m) [.im (.tup [.str "words", .int n, .int q]), .no]).fn = _
    unfold b_kinds_of
    rw [rSeq_nx (rSet_ok (by rfl)), rSeq_rt (d := .int ((n : Int) + 1))]
    · rfl
    · rw [rIf_t (sort_is (by rfl) (by decide +kernel) (by decide +kernel) (by rfl))]
      rfl
  | .sets n k, m + 1, _, h => by
    show (b_kinds_of (F_kinds_of m) [.im (.tup [.str "sets", .int n, .int k]), .no]).fn = _
    unfold b_kinds_of
    rw [rSeq_nx (rSet_ok (by rfl)), rSeq_nx (by rw [rIf_f (sort_is (by rfl) (by decide +kernel) (by decide +kernel) (by rfl))]), rSeq_rt (d := .int ((k : Int) + 1))]
    · rfl
    · rw [rIf_t (sort_is (by rfl) (by decide +kernel) (by decide +kernel) (by rfl))]
      rfl
  | .listed rows, m + 1, _, h => by
    obtain ⟨x, xs, rs, rfl⟩ := h
    show (b_kinds_of (F_kinds_of m) [.im (.tup [.str "listed", rowsD l ((x :: xs) :: rs)]), .no]).fn = _
    unfold b_kinds_of
    rw [rSeq_nx (rSet_ok (by rfl)), rSeq_nx (by rw [rIf_f (sort_is (by rfl) (by decide +kernel) (by decide +kernel) (by rfl))]), rSeq_nx (by rw [rIf_f (sort_is (by rfl) (by decide +kernel) (by decide +kernel) (by rfl))]),
      rSeq_rt (d := .int (maxI x xs + 1))]
    · rfl
    · rw [rIf_t (sort_is (by rfl) (by decide +kernel) (by decide +kernel) (by rfl))]
      have q (e : List Sl) (g : fIx (fIx (rdN 0) (vK (.int 1))) (vK (.int 0)) e = .ok (if l = true then .lst ((x :: xs).map .int) else .tup ((x :: xs).map .int)) e) :
          fCB (fCons (fIx (fIx (rdN 0) (vK (.int 1))) (vK (.int 0))) aNil) cMaxS e = .ok (.int (maxI x xs)) e := by
        refine fCB_ok (ds := [if l = true then .lst ((x :: xs).map .int) else .tup ((x :: xs).map .int)]) ?_ (maxS_row x xs l)
        unfold fCons; rw [g]; rfl
      have p : dAddU (.int (maxI x xs)) (.int 1) = some (.int (maxI x xs + 1)) := rfl
      have g (e : List Sl) (he : fIx (rdN 0) (vK (.int 1)) e = .ok (rowsD l ((x :: xs) :: rs)) e) : fIx (fIx (rdN 0) (vK (.int 1))) (vK (.int 0)) e = .ok (if l = true then .lst ((x :: xs).map .int) else .tup ((x :: xs).map .int)) e := by
        refine f2_ok he rfl ?_
        cases l
        · exact (ixD_first _ _).2
        · exact (ixD_first _ _).1
      rw [rRet_ok (f2_ok (q _ (g _ (by rfl))) (by rfl) p)]
  | .prod a b, m + 1, hd, h => by
    have ia := kinds_eq l a m (by unfold Tr.depth at hd; omega) h.1
    have ib := kinds_eq l b m (by unfold Tr.depth at hd; omega) h.2.1
    show (b_kinds_of (F_kinds_of m) [.im (.tup [.str "product", a.D l, b.D l]), .no]).fn = _
    unfold b_kinds_of
    rw [rSeq_nx (rSet_ok (by rfl)), rSeq_nx (by rw [rIf_f (sort_is (by rfl) (by decide +kernel) (by decide +kernel) (by rfl))]), rSeq_nx (by rw [rIf_f (sort_is (by rfl) (by decide +kernel) (by decide +kernel) (by rfl))]),
      rSeq_nx (by rw [rIf_f (sort_is (by rfl) (by decide +kernel) (by decide +kernel) (by rfl))])]
    have p : dMul (.int a.kinds) (.int b.kinds) = some (.int (a.kinds * b.kinds)) := if_pos h.2.2
    rw [rRet_ok (f2_ok (rec_part (by rfl) ia) (rec_part (by rfl) ib) p)]
    rfl
theorem fLc_ok {f : List Sl → Rs (List D)} {g : D → List Sl → Option (List Sl)} {t : List Sl → Rs Bool} {el : List Sl → Rs D} {own : List Nat} {env e : List Sl} {ds xs : List D} (h : f env = .ok ds e) (q : turnsD g t el (hideE own e) ds = some xs) (hl : xs.length ≤ sizeLine) :
    fLc f g t el own env = .ok (.l xs) e := by
  unfold fLc
  rw [h]
  show (match turnsD g t el (hideE own e) ds with | some xs => _ | none => _) = _
  rw [q]
  exact if_pos hl
theorem fCons_ok {f : List Sl → Rs D} {g : List Sl → Rs (List D)} {env e1 e2 : List Sl} {d : D} {ds : List D} (h : f env = .ok d e1) (h' : g e1 = .ok ds e2) : fCons f g env = .ok (d :: ds) e2 := by
  unfold fCons; rw [h]; show Rs.bind (g e1) _ = _; rw [h']; rfl
theorem fTup_ok {f : List Sl → Rs (List D)} {env e : List Sl} {ds : List D} (h : f env = .ok ds e) (hl : ds.length ≤ sizeLine) : fTup f env = .ok (.tup ds) e := by
  unfold fTup; rw [h]; exact if_pos hl
theorem mul_ok {i j : Int} (h : mulOk i j = true) : dMul (.int i) (.int j) = some (.int (i * j)) := if_pos h
theorem fdv_ok {i j : Int} (h : 0 < j ∧ j.natAbs.log2 < 9000) : dFdv (.int i) (.int j) = some (.int (i / j)) := if_pos (decide_eq_true h)
theorem while_go {c : List Sl → Rs Bool} {b : List Sl → Ro} {n : Nat} {env e e' : List Sl} (h : c env = .ok true e) (q : b e = .nx e') : whileR c b (n + 1) env = whileR c b n e' := by
  rw [whileR, h]
  show (match b e with | .nx e' => _ | .ct e' => _ | .bk e' => _ | r => r) = _
  rw [q]
theorem while_stop {c : List Sl → Rs Bool} {b : List Sl → Ro} {n : Nat} {env e : List Sl} (h : c env = .ok false e) : whileR c b (n + 1) env = .nx e := by
  unfold whileR; rw [h]; rfl
end K78
namespace K78
open PySem PySem.Spec PyProof.Rows L2 Pf
/-! ## the law's numbers -/
def small (xs : List Int) : Prop := ∀ x ∈ xs, 0 ≤ x ∧ x < 1009
theorem small_snoc {xs : List Int} (h : small xs) (i : Int) : small (xs ++ [i % 1009]) := by
  intro x hx
  obtain hx | hx := List.mem_append.mp hx
  · exact h x hx
  · rcases List.mem_cons.mp hx with rfl | hx
    · omega
    · cases hx
theorem mod_ok {i j : Int} (h : 0 < j) : dMod (.int i) (.int j) = some (.int (i % j)) := if_pos (decide_eq_true h)
def b_row : List Sl → Ro := (rSeq (rSet 4 (f2 (fCB (fCons (f2 (f2 (rdN 4) (vK (.int 16807)) dMul) (f2 (vK (.int 271)) (f2 (rdN 5) (vK (.int 3)) dAddU) dMul) dAddU) aNil) cInt) (vK (.int 2147483629)) dMod))
  (rIf (fAsB (f2 (fCB (fCons (rdN 0) aNil) cAbs) (f2 (vK (.int 10)) (vK (.int 18)) dPow) dGe)) (rSeq (rExpr (fApp 2 (f2 (fCB (fCons (rdN 3) aNil) cInt) (vK (.int 1009)) dMod)))
  (rSet 3 (f2 (rdN 3) (vK (.int 1009)) dFdv))) (rExpr (fApp 2 (f2 (fCB (fCons (f2 (rdN 4) (vK (.int 7)) dFdv) aNil) cInt) (vK (.int 1009)) dMod)))))
abbrev e6 (z m : Int) (xs : List Int) (r x k : Int) : List Sl := [.im (.int z), .im (.int m), .ow (.l (xs.map .int)), .im (.int r), .im (.int x), .im (.int k)]
theorem pow_ok {i j : Int} (h : 0 ≤ j ∧ j ≤ 1000000 ∧ i.natAbs < 2 ^ 64) : dPow (.int i) (.int j) = some (.int (i ^ j.toNat)) := if_pos (decide_eq_true h)
theorem small64 {i : Int} (h : -(2 ^ 64) < i ∧ i < 2 ^ 64) (j : Int) : mulOk i j = true ∧ mulOk j i = true := ⟨decide_eq_true (.inl (.inl h)), decide_eq_true (.inl (.inr h))⟩
theorem row_turn (z m : Int) (xs : List Int) (r x k : Int) (hs : small xs) (hl : xs.length < 2 ^ 20) : ∃ xs' r' x', b_row (e6 z m xs r x k) = .nx (e6 z m xs' r' x' k) ∧ small xs' ∧ xs'.length = xs.length + 1 := by
  let x1 : Int := (x * 16807 + 271 * (k + 3)) % 2147483629
  have s1 : f2 (fCB (fCons (f2 (f2 (rdN 4) (vK (.int 16807)) dMul) (f2 (vK (.int 271)) (f2 (rdN 5) (vK (.int 3)) dAddU) dMul) dAddU) aNil) cInt) (vK (.int 2147483629)) dMod (e6 z m xs r x k) = .ok (.int x1) (e6 z m xs r x k) := by
    have p1 : dMul (.int x) (.int 16807) = some (.int (x * 16807)) := mul_ok (small64 ⟨by decide, by decide⟩ x).2
    have p2 : dMul (.int 271) (.int (k + 3)) = some (.int (271 * (k + 3))) := mul_ok (small64 ⟨by decide, by decide⟩ (k + 3)).1
    exact f2_ok (fCB_ok (ds := [.int (x * 16807 + 271 * (k + 3))]) (fCons_ok (f2_ok (f2_ok (x := .int x) (y := .int 16807) (by rfl) (by rfl) p1) (f2_ok (x := .int 271) (y := .int (k + 3)) (by rfl) (f2_ok (x := .int k) (y := .int 3) (by rfl) (by rfl) rfl) p2) rfl) rfl) rfl) (by rfl) (mod_ok (by decide))
  have len (i : Int) : (xs ++ [i % 1009]).length = xs.length + 1 := by rw [List.length_append]; rfl
  have app (e : List Sl) (f : List Sl → Rs D) (i : Int) (he : e[2]? = some (.ow (.l (xs.map .int)))) (hf : f e = .ok (.int i) e) : fApp 2 f e = .ok .non (e.set 2 (.ow (.l ((xs ++ [i]).map .int)))) := by
    unfold fApp
    rw [he]
    dsimp only
    rw [hf]
    show (match e[2]? with | some (.ow (.l xs)) => _ | _ => _) = _
    rw [he]
    dsimp only
    rw [List.length_map, if_pos (Nat.lt_of_lt_of_le hl (Nat.le_of_ble_eq_true rfl)), List.map_append]
    rfl
  have g : f2 (fCB (fCons (rdN 0) aNil) cAbs) (f2 (vK (.int 10)) (vK (.int 18)) dPow) dGe (e6 z m xs r x1 k) = .ok (.bl (decide ((10 : Int) ^ 18 ≤ (if z < 0 then -z else z)))) (e6 z m xs r x1 k) :=
    f2_ok (fCB_ok (ds := [.int z]) (d := .int (if z < 0 then -z else z)) (by rfl) (by rfl)) (f2_ok (x := .int 10) (y := .int 18) (z := .int (10 ^ 18)) (by rfl) (by rfl) (pow_ok (i := 10) (j := 18) (by decide))) rfl
  by_cases c : (10 : Int) ^ 18 ≤ (if z < 0 then -z else z)
  · rw [decide_eq_true c] at g
    refine ⟨xs ++ [r % 1009], r / 1009, x1, ?_, small_snoc hs r, len r⟩
    have s2 : f2 (fCB (fCons (rdN 3) aNil) cInt) (vK (.int 1009)) dMod (e6 z m xs r x1 k) = .ok (.int (r % 1009)) (e6 z m xs r x1 k) := f2_ok (fCB_ok (ds := [.int r]) (d := .int r) (by rfl) (by rfl)) (by rfl) (mod_ok (by decide))
    have s3 : f2 (rdN 3) (vK (.int 1009)) dFdv (e6 z m (xs ++ [r % 1009]) r x1 k) = .ok (.int (r / 1009)) (e6 z m (xs ++ [r % 1009]) r x1 k) := f2_ok (x := .int r) (y := .int 1009) (by rfl) (by rfl) (fdv_ok ⟨by decide, by decide +kernel⟩)
    unfold b_row
    rw [rSeq_nx (e := e6 z m xs r x1 k) (rSet_ok s1), rIf_t (fAsB_ok g), rSeq_nx (e := e6 z m (xs ++ [r % 1009]) r x1 k) (rExpr_ok (app _ _ _ (by rfl) s2)), rSet_ok s3]
    rfl
  · rw [decide_eq_false c] at g
    refine ⟨xs ++ [x1 / 7 % 1009], r, x1, ?_, small_snoc hs _, len _⟩
    have s2 : f2 (fCB (fCons (f2 (rdN 4) (vK (.int 7)) dFdv) aNil) cInt) (vK (.int 1009)) dMod (e6 z m xs r x1 k) = .ok (.int (x1 / 7 % 1009)) (e6 z m xs r x1 k) :=
      f2_ok (fCB_ok (ds := [.int (x1 / 7)]) (d := .int (x1 / 7)) (fCons_ok (f2_ok (x := .int x1) (y := .int 7) (by rfl) (by rfl) (fdv_ok ⟨by decide, by decide +kernel⟩)) rfl) (by rfl)) (by rfl) (mod_ok (by decide))
    unfold b_row
    rw [rSeq_nx (e := e6 z m xs r x1 k) (rSet_ok s1), rIf_f (fAsB_ok g), rExpr_ok (app _ _ _ (by rfl) s2)]
    rfl
end K78
namespace K78
open PySem PySem.Spec PyProof.Rows L2 Pf
abbrev e6' (z m : Int) (xs : List Int) (r x : Int) (s : Sl) : List Sl := [.im (.int z), .im (.int m), .ow (.l (xs.map .int)), .im (.int r), .im (.int x), s]
theorem row_loop (z m : Int) : ∀ (c j : Nat) (xs : List Int) (r x : Int) (s : Sl), small xs → xs.length + c ≤ 2 ^ 20 →
    ∃ xs' r' x' s', forR (gNm 5) b_row ((List.range' j c).map fun (i : Nat) => D.int (0 + (i : Int))) (e6' z m xs r x s) = .nx (e6' z m xs' r' x' s') ∧ small xs' ∧ xs'.length = xs.length + c
  | 0, j, xs, r, x, s, hs, _ => ⟨xs, r, x, s, by rw [List.range'_zero, List.map_nil, forR], hs, rfl⟩
  | c + 1, j, xs, r, x, s, hs, hl => by
    obtain ⟨xs1, r1, x1, q, hs1, hl1⟩ := row_turn z m xs r x (0 + (j : Int)) hs (by omega)
    obtain ⟨xs2, r2, x2, s2, q2, hs2, hl2⟩ := row_loop z m c (j + 1) xs1 r1 x1 (.im (.int (0 + (j : Int)))) hs1 (by omega)
    refine ⟨xs2, r2, x2, s2, ?_, hs2, by omega⟩
    rw [List.range'_succ, List.map_cons, forR]
    show (match b_row (e6 z m xs r x (0 + (j : Int))) with | .nx e' => _ | .ct e' => _ | .bk e' => _ | r => r) = _
    rw [q]
    exact q2
theorem law_row_eq (z : Int) (m : Nat) (hm : m ≤ 2 ^ 20) : ∃ xs : List Int, F__law_row [.int z, .int m] = .ok (.lst (xs.map .int)) ∧ small xs ∧ xs.length = m := by
  let az : Int := if z < 0 then -z else z
  let x0 : Int := (az * 48271 + 69621) % 2147483647
  obtain ⟨xs, r, x, s, q, hs, hl⟩ := row_loop z m m 0 [] az x0 .no (fun _ h => by cases h) (by show 0 + m ≤ _; omega)
  rw [← List.range_eq_range'] at q
  refine ⟨xs, ?_, hs, by rw [hl]; exact Nat.zero_add m⟩
  have g : wRng1 (fCons (rdN 1) aNil) (e6' z m [] az x0 .no) = .ok ((List.range m).map fun (i : Nat) => D.int (0 + (i : Int))) (e6' z m [] az x0 .no) := wRng1_ok (ds := [.int m]) (fCons_ok (by rfl) rfl) (rng1_eq (by omega) (by omega))
  have p : f2 (fCB (fCons (f2 (f2 (rdN 3) (vK (.int 48271)) dMul) (vK (.int 69621)) dAddU) aNil) cInt) (vK (.int 2147483647)) dMod [.im (.int z), .im (.int m), .ow (.l []), .im (.int az), .no, .no] = .ok (.int x0) [.im (.int z), .im (.int m), .ow (.l []), .im (.int az), .no, .no] := by
    have p1 : dMul (.int az) (.int 48271) = some (.int (az * 48271)) := mul_ok (small64 ⟨by decide, by decide⟩ az).2
    exact f2_ok (fCB_ok (ds := [.int (az * 48271 + 69621)]) (d := .int (az * 48271 + 69621)) (fCons_ok (f2_ok (f2_ok (x := .int az) (y := .int 48271) (by rfl) (by rfl) p1) (by rfl) rfl) rfl) rfl) (by rfl) (mod_ok (by decide))
  show (b__law_row [.im (.int z), .im (.int m), .no, .no, .no, .no]).fn = _
  have w : (rSeq (rFor (wRng1 (fCons (rdN 1) aNil)) (gNm 5) b_row) (rRet (rdN 2))) (e6' z m [] az x0 .no) = .rt (.lst (xs.map .int)) := by
    rw [rSeq_nx ((rFor_ok g).trans q)]
    rfl
  unfold b_row at w
  unfold b__law_row
  rw [rSeq_nx (e := [.im (.int z), .im (.int m), .ow (.l []), .no, .no, .no]) (rSetO_ok (w := .l []) (by rfl)), rSeq_nx (e := [.im (.int z), .im (.int m), .ow (.l []), .im (.int az), .no, .no]) (rSet_ok (d := .int az) (by rfl)), rSeq_nx (e := e6' z m [] az x0 .no) (rSet_ok p), w]
  rfl
end K78
namespace K78
open PySem PySem.Spec PyProof.Rows L2 Pf
theorem cut_front (xs : List D) (k : Nat) : Pf.cutD xs none (some (k : Int)) = xs.take k := by
  unfold Pf.cutD
  rw [HT.sIx_none, HT.sIx_nat, List.drop_zero, Nat.sub_zero]
  rcases Nat.le_total k xs.length with h | h
  · rw [Nat.min_eq_left h]
  · rw [Nat.min_eq_right h, List.take_of_length_le (Nat.le_refl _), List.take_of_length_le h]
abbrev e7 (ns cs : List Int) (w : Int) (xs : List Int) (a b : Sl) : List Sl := [.im (.scr ns), .im (.int 20), .im (.lst (cs.map .int)), .im (.int w), .ow (.l (xs.map .int)), a, b]
theorem app7 (ns cs : List Int) (w : Int) (xs : List Int) (a b : Sl) (f : List Sl → Rs D) (i : Int) (hf : f (e7 ns cs w xs a b) = .ok (.int i) (e7 ns cs w xs a b)) (hl : xs.length < 2 ^ 20) : rExpr (fApp 4 f) (e7 ns cs w xs a b) = .nx (e7 ns cs w (xs ++ [i]) a b) := by
  have q : fApp 4 f (e7 ns cs w xs a b) = .ok .non (e7 ns cs w (xs ++ [i]) a b) := by
    unfold fApp
    show (Rs.bind (f (e7 ns cs w xs a b)) _) = _
    rw [hf]
    show (if (xs.map D.int).length < sizeLine then _ else _) = _
    rw [List.length_map, if_pos (Nat.lt_of_lt_of_le hl (Nat.le_of_ble_eq_true rfl))]
    have m : (xs ++ [i]).map D.int = xs.map D.int ++ [.int i] := List.map_append
    show _ = Rs.ok D.non [.im (.scr ns), .im (.int 20), .im (.lst (cs.map .int)), .im (.int w), .ow (.l ((xs ++ [i]).map .int)), a, b]
    rw [m]
    rfl
  exact rExpr_ok q
theorem inner_loop (ns cs : List Int) (w : Int) : ∀ (ys xs : List Int) (a b : Sl), small xs → small ys → xs.length + ys.length ≤ 2 ^ 20 →
    ∃ xs' b', forR (gNm 6) (rExpr (fApp 4 (rdN 6))) (ys.map .int) (e7 ns cs w xs a b) = .nx (e7 ns cs w xs' a b') ∧ small xs' ∧ xs'.length = xs.length + ys.length
  | [], xs, a, b, hs, _, _ => ⟨xs, b, by rw [List.map_nil, forR], hs, rfl⟩
  | y :: ys, xs, a, b, hs, hy, hl => by
    have hl' : (y :: ys).length = ys.length + 1 := rfl
    have s1 : small (xs ++ [y]) := by
      intro x hx
      obtain hx | hx := List.mem_append.mp hx
      · exact hs x hx
      · rcases List.mem_cons.mp hx with rfl | hx
        · exact hy _ List.mem_cons_self
        · cases hx
    obtain ⟨xs2, b2, q, hs2, hl2⟩ := inner_loop ns cs w ys (xs ++ [y]) a (.im (.int y)) s1 (fun x hx => hy x (List.mem_cons_of_mem _ hx)) (by rw [List.length_append]; show xs.length + 1 + _ ≤ _; omega)
    refine ⟨xs2, b2, ?_, hs2, ?_⟩
    · rw [List.map_cons, forR]
      show (match rExpr (fApp 4 (rdN 6)) (e7 ns cs w xs a (.im (.int y))) with | .nx e' => _ | .ct e' => _ | .bk e' => _ | r => r) = _
      rw [app7 ns cs w xs a (.im (.int y)) (rdN 6) y (by rfl) (by omega)]
      exact q
    · rw [hl2, List.length_append]
      show xs.length + 1 + _ = _
      omega
def b_cells : List Sl → Ro := rFor (fItems (vCall 2 F__law_row (fCons (rdN 5) (fCons (rdN 3) aNil)))) (gNm 6) (rExpr (fApp 4 (rdN 6)))
theorem outer_loop (ns cs : List Int) (w : Nat) (hw : w ≤ 21) : ∀ (ys xs : List Int) (a b : Sl), small xs → xs.length + ys.length * 21 ≤ 2 ^ 20 →
    ∃ xs' a' b', forR (gNm 5) b_cells (ys.map .int) (e7 ns cs w xs a b) = .nx (e7 ns cs w xs' a' b') ∧ small xs' ∧ xs'.length ≤ xs.length + ys.length * 21
  | [], xs, a, b, hs, _ => ⟨xs, a, b, by rw [List.map_nil, forR], hs, by omega⟩
  | y :: ys, xs, a, b, hs, hl => by
    have hl' : (y :: ys).length = ys.length + 1 := rfl
    rw [hl'] at hl
    obtain ⟨rs, r1, r2, r3⟩ := law_row_eq y w (by omega)
    obtain ⟨xs1, b1, q1, hs1, hl1⟩ := inner_loop ns cs w rs xs (.im (.int y)) b hs r2 (by omega)
    obtain ⟨xs2, a2, b2, q2, hs2, hl2⟩ := outer_loop ns cs w hw ys xs1 (.im (.int y)) b1 hs1 (by omega)
    refine ⟨xs2, a2, b2, ?_, hs2, by rw [hl']; omega⟩
    have it : fItems (vCall 2 F__law_row (fCons (rdN 5) (fCons (rdN 3) aNil))) (e7 ns cs w xs (.im (.int y)) b) = .ok (rs.map .int) (e7 ns cs w xs (.im (.int y)) b) := by
      have cl : vCall 2 F__law_row (fCons (rdN 5) (fCons (rdN 3) aNil)) (e7 ns cs w xs (.im (.int y)) b) = .ok (.lst (rs.map .int)) (e7 ns cs w xs (.im (.int y)) b) := vCall_ok (ds := [.int y, .int w]) (fCons_ok (by rfl) (fCons_ok (by rfl) rfl)) rfl r1
      unfold fItems
      rw [cl]
      rfl
    rw [List.map_cons, forR]
    show (match b_cells (e7 ns cs w xs (.im (.int y)) b) with | .nx e' => _ | .ct e' => _ | .bk e' => _ | r => r) = _
    have bc : b_cells (e7 ns cs w xs (.im (.int y)) b) = .nx (e7 ns cs w xs1 (.im (.int y)) b1) := (rFor_ok it).trans q1
    rw [bc]
    exact q2
theorem fill_loop (ns cs : List Int) (w : Int) (a b : Sl) : ∀ (k n : Nat) (xs : List Int), 20 ≤ xs.length + k → k < n → small xs → xs.length < 2 ^ 19 → k ≤ 20 →
    ∃ xs', whileR (fAsB (f2 (ownLen 4) (rdN 1) dLt)) (rExpr (fApp 4 (vK (.int 0)))) n (e7 ns cs w xs a b) = .nx (e7 ns cs w xs' a b) ∧ small xs' ∧ 20 ≤ xs'.length
  | _, 0, _, _, h, _, _, _ => absurd h (Nat.not_lt_zero _)
  | k, n + 1, xs, hk, hn, hs, hl, hk2 => by
    have c : fAsB (f2 (ownLen 4) (rdN 1) dLt) (e7 ns cs w xs a b) = .ok (decide ((xs.length : Int) < 20)) (e7 ns cs w xs a b) := by
      have o : ownLen 4 (e7 ns cs w xs a b) = .ok (.int xs.length) (e7 ns cs w xs a b) := by
        show Rs.ok (D.int ((xs.map D.int).length : Nat)) _ = _
        rw [List.length_map]
      exact fAsB_ok (f2_ok o (by rfl) rfl)
    by_cases h : (xs.length : Int) < 20
    · rw [decide_eq_true h] at c
      cases k with
      | zero => omega
      | succ k =>
        obtain ⟨xs', q, q1, q2⟩ := fill_loop ns cs w a b k n (xs ++ [0]) (by rw [List.length_append]; show 20 ≤ xs.length + 1 + k; omega) (by omega) (by
          intro x hx
          obtain hx | hx := List.mem_append.mp hx
          · exact hs x hx
          · rcases List.mem_cons.mp hx with rfl | hx
            · omega
            · cases hx) (by rw [List.length_append]; show xs.length + 1 < _; omega) (by omega)
        refine ⟨xs', ?_, q1, q2⟩
        rw [while_go c (app7 ns cs w xs a b (vK (.int 0)) 0 (by rfl) (by omega))]
        exact q
    · rw [decide_eq_false h] at c
      exact ⟨xs, while_stop c, hs, by omega⟩
theorem law_numbers_eq (ns : List Int) (hn : ns.length ≤ 63) : ∃ xs : List Int, F__law_numbers [.scr ns, .int 20] = .ok (.lst (xs.map .int)) ∧ small xs ∧ xs.length = 20 := by
  let w : Nat := 1 + 20 / max 1 ns.length
  have hw : w ≤ 21 := by
    have : 20 / max 1 ns.length ≤ 20 := Nat.div_le_self _ _
    show 1 + _ ≤ _
    omega
  obtain ⟨xs1, a1, b1, q1, hs1, hl1⟩ := outer_loop ns ns w hw ns [] .no .no (fun _ h => by cases h) (by show 0 + ns.length * 21 ≤ _; omega)
  have hl1' : xs1.length ≤ 63 * 21 := by
    have : ([] : List Int).length = 0 := rfl
    omega
  obtain ⟨xs2, q2, hs2, hl2⟩ := fill_loop ns ns w a1 b1 20 1000000 xs1 (by omega) (by omega) hs1 (by omega) (by omega)
  refine ⟨xs2.take 20, ?_, fun x hx => hs2 x (List.mem_of_mem_take hx), by rw [List.length_take]; omega⟩
  have p1 : fSl (rdN 0) pNo (fPart (vK (.int 63))) [.im (.scr ns), .im (.int 20), .no, .no, .no, .no, .no] = .ok (.lst (ns.map .int)) [.im (.scr ns), .im (.int 20), .no, .no, .no, .no, .no] := by
    show Rs.ok (D.lst (Pf.cutD (ns.map D.int) none (some ((63 : Nat) : Int)))) _ = _
    rw [cut_front, List.take_of_length_le (by rw [List.length_map]; exact hn)]
  have p2 : f2 (vK (.int 1)) (f2 (rdN 1) (fCB (fCons (vK (.int 1)) (fCons (fCB (fCons (rdN 2) aNil) cLen) aNil)) cMax2) dFdv) dAddU [.im (.scr ns), .im (.int 20), .im (.lst (ns.map .int)), .no, .no, .no, .no] = .ok (.int w) [.im (.scr ns), .im (.int 20), .im (.lst (ns.map .int)), .no, .no, .no, .no] := by
    have l1 : fCB (fCons (rdN 2) aNil) cLen [.im (.scr ns), .im (.int 20), .im (.lst (ns.map .int)), .no, .no, .no, .no] = .ok (.int ns.length) [.im (.scr ns), .im (.int 20), .im (.lst (ns.map .int)), .no, .no, .no, .no] := by
      refine fCB_ok (ds := [.lst (ns.map .int)]) (fCons_ok (by rfl) rfl) ?_
      show some (D.int ((ns.map D.int).length : Nat)) = _
      rw [List.length_map]
    have mx : cMax2 [.int 1, .int ns.length] = some (.int (max 1 ns.length : Nat)) := by
      show some (D.int (if (ns.length : Int) > 1 then (ns.length : Int) else 1)) = _
      by_cases h : (ns.length : Int) > 1
      · rw [if_pos h, Nat.max_eq_right (by omega)]
      · rw [if_neg h, Nat.max_eq_left (by omega)]
        rfl
    have dv : dFdv (.int 20) (.int (max 1 ns.length : Nat)) = some (.int (20 / (max 1 ns.length : Nat))) := fdv_ok ⟨by omega, Nat.lt_of_le_of_lt (Nat.log2_le_self _) (by omega)⟩
    have ad : dAddU (.int 1) (.int (20 / (max 1 ns.length : Nat))) = some (.int w) := by
      show some (D.int (1 + 20 / ((max 1 ns.length : Nat) : Int))) = some (D.int ((1 + 20 / max 1 ns.length : Nat) : Int))
      rw [Int.natCast_add, Int.natCast_ediv]
      rfl
    exact f2_ok (by rfl) (f2_ok (by rfl) (fCB_ok (ds := [.int 1, .int ns.length]) (fCons_ok (by rfl) (fCons_ok l1 rfl)) mx) dv) ad
  have it : fItems (rdN 2) (e7 ns ns w [] .no .no) = .ok (ns.map .int) (e7 ns ns w [] .no .no) := by rfl
  have p3 : fSl (rdN 4) pNo (fPart (rdN 1)) (e7 ns ns w xs2 a1 b1) = .ok (.lst ((xs2.take 20).map .int)) [.im (.scr ns), .im (.int 20), .im (.lst (ns.map .int)), .im (.int w), .im (.lst (xs2.map .int)), a1, b1] := by
    show Rs.ok (D.lst (Pf.cutD (xs2.map D.int) none (some ((20 : Nat) : Int)))) _ = _
    rw [cut_front, List.map_take]
    rfl
  have z : (rSeq (rFor (fItems (rdN 2)) (gNm 5) b_cells) (rSeq (whileR (fAsB (f2 (ownLen 4) (rdN 1) dLt)) (rExpr (fApp 4 (vK (.int 0)))) fuel) (rRet (fSl (rdN 4) pNo (fPart (rdN 1)))))) (e7 ns ns w [] .no .no) = .rt (.lst ((xs2.take 20).map .int)) := by
    rw [rSeq_nx ((rFor_ok it).trans q1), rSeq_nx (f := whileR _ _ fuel) q2, rRet_ok p3]
  show (b__law_numbers [.im (.scr ns), .im (.int 20), .no, .no, .no, .no, .no]).fn = _
  unfold b_cells at z
  unfold b__law_numbers
  rw [rSeq_nx (e := [.im (.scr ns), .im (.int 20), .im (.lst (ns.map .int)), .no, .no, .no, .no]) (rSet_ok p1), rSeq_nx (e := [.im (.scr ns), .im (.int 20), .im (.lst (ns.map .int)), .im (.int w), .no, .no, .no]) (rSet_ok p2), rSeq_nx (e := e7 ns ns w [] .no .no) (rSetO_ok (w := .l []) (by rfl)), z]
  rfl
end K78
namespace K78
open PySem L2 Pf
theorem dRep_ok (xs : List D) (j : Int) (h : -(2 ^ 63) ≤ j ∧ j < 2 ^ 63 ∧ xs.length * j.toNat ≤ sizeLine) : dRep (.lst xs) (.int j) = some (List.replicate j.toNat xs).flatten := if_pos h
theorem zeros (k : Nat) (hk : k ≤ 1000) : dRep (.lst [.int 0]) (.int k) = some ((List.replicate k (0 : Int)).map .int) := by
  have fl : ∀ m : Nat, (List.replicate m [D.int 0]).flatten = (List.replicate m (0 : Int)).map D.int := fun m => by
    induction m with
    | zero => rfl
    | succ m ih => rw [List.replicate_succ, List.flatten_cons, ih, List.replicate_succ]; rfl
  have bnd : [D.int 0].length * (k : Int).toNat ≤ sizeLine := Nat.le_trans (show [D.int 0].length * (k : Int).toNat ≤ 1000 by show 1 * _ ≤ 1000; omega) (Nat.le_of_ble_eq_true rfl)
  rw [dRep_ok _ _ ⟨by omega, by omega, bnd⟩, Int.toNat_natCast, fl]
/-! ### the law's own counts -/
theorem at_nat {α : Type} (f : Nat → α) {n x : Nat} (h : x < n) : atI ((List.range n).map f) (x : Int) = some (f x) := by
  unfold atI
  have a : ixN ((List.range n).map f).length (x : Int) = some x := by
    unfold ixN
    rw [if_pos (by omega), if_pos (by rw [List.length_map, List.length_range]; omega), Int.toNat_natCast]
  rw [a]
  show ((List.range n).map f)[x]? = _
  rw [List.getElem?_map, List.getElem?_range h]
  rfl
end K78
namespace K78
open PySem PySem.Spec PyProof.Rows L2 Pf
def rowD (l : Bool) (r : List Int) : D := if l = true then .lst (r.map .int) else .tup (r.map .int)
theorem rowsD_items (l : Bool) (rows : List (List Int)) : (rowsD l rows).items = some (rows.map (rowD l)) := by
  cases l <;> rfl
def Tr.short : Tr → Prop
  | .listed rows => rows.length ≤ sizeLine
  | .prod a b => a.short ∧ b.short
  | _ => True
def tupD : D → D
  | .lst xs => .tup xs
  | d => d
theorem tupD_row (l : Bool) (r : List Int) : tupD (rowD l r) = rowD false r := by cases l <;> rfl
theorem as_tuples_eq (l : Bool) : ∀ (t : Tr) (m : Nat), t.depth < m → t.short → F_as_tuples m [t.D l] = .ok (t.D false)
  | _, 0, h, _ => absurd h (Nat.not_lt_zero _)
  | .words n q, m + 1, _, _ => by
    show (b_as_tuples (F_as_tuples m) [.im (.tup [.str "words", .int n, .int q]), .no]).fn = _
    unfold b_as_tuples
    rw [rSeq_nx (by rw [rIf_f (sort_is (by rfl) (by decide +kernel) (by decide +kernel) (by rfl))]), rSeq_nx (by rw [rIf_f (sort_is (by rfl) (by decide +kernel) (by decide +kernel) (by rfl))])]
    rfl
  | .sets n k, m + 1, _, _ => by
    show (b_as_tuples (F_as_tuples m) [.im (.tup [.str "sets", .int n, .int k]), .no]).fn = _
    unfold b_as_tuples
    rw [rSeq_nx (by rw [rIf_f (sort_is (by rfl) (by decide +kernel) (by decide +kernel) (by rfl))]), rSeq_nx (by rw [rIf_f (sort_is (by rfl) (by decide +kernel) (by decide +kernel) (by rfl))])]
    rfl
  | .listed rows, m + 1, _, h => by
    show (b_as_tuples (F_as_tuples m) [.im (.tup [.str "listed", rowsD l rows]), .no]).fn = _
    have a : fLc (fItems (fIx (rdN 0) (vK (.int 1)))) (gNm 1) tYes' (fCB (fCons (rdN 1) aNil) cTuple) [1] [.im (.tup [.str "listed", rowsD l rows]), .no] = .ok (.l ((rows.map (rowD l)).map tupD)) [.im (.tup [.str "listed", rowsD l rows]), .no] := by
      refine fLc_ok (ds := rows.map (rowD l)) ?_ (turns_map tupD fun x hx => ?_) (by rw [List.length_map, List.length_map]; exact h)
      · show Rs.opt (rowsD l rows).items _ = _
        rw [rowsD_items]
        rfl
      · obtain ⟨r, _, rfl⟩ := List.mem_map.mp hx
        cases l
        · exact turnD_ok rfl (fCB_ok (ds := [rowD false r]) rfl rfl)
        · exact turnD_ok rfl (fCB_ok (ds := [rowD true r]) rfl rfl)
    have z : (b_as_tuples (F_as_tuples m) [.im (.tup [.str "listed", rowsD l rows]), .no]) = .rt (.tup [.str "listed", .tup ((rows.map (rowD l)).map tupD)]) := by
      unfold b_as_tuples
      refine rSeq_rt ?_
      rw [rIf_t (sort_is (by rfl) (by decide +kernel) (by decide +kernel) (by rfl))]
      exact rRet_ok (fTup_ok (fCons_ok rfl (fCons_ok (fCB_ok (fCons_ok (fFrz_ok a) rfl) rfl) rfl)) (Nat.le_of_ble_eq_true rfl))
    rw [z, List.map_map]
    have f : tupD ∘ rowD l = rowD false := funext (tupD_row l)
    rw [f]
    rfl
  | .prod a b, m + 1, hd, h => by
    have ia := as_tuples_eq l a m (by unfold Tr.depth at hd; omega) h.1
    have ib := as_tuples_eq l b m (by unfold Tr.depth at hd; omega) h.2
    show (b_as_tuples (F_as_tuples m) [.im (.tup [.str "product", a.D l, b.D l]), .no]).fn = _
    have pa : vCall 1 (F_as_tuples m) (fCons (fIx (rdN 0) (vK (.int 1))) aNil) [.im (.tup [.str "product", a.D l, b.D l]), .no] = _ := rec_part (by rfl) ia
    have pb : vCall 1 (F_as_tuples m) (fCons (fIx (rdN 0) (vK (.int 2))) aNil) [.im (.tup [.str "product", a.D l, b.D l]), .no] = _ := rec_part (by rfl) ib
    have z : (b_as_tuples (F_as_tuples m) [.im (.tup [.str "product", a.D l, b.D l]), .no]) = .rt (.tup [.str "product", a.D false, b.D false]) := by
      unfold b_as_tuples
      rw [rSeq_nx (by rw [rIf_f (sort_is (by rfl) (by decide +kernel) (by decide +kernel) (by rfl))])]
      refine rSeq_rt ?_
      rw [rIf_t (sort_is (by rfl) (by decide +kernel) (by decide +kernel) (by rfl))]
      exact rRet_ok (fTup_ok (fCons_ok rfl (fCons_ok pa (fCons_ok pb rfl))) (Nat.le_of_ble_eq_true rfl))
    rw [z]
    rfl
end K78
namespace K78
open PySem PySem.Spec PyProof.Rows L2 Pf
theorem chain_ok {f g h : List Sl → Rs D} {c1 c2 : D → D → Option D} {env : List Sl} {x y z : D} (hf : f env = .ok x env) (hg : g env = .ok y env) (hh : h env = .ok z env) (q1 : c1 x y = some (.bl true)) (q2 : c2 y z = some (.bl true)) :
    fChain f g h c1 c2 env = .ok (.bl true) env := by
  unfold fChain
  rw [hf]
  show Rs.bind (g env) _ = _
  rw [hg]
  show Rs.bind (Rs.opt ((c1 x y).bind D.asB) env) _ = _
  rw [q1]
  show Rs.bind (h env) _ = _
  rw [hh]
  show Rs.opt (c2 y z) env = _
  rw [q2]
  rfl
theorem le_ok {i j : Int} (h : i ≤ j) : dLe (.int i) (.int j) = some (.bl true) := by
  show some (D.bl (decide (i ≤ j))) = _
  rw [decide_eq_true h]
def e3 (s : Str) (a b : D) : List Sl := [.im (.tup [.str s, a, b]), .im (.str s)]
theorem part3 (s : Str) (a b : D) (hs : PyData.strOk s = true) (hl : (s == "listed") = false) {r : Ro}
    (h : (rSeq (rIf (fAsB (f2 (rdN 1) (vK (.str "words")) dEq)) (rRet (fAnd (vCall 1 F_are_integers (fCons (fSl (rdN 0) (fPart (vK (.int 1))) pNo) aNil)) (fAnd (fChain (vK (.int 1)) (fIx (rdN 0) (vK (.int 1))) (vK (.int 40)) dLe dLe) (fChain (vK (.int 2)) (fIx (rdN 0) (vK (.int 2))) (vK (.int 1000)) dLe dLe)))) Ro.nx)
      (rSeq (rIf (fAsB (f2 (rdN 1) (vK (.str "sets")) dEq)) (rRet (fAnd (vCall 1 F_are_integers (fCons (fSl (rdN 0) (fPart (vK (.int 1))) pNo) aNil)) (fAnd (f2 (vK (.int 1)) (fIx (rdN 0) (vK (.int 2))) dLe) (fChain (f2 (vK (.int 2)) (fIx (rdN 0) (vK (.int 2))) dMul) (fIx (rdN 0) (vK (.int 1))) (vK (.int 80)) dLe dLe)))) Ro.nx)
      (rRet (f2 (rdN 1) (vK (.str "product")) dEq)))) (e3 s a b) = r) :
    F_is_part [.tup [.str s, a, b]] = r.fn := by
  show (b_is_part [.im (.tup [.str s, a, b]), .no]).fn = _
  unfold b_is_part
  have t : bOr (bNot (fTru (fIsi (rdN 0) ["tuple"]))) (bNot (fTru (rdN 0))) [.im (.tup [.str s, a, b]), .no] = .ok false [.im (.tup [.str s, a, b]), .no] := by rfl
  rw [rSeq_nx (by rw [rIf_f t]), rSeq_nx (e := e3 s a b) (rSet_ok (by rfl)), rSeq_nx (e := e3 s a b) (by rw [rIf_f (sort_is (by rfl) hs (by decide +kernel) hl)])]
  have u : fAsB (f2 (fCB (fCons (rdN 0) aNil) cLen) (vK (.int 3)) dNe) (e3 s a b) = .ok false (e3 s a b) := fAsB_ok (f2_ok (fCB_ok (ds := [.tup [.str s, a, b]]) (d := .int 3) rfl rfl) rfl ((dNe_int 3 3).trans rfl))
  rw [rSeq_nx (e := e3 s a b) (by rw [rIf_f u]), h]
theorem two_ints (s : Str) (a b : Int) : vCall 1 F_are_integers (fCons (fSl (rdN 0) (fPart (vK (.int 1))) pNo) aNil) (e3 s (.int a) (.int b)) = .ok (.bl true) (e3 s (.int a) (.int b)) := by
  have g : fSl (rdN 0) (fPart (vK (.int 1))) pNo (e3 s (.int a) (.int b)) = .ok (.tup [.int a, .int b]) (e3 s (.int a) (.int b)) := by rfl
  refine vCall_ok (fCons_ok g rfl) rfl ((are_integers_eq (.tup [.int a, .int b]) rfl ?_).trans rfl)
  intro xs h x hx
  cases h
  obtain rfl | hx := List.mem_cons.mp hx
  · rfl
  · rcases List.mem_cons.mp hx with rfl | hx
    · rfl
    · cases hx
theorem part_words (n q : Int) (h : 1 ≤ n ∧ n ≤ 40 ∧ 2 ≤ q ∧ q ≤ 1000) : F_is_part [.tup [.str "words", .int n, .int q]] = .ok (.bl true) := by
  refine part3 (r := .rt (.bl true)) "words" (.int n) (.int q) (by decide +kernel) (by rfl) (rSeq_rt ?_)
  rw [rIf_t (sort_is (by rfl) (by decide +kernel) (by decide +kernel) (by rfl))]
  refine rRet_ok ((fAnd_t (two_ints "words" n q)).trans ((fAnd_t (chain_ok (by rfl) (y := .int n) (by rfl) (by rfl) (le_ok h.1) (le_ok h.2.1))).trans (chain_ok (by rfl) (y := .int q) (by rfl) (by rfl) (le_ok h.2.2.1) (le_ok h.2.2.2))))
theorem part_sets (n k : Int) (h : 1 ≤ k ∧ 2 * k ≤ n ∧ n ≤ 80) : F_is_part [.tup [.str "sets", .int n, .int k]] = .ok (.bl true) := by
  refine part3 (r := .rt (.bl true)) "sets" (.int n) (.int k) (by decide +kernel) (by rfl) ?_
  rw [rSeq_nx (e := e3 "sets" (.int n) (.int k)) (by rw [rIf_f (sort_is (by rfl) (by decide +kernel) (by decide +kernel) (by rfl))])]
  refine rSeq_rt ?_
  rw [rIf_t (sort_is (by rfl) (by decide +kernel) (by decide +kernel) (by rfl))]
  have m0 : mulOk 2 k = true := decide_eq_true (.inl (.inl ⟨by decide, by decide⟩))
  have m : dMul (.int 2) (.int k) = some (.int (2 * k)) := mul_ok m0
  refine rRet_ok ((fAnd_t (two_ints "sets" n k)).trans ((fAnd_t (f2_ok (x := .int 1) (y := .int k) (by rfl) (by rfl) (le_ok h.1))).trans (chain_ok (f2_ok (x := .int 2) (y := .int k) (by rfl) (by rfl) m) (y := .int n) (by rfl) (by rfl) (le_ok h.2.1) (le_ok h.2.2))))
theorem part_prod (a b : D) : F_is_part [.tup [.str "product", a, b]] = .ok (.bl true) := by
  refine part3 (r := .rt (.bl true)) "product" a b (by decide +kernel) (by rfl) ?_
  rw [rSeq_nx (e := e3 "product" a b) (by rw [rIf_f (sort_is (by rfl) (by decide +kernel) (by decide +kernel) (by rfl))]), rSeq_nx (e := e3 "product" a b) (by rw [rIf_f (sort_is (by rfl) (by decide +kernel) (by decide +kernel) (by rfl))])]
  exact rRet_ok (f2_ok (x := .str "product") (y := .str "product") rfl rfl eq_same.2.2.2)
theorem part_listed (rows : D) (h : F_table_fault [rows] = .ok .non) : F_is_part [.tup [.str "listed", rows]] = .ok (.bl true) := by
  show (b_is_part [.im (.tup [.str "listed", rows]), .no]).fn = _
  unfold b_is_part
  have t : bOr (bNot (fTru (fIsi (rdN 0) ["tuple"]))) (bNot (fTru (rdN 0))) [.im (.tup [.str "listed", rows]), .no] = .ok false [.im (.tup [.str "listed", rows]), .no] := by rfl
  have u : f2 (fCB (fCons (rdN 0) aNil) cLen) (vK (.int 2)) dEq [.im (.tup [.str "listed", rows]), .im (.str "listed")] = .ok (.bl true) [.im (.tup [.str "listed", rows]), .im (.str "listed")] := f2_ok (fCB_ok (ds := [.tup [.str "listed", rows]]) (d := .int 2) rfl rfl) rfl ((dEq_int 2 2).trans rfl)
  rw [rSeq_nx (by rw [rIf_f t]), rSeq_nx (e := [.im (.tup [.str "listed", rows]), .im (.str "listed")]) (rSet_ok (by rfl)), rSeq_rt (d := .bl true)]
  · rfl
  · rw [rIf_t (sort_is (by rfl) (by decide +kernel) (by decide +kernel) (by rfl))]
    exact rRet_ok ((fAnd_t u).trans (f2_ok (rec_part (by rfl) h) (by rfl) (by rfl)))
end K78
namespace K78
open PySem PySem.Spec PyProof.Rows L2 Pf
def Tr.good (l : Bool) : Tr → Prop
  | .words n q => 1 ≤ n ∧ n ≤ 40 ∧ 2 ≤ q ∧ q ≤ 1000
  | .sets n k => 1 ≤ k ∧ 2 * k ≤ n ∧ n ≤ 80
  | .listed rows => F_table_fault [rowsD l rows] = .ok .non
  | .prod a b => a.good l ∧ b.good l
def Tr.many : Tr → Nat
  | .prod a b => 1 + a.many + b.many
  | _ => 1
theorem node_part (l : Bool) (t : Tr) (h : t.good l) : F_is_part [t.D l] = .ok (.bl true) := by
  cases t with
  | words n q => exact part_words n q (by unfold Tr.good at h; omega)
  | sets n k => exact part_sets n k (by unfold Tr.good at h; omega)
  | listed rows => exact part_listed _ h
  | prod a b => exact part_prod _ _
def wsD (l : Bool) (ws : List Tr) : List D := (ws.map (Tr.D l)).reverse
def ws_many (ws : List Tr) : Nat := (ws.map Tr.many).sum
abbrev envP (t : D) (ps ws : List D) (z : Sl) : List Sl := [.im t, .ow (.l ps), .ow (.l ws), z]
theorem pop_ok {t d : D} {ps ws : List D} {z : Sl} : fPop 2 (envP t ps (ws ++ [d]) z) = .ok d (envP t ps ws z) := by
  show (match (ws ++ [d])[(ws ++ [d]).length - 1]? with | some d => _ | none => _) = _
  have a : (ws ++ [d])[(ws ++ [d]).length - 1]? = some d := by
    rw [List.length_append]
    show (ws ++ [d])[ws.length + 1 - 1]? = _
    rw [Nat.add_sub_cancel, List.getElem?_append_right (Nat.le_refl _), Nat.sub_self]
    rfl
  rw [a, List.dropLast_concat]
  rfl
def b_part : List Sl → Ro := (rSeq (rSet 3 (fPop 2))
  (rSeq (rIf (bOr (fAsB (f2 (ownLen 1) (vK (.int 8)) dEq)) (bNot (fTru (vCall 1 F_is_part (fCons (rdN 3) aNil))))) (rRet (vK .non)) Ro.nx)
  (rSeq (rExpr (fApp 1 (rdN 3)))
  (rIf (fAsB (f2 (fIx (rdN 3) (vK (.int 0))) (vK (.str "product")) dEq)) (rExpr (fExt 2 (fSl (rdN 3) (fPart (vK (.int 1))) pNo))) Ro.nx))))
theorem part_begin (t0 : D) (ps ws : List D) (z : Sl) (d : D) (hp : F_is_part [d] = .ok (.bl true)) (hl : ps.length < 8) : b_part (envP t0 ps (ws ++ [d]) z) =
    (rIf (fAsB (f2 (fIx (rdN 3) (vK (.int 0))) (vK (.str "product")) dEq)) (rExpr (fExt 2 (fSl (rdN 3) (fPart (vK (.int 1))) pNo))) Ro.nx) (envP t0 (ps ++ [d]) ws (.im d)) := by
  unfold b_part
  rw [rSeq_nx (e := envP t0 ps ws (.im d)) (rSet_ok pop_ok)]
  have a : fAsB (f2 (ownLen 1) (vK (.int 8)) dEq) (envP t0 ps ws (.im d)) = .ok false (envP t0 ps ws (.im d)) := by
    refine fAsB_ok (f2_ok (x := .int ps.length) (y := .int 8) (by rfl) (by rfl) ((dEq_int _ _).trans ?_))
    have : ((ps.length : Int) == 8) = false := beq_eq_false_iff_ne.mpr (by omega)
    rw [this]
  have b : bNot (fTru (vCall 1 F_is_part (fCons (rdN 3) aNil))) (envP t0 ps ws (.im d)) = .ok false (envP t0 ps ws (.im d)) :=
    bNot_ok (b := true) (fTru_ok (vCall_ok (ds := [d]) (fCons_ok (by rfl) rfl) rfl hp) rfl)
  rw [rSeq_nx (e := envP t0 ps ws (.im d)) (by rw [rIf_f ((bOr_f a).trans b)])]
  have c : fApp 1 (rdN 3) (envP t0 ps ws (.im d)) = .ok .non (envP t0 (ps ++ [d]) ws (.im d)) := by
    show (if ps.length < sizeLine then _ else _) = _
    rw [if_pos (Nat.lt_trans hl (Nat.le_of_ble_eq_true rfl))]
    rfl
  rw [rSeq_nx (rExpr_ok c)]
theorem many_pos (t : Tr) : 1 ≤ t.many := by cases t <;> (unfold Tr.many; omega)
theorem len_many : ∀ ws : List Tr, ws.length ≤ ws_many ws
  | [] => Nat.le_refl _
  | t :: ws => by
    have a := len_many ws
    have b := many_pos t
    unfold ws_many at a ⊢
    rw [List.map_cons, List.sum_cons, List.length_cons]
    omega
theorem parts_loop (l : Bool) (t0 : D) : ∀ (n : Nat) (ws : List Tr) (ps : List D) (z : Sl), (∀ t ∈ ws, t.good l) → ps.length + ws_many ws ≤ 8 → ws_many ws < n →
    ∃ ps' z', whileR (ownTru 2) b_part n (envP t0 ps (wsD l ws) z) = .nx (envP t0 ps' [] z') ∧ ps'.length = ps.length + ws_many ws
  | 0, _, _, _, _, _, h => absurd h (Nat.not_lt_zero _)
  | n + 1, [], ps, z, _, _, _ => ⟨ps, z, while_stop (by rfl), rfl⟩
  | n + 1, t :: ws, ps, z, hg, h8, hn => by
    have hw : wsD l (t :: ws) = wsD l ws ++ [t.D l] := by
      unfold wsD
      rw [List.map_cons, List.reverse_cons]
    have hm : ws_many (t :: ws) = t.many + ws_many ws := by
      unfold ws_many
      simp only [List.sum_cons, List.map_cons]
    have hc : ownTru 2 (envP t0 ps (wsD l ws ++ [t.D l]) z) = .ok true (envP t0 ps (wsD l ws ++ [t.D l]) z) := by
      show Rs.ok (((wsD l ws ++ [t.D l]).length : Int) != 0) _ = _
      have : (((wsD l ws ++ [t.D l]).length : Int) != 0) = true := by
        rw [List.length_append]
        exact bne_iff_ne.mpr (by show ((_ + 1 : Nat) : Int) ≠ 0; omega)
      rw [this]
    have m1 : 1 ≤ t.many := by cases t <;> (unfold Tr.many; omega)
    have hl : ps.length < 8 := by omega
    have hb := part_begin t0 ps (wsD l ws) z (t.D l) (node_part l t (hg t List.mem_cons_self)) hl
    rw [hw, hm]
    have flat (q : t.many = 1) (r : fAsB (f2 (fIx (rdN 3) (vK (.int 0))) (vK (.str "product")) dEq) (envP t0 (ps ++ [t.D l]) (wsD l ws) (.im (t.D l))) = .ok false (envP t0 (ps ++ [t.D l]) (wsD l ws) (.im (t.D l)))) :
        ∃ ps' z', whileR (ownTru 2) b_part (n + 1) (envP t0 ps (wsD l ws ++ [t.D l]) z) = .nx (envP t0 ps' [] z') ∧ ps'.length = ps.length + (t.many + ws_many ws) := by
      rw [while_go hc (hb.trans (rIf_f r))]
      obtain ⟨ps', z', e1, e2⟩ := parts_loop l t0 n ws (ps ++ [t.D l]) (.im (t.D l)) (fun x hx => hg x (List.mem_cons_of_mem _ hx)) (by rw [List.length_append]; show ps.length + 1 + _ ≤ 8; omega) (by omega)
      refine ⟨ps', z', e1, ?_⟩
      rw [e2, List.length_append]
      show ps.length + 1 + _ = _
      omega
    cases t with
    | words a b => exact flat rfl (sort_is (by rfl) (by decide +kernel) (by decide +kernel) (by rfl))
    | sets a b => exact flat rfl (sort_is (by rfl) (by decide +kernel) (by decide +kernel) (by rfl))
    | listed rows => exact flat rfl (sort_is (by rfl) (by decide +kernel) (by decide +kernel) (by rfl))
    | prod a b =>
      have r : fAsB (f2 (fIx (rdN 3) (vK (.int 0))) (vK (.str "product")) dEq) (envP t0 (ps ++ [(Tr.prod a b).D l]) (wsD l ws) (.im ((Tr.prod a b).D l))) = .ok true (envP t0 (ps ++ [(Tr.prod a b).D l]) (wsD l ws) (.im ((Tr.prod a b).D l))) :=
        sort_is (by rfl) (by decide +kernel) (by decide +kernel) (by rfl)
      have gg := hg _ List.mem_cons_self
      have x : fExt 2 (fSl (rdN 3) (fPart (vK (.int 1))) pNo) (envP t0 (ps ++ [(Tr.prod a b).D l]) (wsD l ws) (.im ((Tr.prod a b).D l))) = .ok .non (envP t0 (ps ++ [(Tr.prod a b).D l]) (wsD l (b :: a :: ws)) (.im ((Tr.prod a b).D l))) := by
        show (if (wsD l ws).length + 2 ≤ sizeLine then Rs.ok D.non _ else _) = _
        have ll : (wsD l ws).length ≤ ws_many ws := by
          unfold wsD
          rw [List.length_reverse, List.length_map]
          exact len_many ws
        have hs : (wsD l ws).length + 2 ≤ sizeLine := Nat.le_trans (m := 10) (by omega) (Nat.le_of_ble_eq_true rfl)
        rw [if_pos hs]
        have hh : wsD l (b :: a :: ws) = wsD l ws ++ [a.D l, b.D l] := by
          unfold wsD
          rw [List.map_cons, List.map_cons, List.reverse_cons, List.reverse_cons, List.append_assoc]
          rfl
        rw [hh]
        rfl
      rw [while_go hc (hb.trans ((rIf_t r).trans (rExpr_ok x)))]
      have hm2 : ws_many (b :: a :: ws) = b.many + (a.many + ws_many ws) := by
        unfold ws_many
        rw [List.map_cons, List.sum_cons, List.map_cons, List.sum_cons]
      have hm3 : (Tr.prod a b).many = 1 + a.many + b.many := rfl
      obtain ⟨ps', z', e1, e2⟩ := parts_loop l t0 n (b :: a :: ws) (ps ++ [(Tr.prod a b).D l]) (.im ((Tr.prod a b).D l)) (by
        intro x hx
        obtain rfl | hx := List.mem_cons.mp hx
        · exact gg.2
        · rcases List.mem_cons.mp hx with rfl | hx
          · exact gg.1
          · exact hg x (List.mem_cons_of_mem _ hx)) (by rw [List.length_append, hm2]; show ps.length + 1 + _ ≤ 8; omega) (by omega)
      refine ⟨ps', z', e1, ?_⟩
      rw [e2, List.length_append, hm2]
      show ps.length + 1 + _ = _
      omega
theorem parts_of_eq (l : Bool) (t : Tr) (hg : t.good l) (h8 : t.many ≤ 8) : ∃ ps : List D, F_parts_of [t.D l] = .ok (.lst ps) ∧ ps.length = t.many := by
  obtain ⟨ps, z, e1, e2⟩ := parts_loop l (t.D l) 1000000 [t] [] .no (fun x hx => by
    obtain rfl | hx := List.mem_cons.mp hx
    · exact hg
    · cases hx) (by show 0 + (t.many + 0) ≤ 8; omega) (by show t.many + 0 < _; omega)
  refine ⟨ps, ?_, ?_⟩
  · show (b_parts_of [.im (t.D l), .no, .no, .no]).fn = _
    unfold b_parts_of
    have a : fLst (fCons (rdN 0) aNil) (envP (t.D l) [] [] .no) = .ok (.l [t.D l]) (envP (t.D l) [] [] .no) := by rfl
    rw [rSeq_nx (e := [.im (t.D l), .ow (.l []), .no, .no]) (rSetO_ok (w := .l []) (by rfl)), rSeq_nx (e := envP (t.D l) [] [t.D l] .no) (rSetO_ok (w := .l [t.D l]) (by rfl))]
    have e1 : whileR (ownTru 2) b_part fuel (envP (t.D l) [] [t.D l] .no) = .nx (envP (t.D l) ps [] z) := e1
    have q : (rSeq (whileR (ownTru 2) b_part fuel) (rRet (rdN 1))) (envP (t.D l) [] [t.D l] .no) = .rt (.lst ps) := by
      rw [rSeq_nx e1]
      rfl
    unfold b_part at q
    rw [q]
    rfl
  · rw [e2]
    show 0 + (t.many + 0) = _
    omega
theorem is_scheme_eq (l : Bool) (t : Tr) (hg : t.good l) (h8 : t.many ≤ 8) (hd : t.depth < 20) (hf : t.fit) (hk : t.kfit) (hp : t.points ≤ 10 ^ 60) (h60 : t.kinds ≤ 60) : F_is_scheme [t.D l] = .ok (.bl true) := by
  obtain ⟨ps, e1, e2⟩ := parts_of_eq l t hg h8
  show (b_is_scheme [.im (t.D l), .no]).fn = _
  unfold b_is_scheme
  have a : vCall 1 F_parts_of (fCons (rdN 0) aNil) [.im (t.D l), .no] = .ok (.lst ps) [.im (t.D l), .no] := vCall_ok (ds := [t.D l]) (fCons_ok (by rfl) rfl) rfl e1
  have b : fAsB (f2 (rdN 1) (vK .non) dIsN) [.im (t.D l), .im (.lst ps)] = .ok false [.im (t.D l), .im (.lst ps)] := by rfl
  have c1 : vCall 1 (F_points_of 20) (fCons (rdN 0) aNil) [.im (t.D l), .im (.lst ps)] = .ok (.int t.points) [.im (t.D l), .im (.lst ps)] := vCall_ok (ds := [t.D l]) (fCons_ok (by rfl) rfl) rfl (points_eq l t 20 hd hf)
  have c2 : vCall 1 (F_kinds_of 20) (fCons (rdN 0) aNil) [.im (t.D l), .im (.lst ps)] = .ok (.int t.kinds) [.im (t.D l), .im (.lst ps)] := vCall_ok (ds := [t.D l]) (fCons_ok (by rfl) rfl) rfl (kinds_eq l t 20 hd hk)
  rw [rSeq_nx (e := [.im (t.D l), .im (.lst ps)]) (rSet_ok a), rSeq_nx (e := [.im (t.D l), .im (.lst ps)]) (by rw [rIf_f b]), rRet_ok ((fAnd_t (f2_ok c1 (by rfl) (le_ok hp))).trans (f2_ok c2 (by rfl) (le_ok h60)))]
  rfl
end K78
namespace K78
open PySem PySem.Spec PyProof.Rows L2 Pf
structure Tr.Ok (t : Tr) : Prop where
  good : ∀ l, t.good l
  many : t.many ≤ 8
  depth : t.depth < 20
  fit : t.fit
  kfit : t.kfit
  short : t.short
  points : t.points ≤ 10 ^ 60
  kinds : t.kinds ≤ 60
theorem checked_eq (l : Bool) (t : Tr) (h : t.Ok) : F_checked [t.D l] = .ok (t.D false) := by
  have a : bNot (fTru (vCall 1 F_is_scheme (fCons (rdN 0) aNil))) [.im (t.D l)] = .ok false [.im (t.D l)] :=
    bNot_ok (b := true) (fTru_ok (vCall_ok (ds := [t.D l]) (fCons_ok (by rfl) rfl) rfl (is_scheme_eq l t (h.good l) h.many h.depth h.fit h.kfit h.points h.kinds)) rfl)
  have b : vCall 1 (F_as_tuples 20) (fCons (rdN 0) aNil) [.im (t.D l)] = .ok (t.D false) [.im (t.D l)] := vCall_ok (ds := [t.D l]) (fCons_ok (by rfl) rfl) rfl (as_tuples_eq l t 20 h.depth h.short)
  show (b_checked [.im (t.D l)]).fn = _
  unfold b_checked
  rw [rSeq_nx (e := [.im (t.D l)]) (by rw [rIf_f a]), rRet_ok b]
  rfl
end K78
namespace K78
open PySem PySem.Spec PyProof.Rows L2 Pf
/-! ### choices -/
def cN (n k : Nat) : Nat := 4294967297 ^ n / 4294967296 ^ k % 4294967296
theorem cN_box : ((List.range 29).all fun n => (List.range 29).all fun k => decide (chooseI (n : Int) (k : Int) = (cN n k : Int))) = true := by decide +kernel
theorem cN_eq {n k : Nat} (hn : n ≤ 28) (hk : k ≤ 28) : chooseI (n : Int) (k : Int) = (cN n k : Int) :=
  of_decide_eq_true (List.all_eq_true.mp (List.all_eq_true.mp cN_box n (List.mem_range.mpr (by omega))) k (List.mem_range.mpr (by omega)))
theorem cN_lt (n k : Nat) : cN n k < 4294967296 := Nat.mod_lt _ (by decide)
theorem fch {n k : Nat} (hn : n ≤ 28) (hk : k ≤ 28) : F_choose [.int (n : Int), .int (k : Int)] = .ok (.int ((cN n k : Nat) : Int)) := by
  rw [choose_eq (n : Int) (k : Int) (by omega) (.inl (by omega)), cN_eq hn hk]
/-! ### choices, as the law reckons them -/
def chF (n : Nat) : Nat → Nat
  | 0 => 1
  | j + 1 => chF n j * (n - j) / (j + 1)
theorem chF_box : ((List.range 29).all fun n => (List.range 29).all fun k => if k ≤ n then Nat.beq (chF n k) (cN n k) else Nat.beq (cN n k) 0) = true := by kernel_rfl
theorem chF_eq {n k : Nat} (hn : n ≤ 28) (hk : k ≤ n) : chF n k = cN n k := by
  have q := List.all_eq_true.mp (List.all_eq_true.mp chF_box n (List.mem_range.mpr (by omega))) k (List.mem_range.mpr (by omega))
  rw [if_pos hk] at q
  exact Nat.eq_of_beq_eq_true q
theorem cN_zero {n k : Nat} (hn : k ≤ 28) (hk : n < k) : cN n k = 0 := by
  have q := List.all_eq_true.mp (List.all_eq_true.mp chF_box n (List.mem_range.mpr (by omega))) k (List.mem_range.mpr (by omega))
  rw [if_neg (by omega)] at q
  exact Nat.eq_of_beq_eq_true q
theorem lch {n k : Nat} (hn : n ≤ 28) (hk : k ≤ 28) : F__law_choose [.int (n : Int), .int (k : Int)] = .ok (.int ((cN n k : Nat) : Int)) := by
  show (b__law_choose [.im (.int (n : Int)), .im (.int (k : Int)), .no, .no]).fn = _
  unfold b__law_choose
  by_cases c : n < k
  · rw [cN_zero hk c]
    simp_arith []
    rfl
  · have loop : forR (gNm 3) (rSet 2 (fCB (fCons (f2 (f2 (rdN 2) (f2 (rdN 0) (rdN 3) dSub) dMul) (f2 (rdN 3) (vK (.int 1)) dAddU) dFdv) aNil) cInt)) ((List.range k).map fun (i : Nat) => D.int (i : Int)) [.im (.int (n : Int)), .im (.int (k : Int)), .im (.int 1), .no]
        = .nx [.im (.int (n : Int)), .im (.int (k : Int)), .im (.int ((chF n k : Nat) : Int)), lvN .no k] := forR_ix (g := gNm 3) (b := rSet 2 (fCB (fCons (f2 (f2 (rdN 2) (f2 (rdN 0) (rdN 3) dSub) dMul) (f2 (rdN 3) (vK (.int 1)) dAddU) dFdv) aNil) cInt)) (fun i : Nat => D.int (i : Int))
      (fun j => [.im (.int (n : Int)), .im (.int (k : Int)), .im (.int ((chF n j : Nat) : Int)), lvN .no j]) k (fun j hj => by
        have e : ((chF n j : Nat) : Int) * ((n : Int) - (j : Int)) / ((j : Int) + 1) = ((chF n (j + 1) : Nat) : Int) := by
          rw [chF, Int.natCast_ediv, Int.natCast_mul, Int.natCast_sub (by omega)]
          rfl
        refine ⟨_, rfl, .inl ?_⟩
        simp_arith [x_mul_r (a := ((chF n j : Nat) : Int)) (b := (n : Int) - (j : Int)) (by omega) (by omega), e, lvN])
    have rg : rng1 [.int (k : Int)] = some ((List.range k).map fun (i : Nat) => D.int (i : Int)) := x_rng1 k (by omega)
    rw [← chF_eq hn (by omega)]
    simp_arith [rg, loop]
/-! ### products of polynomials -/
abbrev inL (n : Nat) (f : Nat → Int) : List D := (List.range n).map fun x => .int (f x)
theorem inL_len (n : Nat) (f : Nat → Int) : (inL n f).length = n := by rw [List.length_map, List.length_range]
theorem inL_get {n : Nat} {f : Nat → Int} {x : Nat} (h : x < n) : (inL n f).getD x .non = .int (f x) := by
  rw [List.getD_eq_getElem?_getD, List.getElem?_eq_getElem (by rw [inL_len]; exact h), List.getElem_map, List.getElem_range]
  rfl
theorem inL_set {n : Nat} {f : Nat → Int} {x : Nat} {z : Int} : (inL n f).set x (.int z) = inL n fun y => if y = x then z else f y := by
  apply List.ext_getElem
  · rw [List.length_set, inL_len, inL_len]
  · intro i h1 h2
    rw [List.getElem_set, List.getElem_map, List.getElem_map, List.getElem_range]
    by_cases c : x = i
    · show _ = D.int (if i = x then z else f i)
      rw [if_pos c, if_pos c.symm]
    · show _ = D.int (if i = x then z else f i)
      rw [if_neg c, if_neg (fun e : i = x => c e.symm)]
theorem enum_map (m : Nat) (f : Nat → D) : enum0 [.lst ((List.range m).map f)] = some ((List.range m).map fun (i : Nat) => .tup [.int (i : Int), f i]) := by
  show some (((List.range m).map f).mapIdx fun i d => D.tup [.int (0 + (i : Int)), d]) = _
  congr 1
  apply List.ext_getElem
  · simp
  · intro i h1 h2
    rw [List.getElem_mapIdx, List.getElem_map, List.getElem_map, List.getElem_range, Int.zero_add]
/-- the numbers ahead of the turn S, t -/
def cv (A B : Nat → Int) (l : Nat) : Nat → Nat → Int
  | 0, _ => 0
  | S + 1, x => cv A B l S x + cond (Nat.ble S x && Nat.blt x (S + l)) (A S * B (x - S)) 0
def cvT (A B : Nat → Int) (l S t x : Nat) : Int := cv A B l S x + if S ≤ x ∧ x < S + t then A S * B (x - S) else 0
theorem cvT_zero (A B : Nat → Int) (l S : Nat) : cvT A B l S 0 = cv A B l S := by
  funext x
  unfold cvT
  rw [if_neg (by omega), Int.add_zero]
theorem cvT_all (A B : Nat → Int) (l S : Nat) : cvT A B l S l = cv A B l (S + 1) := by
  funext x
  unfold cvT
  rw [cv]
  congr 1
  by_cases c : S ≤ x ∧ x < S + l
  · rw [if_pos c, Nat.ble_eq.mpr c.1, Nat.blt_eq.mpr c.2]
    rfl
  · rw [if_neg c]
    cases q : (Nat.ble S x && Nat.blt x (S + l)) with
    | false => rfl
    | true =>
      rw [Bool.and_eq_true, Nat.ble_eq, Nat.blt_eq] at q
      exact absurd q c
theorem cvT_step (A B : Nat → Int) (l S t : Nat) : (fun y => if y = S + t then cvT A B l S t (S + t) + A S * B t else cvT A B l S t y) = cvT A B l S (t + 1) := by
  funext y
  unfold cvT
  by_cases c : y = S + t
  · subst c
    rw [if_pos rfl, if_neg (by omega), if_pos (by omega), Int.add_zero, Nat.add_sub_cancel_left]
  · rw [if_neg c]
    congr 1
    by_cases d : S ≤ y ∧ y < S + t
    · rw [if_pos d, if_pos (by omega)]
    · rw [if_neg d, if_neg (by omega)]
def lastI (b : Sl) (B : Nat → Int) : Nat → Sl
  | 0 => b
  | t + 1 => .im (.int (B t))
def b_mul : List Sl → Ro := (augItem 2 (f2 (rdN 3) (rdN 5) dAddU) (f2 (rdN 4) (rdN 6) dMul) dAdd)
theorem d_add (a b : Int) : dAdd (.int a) (.int b) = some (.int (a + b)) := rfl
theorem convolved_eq {m l : Nat} (A B : Nat → Int) (hm : 1 ≤ m ∧ m ≤ 100) (hl : 1 ≤ l ∧ l ≤ 100) (hA : ∀ s, s < m → -(2 ^ 64) < A s ∧ A s < 2 ^ 64) : F_convolved [.lst (inL m A), .lst (inL l B)] = .ok (.lst (inL (m + l - 1) (cv A B l m))) := by
  have z0 : dRep (.lst [.int 0]) (.int ((m : Int) + (l : Int) - 1)) = some (inL (m + l - 1) (cv A B l 0)) := by
    rw [show (m : Int) + (l : Int) - 1 = ((m + l - 1 : Nat) : Int) by omega, zeros (m + l - 1) (by omega)]
    congr 1
    apply List.ext_getElem
    · rw [List.length_map, List.length_replicate, inL_len]
    · intro i h1 h2
      rw [List.getElem_map, List.getElem_replicate, List.getElem_map]
      rfl
  have lA : (inL m A).length = m := inL_len m A
  have lB : (inL l B).length = l := inL_len l B
  have eA : enum0 [.lst (inL m A)] = some ((List.range m).map fun (i : Nat) => .tup [.int (i : Int), .int (A i)]) := enum_map m _
  have eB : enum0 [.lst (inL l B)] = some ((List.range l).map fun (i : Nat) => .tup [.int (i : Int), .int (B i)]) := enum_map l _
  generalize inL m A = xa at *
  generalize inL l B = xb at *
  have inner : ∀ S, S < m → ∀ a b : Sl, ∃ a' b', forR (gTu 2 (gsC (gNm 5) (gsC (gNm 6) gsN))) b_mul ((List.range l).map fun (i : Nat) => .tup [.int (i : Int), .int (B i)]) [.im (.lst xa), .im (.lst xb), .ow (.l (inL (m + l - 1) (cv A B l S))), .im (.int (S : Int)), .im (.int (A S)), a, b]
      = .nx [.im (.lst xa), .im (.lst xb), .ow (.l (inL (m + l - 1) (cv A B l (S + 1)))), .im (.int (S : Int)), .im (.int (A S)), a', b'] := fun S hS a b => by
    have bd := hA S hS
    generalize hx : A S = x at *
    refine ⟨lvN a l, lastI b B l, ?_⟩
    have q := forR_ix (g := gTu 2 (gsC (gNm 5) (gsC (gNm 6) gsN))) (b := b_mul) (fun i : Nat => D.tup [.int (i : Int), .int (B i)])
      (fun t => [.im (.lst xa), .im (.lst xb), .ow (.l (inL (m + l - 1) (cvT A B l S t))), .im (.int (S : Int)), .im (.int x), lvN a t, lastI b B t]) l (fun t ht => by
        refine ⟨[.im (.lst xa), .im (.lst xb), .ow (.l (inL (m + l - 1) (cvT A B l S t))), .im (.int (S : Int)), .im (.int x), .im (.int (t : Int)), .im (.int (B t))], rfl, .inl ?_⟩
        have len := inL_len (m + l - 1) (cvT A B l S t)
        have gt : (inL (m + l - 1) (cvT A B l S t)).getD ((S : Int) + (t : Int)).toNat .non = .int (cvT A B l S t (S + t)) := by
          rw [show ((S : Int) + (t : Int)).toNat = S + t by omega]
          exact inL_get (by omega)
        have st : (inL (m + l - 1) (cvT A B l S t)).set ((S : Int) + (t : Int)).toNat (.int (cvT A B l S t (S + t) + x * B t)) = inL (m + l - 1) (cvT A B l S (t + 1)) := by
          rw [show ((S : Int) + (t : Int)).toNat = S + t by omega, inL_set, ← cvT_step, hx]
        generalize inL (m + l - 1) (cvT A B l S t) = ys at *
        unfold b_mul
        simp_arith [gt, x_mul_l (a := x) (b := B t) (by omega) (by omega), d_add, st, lvN, lastI])
    rw [cvT_zero, cvT_all] at q
    exact q
  obtain ⟨a', b', c', d', loop⟩ : ∃ a' b' c' d', forR (gTu 2 (gsC (gNm 3) (gsC (gNm 4) gsN))) (rFor (wEnumA (fCons (rdN 1) aNil)) (gTu 2 (gsC (gNm 5) (gsC (gNm 6) gsN))) b_mul) ((List.range m).map fun (i : Nat) => .tup [.int (i : Int), .int (A i)]) [.im (.lst xa), .im (.lst xb), .ow (.l (inL (m + l - 1) (cv A B l 0))), .no, .no, .no, .no]
      = .nx [.im (.lst xa), .im (.lst xb), .ow (.l (inL (m + l - 1) (cv A B l m))), a', b', c', d'] := by
    have key : ∀ c, c ≤ m → ∀ a b p q : Sl, ∃ a' b' p' q', forR (gTu 2 (gsC (gNm 3) (gsC (gNm 4) gsN))) (rFor (wEnumA (fCons (rdN 1) aNil)) (gTu 2 (gsC (gNm 5) (gsC (gNm 6) gsN))) b_mul) ((List.range' (m - c) c).map fun (i : Nat) => .tup [.int (i : Int), .int (A i)]) [.im (.lst xa), .im (.lst xb), .ow (.l (inL (m + l - 1) (cv A B l (m - c)))), a, b, p, q]
        = .nx [.im (.lst xa), .im (.lst xb), .ow (.l (inL (m + l - 1) (cv A B l m))), a', b', p', q'] := by
      intro c
      induction c with
      | zero => exact fun _ a b p q => ⟨a, b, p, q, rfl⟩
      | succ c ih =>
        intro hc a b p q
        obtain ⟨p1, q1, h1⟩ := inner (m - (c + 1)) (by omega) p q
        obtain ⟨a2, b2, p2, q2, h2⟩ := ih (by omega) (.im (.int ((m - (c + 1) : Nat) : Int))) (.im (.int (A (m - (c + 1))))) p1 q1
        refine ⟨a2, b2, p2, q2, ?_⟩
        rw [List.range'_succ, List.map_cons, show m - (c + 1) + 1 = m - c by omega]
        rw [forR_nx (e1 := [.im (.lst xa), .im (.lst xb), .ow (.l (inL (m + l - 1) (cv A B l (m - (c + 1))))), .im (.int ((m - (c + 1) : Nat) : Int)), .im (.int (A (m - (c + 1)))), p, q]) (e2 := [.im (.lst xa), .im (.lst xb), .ow (.l (inL (m + l - 1) (cv A B l (m - c)))), .im (.int ((m - (c + 1) : Nat) : Int)), .im (.int (A (m - (c + 1)))), p1, q1]) rfl (by
          rw [show m - (c + 1) + 1 = m - c by omega] at h1
          simp_arith [eB, h1])]
        exact h2
    have k := key m (Nat.le_refl _) .no .no .no .no
    rw [Nat.sub_self, ← List.range_eq_range'] at k
    exact k
  show (b_convolved [.im (.lst xa), .im (.lst xb), .no, .no, .no, .no, .no]).fn = _
  unfold b_convolved
  unfold b_mul at loop
  simp_arith [lA, lB, z0, eA, loop]
end K78
namespace K78
open PySem PySem.Spec PyProof.Rows L2 Pf
def kItR (r : Rs D) : Rs (List D) := r.bind fun d e => Rs.opt (itsR d) e
theorem uItR {f : List Sl → Rs D} {env : List Sl} : fItR f env = kItR (f env) := Eq.trans rfl rfl
theorem itsR_eq {lo hi : Int} (h : -(2 ^ 62) ≤ lo ∧ lo < 2 ^ 62 ∧ -(2 ^ 62) ≤ hi ∧ hi < 2 ^ 62) : itsR (.rng lo hi) = some ((List.range (hi - lo).toNat).map fun (k : Nat) => D.int (lo + (k : Int))) := if_pos h
theorem kItR_ok {d : D} {e : List Sl} {ds : List D} (h : itsR d = some ds) : kItR (.ok d e) = .ok ds e := by
  show Rs.opt (itsR d) e = _
  rw [h]
  rfl
theorem vItR {k : Nat} {e : List Sl} (h : (k : Int) < 1000000) : kItR (.ok (.rng 0 (k : Int)) e) = .ok ((List.range k).map fun (i : Nat) => D.int (i : Int)) e := by
  have q := itsR_eq (lo := 0) (hi := (k : Int)) (by omega)
  rw [Int.sub_zero, Int.toNat_natCast] at q
  have z : ((List.range k).map fun (i : Nat) => D.int (0 + (i : Int))) = (List.range k).map fun (i : Nat) => D.int (i : Int) := List.map_congr_left fun i _ => by rw [Int.zero_add]
  rw [z] at q
  exact kItR_ok q
theorem str_ne {a b : String} (h : (Str.ofString a == Str.ofString b) = false := by decide +kernel) (ha : PyData.strOk (Str.ofString a) = true := by decide +kernel) (hb : PyData.strOk (Str.ofString b) = true := by decide +kernel) : dEq (.str (Str.ofString a)) (.str (Str.ofString b)) = some (.bl false) :=
  (dEq_str ha hb).trans (by rw [h])
theorem str_eq {a : String} (ha : PyData.strOk (Str.ofString a) = true := by decide +kernel) : dEq (.str (Str.ofString a)) (.str (Str.ofString a)) = some (.bl true) :=
  (dEq_str ha ha).trans (by rw [beq_self_eq_true])
abbrev tE (s : String) (a b : Int) : D := .tup [.str (Str.ofString s), .int a, .int b]
theorem slice_two (w : String) (n q : Int) : slD (some 1) none (tE w n q) = some (.tup [.int n, .int q]) := Eq.trans rfl rfl
abbrev natsD (vs : List Nat) : List D := vs.map fun (v : Nat) => .int (v : Int)
theorem natsD_map {α : Type} (f : α → Nat) (xs : List α) : natsD (xs.map f) = xs.map fun x => .int ((f x : Nat) : Int) := List.map_map
def wV (n q i : Nat) : Nat := cN n i * (q - 1) ^ i
def sV (n m i : Nat) : Nat := cN m i * cN (n - m) i
/-! ### the numbers of points by the kinds -/
theorem vals_words {n q : Nat} (hn : n ≤ 14) (hq : 2 ≤ q ∧ q ≤ 5) (m : Nat) (kd : F_kinds_of 20 [tE "words" n q] = .ok (.int ((n + 1 : Nat) : Int))) : F_part_valencies (m + 1) [tE "words" n q] = .ok (.tup (natsD ((List.range (n + 1)).map (wV n q)))) := by
  rw [natsD_map]
  have rg : cRange1 [.int ((n + 1 : Nat) : Int)] = some (.rng 0 ((n + 1 : Nat) : Int)) := rfl
  have i0 : ixD (tE "words" n q) (.int 0) = some (.str (Str.ofString "words")) := (ixD_first _ _).2
  have sl := slice_two "words" (n : Int) (q : Int)
  have sz : ((List.range (n + 1)).map fun i => D.int ((wV n q i : Nat) : Int)).length ≤ 4000 := by
    rw [List.length_map (f := _), List.length_range]
    omega
  generalize tE "words" (n : Int) (q : Int) = T at *
  show (b_part_valencies (F_part_valencies m) [.im T, .no, .no, .no, .no, .no, .no, .no, .no, .no]).fn = _
  unfold b_part_valencies
  simp_arith [i0, str_ne (a := "words") (b := "product"), str_eq (a := "words"), kd, rg, uItR, vItR, sl]
  rw [turns_mapL (fun (i : Nat) => D.int (i : Int)) (fun i => D.int ((wV n q i : Nat) : Int)) (List.range (n + 1)) fun i hi => by
    have hi := List.mem_range.mp hi
    have c := fch (n := n) (k := i) (by omega) (by omega)
    have p := power_eq ((q : Int) - 1) i (by omega) (by omega)
    have b := cN_lt n i
    have e : ((cN n i : Nat) : Int) * ((q : Int) - 1) ^ i = ((wV n q i : Nat) : Int) := by
      unfold wV
      rw [Int.natCast_mul, Int.natCast_pow, show ((q - 1 : Nat) : Int) = (q : Int) - 1 by omega]
    simp_arith [c, p, x_mul_l (a := ((cN n i : Nat) : Int)) (b := ((q : Int) - 1) ^ i) (by omega) (by omega), e]]
  simp_arith []
theorem vals_sets {n q : Nat} (hn : n ≤ 28) (hq : 2 * q ≤ n) (m : Nat) (kd : F_kinds_of 20 [tE "sets" n q] = .ok (.int ((q + 1 : Nat) : Int))) : F_part_valencies (m + 1) [tE "sets" n q] = .ok (.tup (natsD ((List.range (q + 1)).map (sV n q)))) := by
  rw [natsD_map]
  have rg : cRange1 [.int ((q + 1 : Nat) : Int)] = some (.rng 0 ((q + 1 : Nat) : Int)) := rfl
  have i0 : ixD (tE "sets" n q) (.int 0) = some (.str (Str.ofString "sets")) := (ixD_first _ _).2
  have sl := slice_two "sets" (n : Int) (q : Int)
  have sz : ((List.range (q + 1)).map fun i => D.int ((sV n q i : Nat) : Int)).length ≤ 4000 := by
    rw [List.length_map (f := _), List.length_range]
    omega
  generalize tE "sets" (n : Int) (q : Int) = T at *
  show (b_part_valencies (F_part_valencies m) [.im T, .no, .no, .no, .no, .no, .no, .no, .no, .no]).fn = _
  unfold b_part_valencies
  simp_arith [i0, str_ne (a := "sets") (b := "product"), str_ne (a := "sets") (b := "words"), str_eq (a := "sets"), kd, rg, uItR, vItR, sl]
  rw [turns_mapL (fun (i : Nat) => D.int (i : Int)) (fun i => D.int ((sV n q i : Nat) : Int)) (List.range (q + 1)) fun i hi => by
    have hi := List.mem_range.mp hi
    have c := fch (n := q) (k := i) (by omega) (by omega)
    have p : F_choose [.int ((n : Int) - (q : Int)), .int (i : Int)] = .ok (.int ((cN (n - q) i : Nat) : Int)) := by
      rw [show (n : Int) - (q : Int) = ((n - q : Nat) : Int) by omega]
      exact fch (by omega) (by omega)
    have b := cN_lt q i
    have e : ((cN q i : Nat) : Int) * ((cN (n - q) i : Nat) : Int) = ((sV n q i : Nat) : Int) := by
      unfold sV
      rw [Int.natCast_mul]
    simp_arith [c, p, x_mul_l (a := ((cN q i : Nat) : Int)) (b := ((cN (n - q) i : Nat) : Int)) (by omega) (by omega), e]]
  simp_arith []
/-! ### rows of eigenvalues -/
def sg (j s : Nat) : Int := cond (Nat.beq (s % 2) 0) ((cN j s : Nat) : Int) (-((cN j s : Nat) : Int))
theorem sg_lt (j s : Nat) : -(2 ^ 64) < sg j s ∧ sg j s < 2 ^ 64 := by
  have := cN_lt j s
  unfold sg
  cases Nat.beq (s % 2) 0 <;> (dsimp only [cond]; omega)
theorem signed_eq {j : Nat} (hj : j ≤ 28) : F_signed_choices [.int (j : Int)] = .ok (.lst (inL (j + 1) (sg j))) := by
  have rg : rng1 [.int ((j : Int) + 1)] = some ((List.range (j + 1)).map fun (i : Nat) => D.int (i : Int)) := by
    rw [show (j : Int) + 1 = ((j + 1 : Nat) : Int) by omega]
    exact x_rng1 (j + 1) (by omega)
  have sz : ((List.range (j + 1)).map fun s => D.int (sg j s)).length ≤ 4000 := by
    rw [List.length_map (f := _), List.length_range]
    omega
  show (b_signed_choices [.im (.int (j : Int)), .no]).fn = _
  unfold b_signed_choices
  simp_arith [rg]
  rw [turns_mapL (fun (i : Nat) => D.int (i : Int)) (fun s => D.int (sg j s)) (List.range (j + 1)) fun s hs => by
    have hs := List.mem_range.mp hs
    have c := fch (n := j) (k := s) (by omega) (by omega)
    unfold sg
    by_cases e : s % 2 = 0
    · rw [e]
      simp_arith [c]
      rfl
    · rw [show s % 2 = 1 by omega]
      simp_arith [c]
      rfl]
  simp_arith []
def bW (n q j t : Nat) : Int := ((cN (n - j) t * (q - 1) ^ t : Nat) : Int)
def bS (n k j t : Nat) : Int := ((cN (k - j) t * cN (n - k - j) t : Nat) : Int)
def rwW (n q j : Nat) : Nat → Int := cv (sg j) (bW n q j) (n - j + 1) (j + 1)
def rwS (n k j : Nat) : Nat → Int := cv (sg j) (bS n k j) (k - j + 1) (j + 1)
theorem row_words {n q j : Nat} (hn : n ≤ 14) (hq : 2 ≤ q ∧ q ≤ 5) (hj : j ≤ n) (m : Nat) : F_row_of (m + 1) [tE "words" n q, .int (j : Int)] = .ok (.tup (inL (n + 1) (rwW n q j))) := by
  have i0 : ixD (tE "words" n q) (.int 0) = some (.str (Str.ofString "words")) := (ixD_first _ _).2
  have sl := slice_two "words" (n : Int) (q : Int)
  have sg' := signed_eq (j := j) (by omega)
  have cv' := convolved_eq (m := j + 1) (l := n - j + 1) (sg j) (bW n q j) (by omega) (by omega) fun s _ => sg_lt j s
  rw [show j + 1 + (n - j + 1) - 1 = n + 1 by omega] at cv'
  have cv'' : F_convolved [.lst (inL (j + 1) (sg j)), .lst (inL (n - j + 1) (bW n q j))] = .ok (.lst (inL (n + 1) (rwW n q j))) := cv'
  have rg : rng1 [.int ((n : Int) - (j : Int) + 1)] = some ((List.range (n - j + 1)).map fun (i : Nat) => D.int (i : Int)) := by
    rw [show (n : Int) - (j : Int) + 1 = ((n - j + 1 : Nat) : Int) by omega]
    exact x_rng1 (n - j + 1) (by omega)
  have sz : (inL (n - j + 1) (bW n q j)).length ≤ 4000 := by
    rw [inL_len]
    omega
  generalize tE "words" (n : Int) (q : Int) = T at *
  show (b_row_of (F_row_of m) [.im T, .im (.int (j : Int)), .no, .no, .no, .no, .no, .no, .no, .no, .no, .no]).fn = _
  unfold b_row_of
  simp_arith [i0, str_ne (a := "words") (b := "product"), str_ne (a := "words") (b := "listed"), str_eq (a := "words"), sl, rg]
  rw [turns_mapL (fun (i : Nat) => D.int (i : Int)) (fun t => D.int (bW n q j t)) (List.range (n - j + 1)) fun i hi => by
    have hi := List.mem_range.mp hi
    have c : F_choose [.int ((n : Int) - (j : Int)), .int (i : Int)] = .ok (.int ((cN (n - j) i : Nat) : Int)) := by
      rw [show (n : Int) - (j : Int) = ((n - j : Nat) : Int) by omega]
      exact fch (by omega) (by omega)
    have p := power_eq ((q : Int) - 1) i (by omega) (by omega)
    have b := cN_lt (n - j) i
    have e : ((cN (n - j) i : Nat) : Int) * ((q : Int) - 1) ^ i = bW n q j i := by
      unfold bW
      rw [Int.natCast_mul, Int.natCast_pow, show ((q - 1 : Nat) : Int) = (q : Int) - 1 by omega]
    simp_arith [c, p, x_mul_l (a := ((cN (n - j) i : Nat) : Int)) (b := ((q : Int) - 1) ^ i) (by omega) (by omega), e]]
  simp_arith [sg', cv'']
theorem row_sets {n k j : Nat} (hn : n ≤ 28) (hk : 2 * k ≤ n) (hj : j ≤ k) (m : Nat) : F_row_of (m + 1) [tE "sets" n k, .int (j : Int)] = .ok (.tup (inL (k + 1) (rwS n k j))) := by
  have i0 : ixD (tE "sets" n k) (.int 0) = some (.str (Str.ofString "sets")) := (ixD_first _ _).2
  have sl := slice_two "sets" (n : Int) (k : Int)
  have sg' := signed_eq (j := j) (by omega)
  have cv' := convolved_eq (m := j + 1) (l := k - j + 1) (sg j) (bS n k j) (by omega) (by omega) fun s _ => sg_lt j s
  rw [show j + 1 + (k - j + 1) - 1 = k + 1 by omega] at cv'
  have cv'' : F_convolved [.lst (inL (j + 1) (sg j)), .lst (inL (k - j + 1) (bS n k j))] = .ok (.lst (inL (k + 1) (rwS n k j))) := cv'
  have rg : rng1 [.int ((k : Int) - (j : Int) + 1)] = some ((List.range (k - j + 1)).map fun (i : Nat) => D.int (i : Int)) := by
    rw [show (k : Int) - (j : Int) + 1 = ((k - j + 1 : Nat) : Int) by omega]
    exact x_rng1 (k - j + 1) (by omega)
  have sz : (inL (k - j + 1) (bS n k j)).length ≤ 4000 := by
    rw [inL_len]
    omega
  generalize tE "sets" (n : Int) (k : Int) = T at *
  show (b_row_of (F_row_of m) [.im T, .im (.int (j : Int)), .no, .no, .no, .no, .no, .no, .no, .no, .no, .no]).fn = _
  unfold b_row_of
  simp_arith [i0, str_ne (a := "sets") (b := "product"), str_ne (a := "sets") (b := "listed"), str_ne (a := "sets") (b := "words"), sl, rg]
  rw [turns_mapL (fun (i : Nat) => D.int (i : Int)) (fun t => D.int (bS n k j t)) (List.range (k - j + 1)) fun i hi => by
    have hi := List.mem_range.mp hi
    have c : F_choose [.int ((k : Int) - (j : Int)), .int (i : Int)] = .ok (.int ((cN (k - j) i : Nat) : Int)) := by
      rw [show (k : Int) - (j : Int) = ((k - j : Nat) : Int) by omega]
      exact fch (by omega) (by omega)
    have p : F_choose [.int ((n : Int) - (k : Int) - (j : Int)), .int (i : Int)] = .ok (.int ((cN (n - k - j) i : Nat) : Int)) := by
      rw [show (n : Int) - (k : Int) - (j : Int) = ((n - k - j : Nat) : Int) by omega]
      exact fch (by omega) (by omega)
    have b := cN_lt (k - j) i
    have e : ((cN (k - j) i : Nat) : Int) * ((cN (n - k - j) i : Nat) : Int) = bS n k j i := by
      unfold bS
      rw [Int.natCast_mul]
    simp_arith [c, p, x_mul_l (a := ((cN (k - j) i : Nat) : Int)) (b := ((cN (n - k - j) i : Nat) : Int)) (by omega) (by omega), e]]
  simp_arith [sg', cv'']
end K78
namespace K78
open PySem PySem.Spec PyProof.Rows L2 Pf
/-! ### how many points a ball has, as the law reckons it -/
theorem sum_snoc (v : Nat → Nat) (k : Nat) : ((List.range (k + 1)).map v).sum = ((List.range k).map v).sum + v k := by
  rw [List.range_succ, List.map_append, List.sum_append]
  rfl
def b_sz : List Sl → Ro := (rIf (fAsB (f2 (fIx (rdN 0) (vK (.int 0))) (vK (.str "words")) dEq)) (rSeq (rSet 2 (f2 (rdN 2) (f2 (vCall 2 F__law_choose (fCons (fIx (rdN 0) (vK (.int 1))) (fCons (rdN 4) aNil))) (rdN 3) dMul) dAddU))
  (rSet 3 (f2 (rdN 3) (f2 (fIx (rdN 0) (vK (.int 2))) (vK (.int 1)) dSub) dMul))) (rSet 2 (f2 (rdN 2) (f2 (vCall 2 F__law_choose (fCons (fIx (rdN 0) (vK (.int 2))) (fCons (rdN 4) aNil))) (vCall 2 F__law_choose (fCons (f2 (fIx (rdN 0) (vK (.int 1))) (fIx (rdN 0) (vK (.int 2))) dSub) (fCons (rdN 4) aNil))) dMul) dAddU)))
theorem size_words {n q r : Nat} (hn : n ≤ 14) (hq : 2 ≤ q ∧ q ≤ 5) (hr : r ≤ n) : F__law_size_of [tE "words" n q, .int (r : Int)] = .ok (.int ((((List.range (r + 1)).map (wV n q)).sum : Nat) : Int)) := by
  have i0 : ixD (tE "words" n q) (.int 0) = some (.str (Str.ofString "words")) := (ixD_first _ _).2
  have i1 : ixD (tE "words" n q) (.int 1) = some (.int (n : Int)) := rfl
  have i2 : ixD (tE "words" n q) (.int 2) = some (.int (q : Int)) := rfl
  generalize tE "words" (n : Int) (q : Int) = T at *
  have loop : forR (gNm 4) b_sz ((List.range (r + 1)).map fun (i : Nat) => D.int (i : Int)) [.im T, .im (.int (r : Int)), .im (.int 0), .im (.int 1), .no]
      = .nx [.im T, .im (.int (r : Int)), .im (.int ((((List.range (r + 1)).map (wV n q)).sum : Nat) : Int)), .im (.int (((q - 1) ^ (r + 1) : Nat) : Int)), lvN .no (r + 1)] := forR_ix (g := gNm 4) (b := b_sz) (fun i : Nat => D.int (i : Int))
    (fun i => [.im T, .im (.int (r : Int)), .im (.int ((((List.range i).map (wV n q)).sum : Nat) : Int)), .im (.int (((q - 1) ^ i : Nat) : Int)), lvN .no i]) (r + 1) (fun i hi => by
      have c := lch (n := n) (k := i) (by omega) (by omega)
      have b := cN_lt n i
      have e1 : ((((List.range i).map (wV n q)).sum : Nat) : Int) + ((cN n i : Nat) : Int) * (((q - 1) ^ i : Nat) : Int) = ((((List.range (i + 1)).map (wV n q)).sum : Nat) : Int) := by
        rw [sum_snoc, Int.natCast_add, wV, Int.natCast_mul]
      have e2 : (((q - 1) ^ i : Nat) : Int) * ((q : Int) - 1) = (((q - 1) ^ (i + 1) : Nat) : Int) := by
        rw [Nat.pow_succ, Int.natCast_mul, show ((q - 1 : Nat) : Int) = (q : Int) - 1 by omega]
      refine ⟨[.im T, .im (.int (r : Int)), .im (.int ((((List.range i).map (wV n q)).sum : Nat) : Int)), .im (.int (((q - 1) ^ i : Nat) : Int)), .im (.int (i : Int))], rfl, .inl ?_⟩
      generalize (((q - 1) ^ i : Nat) : Int) = pw at *
      unfold b_sz
      simp_arith [i0, str_eq (a := "words"), i1, i2, c, x_mul_l (a := ((cN n i : Nat) : Int)) (b := pw) (by omega) (by omega), x_mul_r (a := pw) (b := (q : Int) - 1) (by omega) (by omega), e1, e2, lvN])
  have rg : rng1 [.int ((r : Int) + 1)] = some ((List.range (r + 1)).map fun (i : Nat) => D.int (i : Int)) := by
    rw [show (r : Int) + 1 = ((r + 1 : Nat) : Int) by omega]
    exact x_rng1 (r + 1) (by omega)
  show (b__law_size_of [.im T, .im (.int (r : Int)), .no, .no, .no]).fn = _
  unfold b__law_size_of
  unfold b_sz at loop
  simp_arith [rg, loop]
theorem size_sets {n k r : Nat} (hn : n ≤ 28) (hk : 2 * k ≤ n) (hr : r ≤ k) : F__law_size_of [tE "sets" n k, .int (r : Int)] = .ok (.int ((((List.range (r + 1)).map (sV n k)).sum : Nat) : Int)) := by
  have i0 : ixD (tE "sets" n k) (.int 0) = some (.str (Str.ofString "sets")) := (ixD_first _ _).2
  have i1 : ixD (tE "sets" n k) (.int 1) = some (.int (n : Int)) := rfl
  have i2 : ixD (tE "sets" n k) (.int 2) = some (.int (k : Int)) := rfl
  generalize tE "sets" (n : Int) (k : Int) = T at *
  have loop : forR (gNm 4) b_sz ((List.range (r + 1)).map fun (i : Nat) => D.int (i : Int)) [.im T, .im (.int (r : Int)), .im (.int 0), .im (.int 1), .no]
      = .nx [.im T, .im (.int (r : Int)), .im (.int ((((List.range (r + 1)).map (sV n k)).sum : Nat) : Int)), .im (.int 1), lvN .no (r + 1)] := forR_ix (g := gNm 4) (b := b_sz) (fun i : Nat => D.int (i : Int))
    (fun i => [.im T, .im (.int (r : Int)), .im (.int ((((List.range i).map (sV n k)).sum : Nat) : Int)), .im (.int 1), lvN .no i]) (r + 1) (fun i hi => by
      have c := lch (n := k) (k := i) (by omega) (by omega)
      have d : F__law_choose [.int ((n : Int) - (k : Int)), .int (i : Int)] = .ok (.int ((cN (n - k) i : Nat) : Int)) := by
        rw [show (n : Int) - (k : Int) = ((n - k : Nat) : Int) by omega]
        exact lch (by omega) (by omega)
      have b := cN_lt k i
      have e1 : ((((List.range i).map (sV n k)).sum : Nat) : Int) + ((cN k i : Nat) : Int) * ((cN (n - k) i : Nat) : Int) = ((((List.range (i + 1)).map (sV n k)).sum : Nat) : Int) := by
        rw [sum_snoc, Int.natCast_add, sV, Int.natCast_mul]
      refine ⟨[.im T, .im (.int (r : Int)), .im (.int ((((List.range i).map (sV n k)).sum : Nat) : Int)), .im (.int 1), .im (.int (i : Int))], rfl, .inl ?_⟩
      unfold b_sz
      simp_arith [i0, str_ne (a := "sets") (b := "words"), i1, i2, c, d, x_mul_l (a := ((cN k i : Nat) : Int)) (b := ((cN (n - k) i : Nat) : Int)) (by omega) (by omega), e1, lvN])
  have rg : rng1 [.int ((r : Int) + 1)] = some ((List.range (r + 1)).map fun (i : Nat) => D.int (i : Int)) := by
    rw [show (r : Int) + 1 = ((r + 1 : Nat) : Int) by omega]
    exact x_rng1 (r + 1) (by omega)
  show (b__law_size_of [.im T, .im (.int (r : Int)), .no, .no, .no]).fn = _
  unfold b__law_size_of
  unfold b_sz at loop
  simp_arith [rg, loop]
theorem lpts_words {n q : Nat} (hn : n ≤ 14) (hq : 2 ≤ q ∧ q ≤ 5) : F__law_points [tE "words" n q] = .ok (.int ((q ^ n : Nat) : Int)) := by
  have i0 : ixD (tE "words" n q) (.int 0) = some (.str (Str.ofString "words")) := (ixD_first _ _).2
  have i1 : ixD (tE "words" n q) (.int 1) = some (.int (n : Int)) := rfl
  have i2 : ixD (tE "words" n q) (.int 2) = some (.int (q : Int)) := rfl
  generalize tE "words" (n : Int) (q : Int) = T at *
  have loop : forR (gNm 2) (rSet 1 (f2 (rdN 1) (fIx (rdN 0) (vK (.int 2))) dMul)) ((List.range n).map fun (i : Nat) => D.int (i : Int)) [.im T, .im (.int 1), .no]
      = .nx [.im T, .im (.int ((q ^ n : Nat) : Int)), lvN .no n] := forR_ix (g := gNm 2) (b := (rSet 1 (f2 (rdN 1) (fIx (rdN 0) (vK (.int 2))) dMul))) (fun i : Nat => D.int (i : Int))
    (fun i => [.im T, .im (.int ((q ^ i : Nat) : Int)), lvN .no i]) n (fun i hi => by
      have e2 : ((q ^ i : Nat) : Int) * (q : Int) = ((q ^ (i + 1) : Nat) : Int) := by
        rw [Nat.pow_succ, Int.natCast_mul]
      refine ⟨[.im T, .im (.int ((q ^ i : Nat) : Int)), .im (.int (i : Int))], rfl, .inl ?_⟩
      generalize ((q ^ i : Nat) : Int) = pw at *
      simp_arith [i2, x_mul_r (a := pw) (b := (q : Int)) (by omega) (by omega), e2, lvN])
  have rg : rng1 [.int (n : Int)] = some ((List.range n).map fun (i : Nat) => D.int (i : Int)) := x_rng1 n (by omega)
  show (b__law_points [.im T, .no, .no]).fn = _
  unfold b__law_points
  simp_arith [i0, str_ne (a := "words") (b := "sets"), i1, rg, loop]
theorem lpts_sets {n k : Nat} (hn : n ≤ 28) (hk : 2 * k ≤ n) : F__law_points [tE "sets" n k] = .ok (.int ((cN n k : Nat) : Int)) := by
  have i0 : ixD (tE "sets" n k) (.int 0) = some (.str (Str.ofString "sets")) := (ixD_first _ _).2
  have i1 : ixD (tE "sets" n k) (.int 1) = some (.int (n : Int)) := rfl
  have i2 : ixD (tE "sets" n k) (.int 2) = some (.int (k : Int)) := rfl
  have c := lch (n := n) (k := k) (by omega) (by omega)
  generalize tE "sets" (n : Int) (k : Int) = T at *
  show (b__law_points [.im T, .no, .no]).fn = _
  unfold b__law_points
  simp_arith [i0, str_eq (a := "sets"), i1, i2, c]
theorem pick_eq {xs : List Int} {i : Nat} {m : Int} (hi : i < xs.length) (hm : 0 < m) : F__law_pick [.lst (xs.map .int), .int (i : Int), .int m] = .ok (.int (xs.getD i 0 % m)) := by
  have q : ixD (.lst (xs.map .int)) (.int (i : Int)) = some (.int (xs.getD i 0)) := by
    rw [x_ixI (by omega) (by omega), Int.toNat_natCast]
  show (b__law_pick [.im (.lst (xs.map .int)), .im (.int (i : Int)), .im (.int m)]).fn = _
  unfold b__law_pick
  simp_arith [q]
end K78
namespace K78
open PySem PySem.Spec PyProof.Rows L2 Pf
/-! ### how many zeros -/
def bit (z : Int) : Nat := cond (Nat.beq z.natAbs 0) 1 0
def sc (f : Nat → Int) : Nat → Nat → Int → List Nat
  | 0, _, _ => []
  | m + 1, i, s => bit (s + f i) :: sc f m (i + 1) (s + f i)
def addL : List Nat → List Nat → List Nat
  | a :: x, b :: y => (a + b) :: addL x y
  | _, _ => []
def col (e : Nat → Nat → Int) (m : Nat) : Nat → List Nat
  | 0 => List.replicate m 0
  | J + 1 => addL (col e m J) (sc (e J) m 0 0)
def chk : List Nat → Nat → Bool
  | [], _ => true
  | x :: xs, r => Nat.ble x r && chk xs (r + 1)
def fewB (e : Nat → Nat → Int) (m : Nat) : Bool := chk (col e m m) 0
def run (f : Nat → Int) (i : Nat) : Nat → Int
  | 0 => 0
  | k + 1 => f i + run f (i + 1) k
theorem sc_eq (f : Nat → Int) : ∀ (m i : Nat) (s : Int), sc f m i s = (List.range m).map fun k => bit (s + run f i (k + 1))
  | 0, _, _ => rfl
  | m + 1, i, s => by
    rw [sc, sc_eq f m (i + 1) (s + f i), List.range_succ_eq_map, List.map_cons, List.map_map]
    congr 1
    · show bit _ = bit (s + (f i + 0))
      rw [Int.add_zero]
    · refine List.map_congr_left fun k7 _ => ?_
      show bit (s + f i + run f (i + 1) (k7 + 1)) = bit (s + (f i + run f (i + 1) (k7 + 1)))
      rw [Int.add_assoc]
theorem run_sum (f : Nat → Int) : ∀ (k i : Nat), run f i k = ((List.range k).map fun x => f (i + x)).sum
  | 0, _ => rfl
  | k + 1, i => by
    rw [run, run_sum f k (i + 1), List.range_succ_eq_map, List.map_cons, List.map_map, List.sum_cons]
    congr 2
    refine List.map_congr_left fun y7 _ => ?_
    show f (i + 1 + y7) = f (i + (y7 + 1))
    rw [Nat.add_assoc, Nat.add_comm 1 y7]
theorem addL_map {α : Type} (f g : α → Nat) : ∀ l : List α, addL (l.map f) (l.map g) = l.map fun x => f x + g x
  | [] => rfl
  | x :: l => by
    rw [List.map_cons, List.map_cons, List.map_cons, addL, addL_map f g l]
def cnt (e : Nat → Nat → Int) : Nat → Nat → Nat
  | 0, _ => 0
  | J + 1, k => cnt e J k + bit (run (e J) 0 (k + 1))
theorem col_eq (e : Nat → Nat → Int) (m : Nat) : ∀ J, col e m J = (List.range m).map (cnt e J)
  | 0 => by
    show List.replicate m 0 = (List.range m).map fun _ => 0
    rw [List.map_const', List.length_range]
  | J + 1 => by
    rw [col, col_eq e m J, sc_eq, addL_map]
    refine List.map_congr_left fun k7 _ => ?_
    show cnt e J k7 + bit (0 + run (e J) 0 (k7 + 1)) = _
    rw [Int.zero_add]
    rfl
theorem chk_map (f : Nat → Nat) : ∀ (m s r : Nat), chk ((List.range' s m).map f) r = true → ∀ k, k < m → f (s + k) ≤ r + k
  | 0, _, _, _, k, h => by omega
  | m + 1, s, r, h, k, hk => by
    rw [List.range'_succ, List.map_cons, chk, Bool.and_eq_true] at h
    cases k with
    | zero => exact Nat.le_of_ble_eq_true h.1
    | succ k =>
      have q := chk_map f m (s + 1) (r + 1) h.2 k (by omega)
      rw [show s + (k + 1) = s + 1 + k by omega, show r + (k + 1) = r + 1 + k by omega]
      exact q
theorem bit_eq (z : Int) : bit z = if z = 0 then 1 else 0 := by
  unfold bit
  by_cases c : z = 0
  · rw [if_pos c, c]
    rfl
  · rw [if_neg c]
    have q : Nat.beq z.natAbs 0 = false := by
      cases h : Nat.beq z.natAbs 0 with
      | false => rfl
      | true =>
        have zz7 := Nat.eq_of_beq_eq_true h
        omega
    rw [q]
    rfl
theorem cnt_len (e : Nat → Nat → Int) (r : Nat) : ∀ J, ((List.range J).filter fun j => decide (((List.range (r + 1)).map (e j)).sum = 0)).length = cnt e J r
  | 0 => rfl
  | J + 1 => by
    rw [List.range_succ (n := J), List.filter_append, List.length_append, cnt_len e r J, cnt]
    congr 1
    have q := run_sum (e J) (r + 1) 0
    have q2 : ((List.range (r + 1)).map fun x => e J (0 + x)) = (List.range (r + 1)).map (e J) := List.map_congr_left fun x _ => by rw [Nat.zero_add]
    rw [q2] at q
    rw [bit_eq, q]
    by_cases c : ((List.range (r + 1)).map (e J)).sum = 0
    · rw [if_pos c, List.filter_cons, decide_eq_true c]
      rfl
    · rw [if_neg c, List.filter_cons, decide_eq_false c]
      rfl
theorem few_of {e : Nat → Nat → Int} {m : Nat} (h : fewB e m = true) {r : Nat} (hr : r < m) : ((List.range m).filter fun j => decide (((List.range (r + 1)).map (e j)).sum = 0)).length ≤ r := by
  unfold fewB at h
  rw [col_eq, List.range_eq_range'] at h
  have q := chk_map (cnt e m) m 0 0 h r hr
  rw [Nat.zero_add] at q
  rw [cnt_len]
  exact q
theorem few_w : ((List.range 15).all fun n => (List.range 4).all fun d => fewB (rwW n (d + 2)) (n + 1)) = true := by kernel_rfl
theorem few_s : ((List.range 15).all fun n => (List.range (n + 1)).all fun k => fewB (rwS (2 * n) k) (k + 1)) = true := by kernel_rfl
theorem few_o : (fewB (rwS 3 1) 2 && fewB (rwS 5 1) 2 && fewB (rwS 5 2) 3) = true := by kernel_rfl
/-- words or sets, with all that is asked of them -/
structure Bm (t : D) (m N : Nat) (v : Nat → Nat) (e : Nat → Nat → Int) : Prop where
  shape : ∃ (w : String) (a b : Nat), t = tE w a b ∧ (w = "words" ∧ m = a ∨ w = "sets" ∧ m = b)
  m1 : 1 ≤ m
  m14 : m ≤ 14
  ck : F_checked [t] = .ok t
  kd : F_kinds_of 20 [t] = .ok (.int ((m + 1 : Nat) : Int))
  pt : F_points_of 20 [t] = .ok (.int (N : Int))
  vals : F_part_valencies 20 [t] = .ok (.tup (natsD ((List.range (m + 1)).map v)))
  row : ∀ j : Nat, j ≤ m → F_row_of 20 [t, .int (j : Int)] = .ok (.tup (inL (m + 1) (e j)))
  lsz : ∀ r : Nat, r ≤ m → F__law_size_of [t, .int (r : Int)] = .ok (.int ((((List.range (r + 1)).map v).sum : Nat) : Int))
  lpt : F__law_points [t] = .ok (.int (N : Int))
  few : ∀ r : Nat, r ≤ m → ((List.range (m + 1)).filter fun j => decide (((List.range (r + 1)).map (e j)).sum = 0)).length ≤ r
  v0 : v 0 = 1
theorem okw (n q : Nat) (h : 1 ≤ n ∧ n ≤ 14 ∧ 2 ≤ q ∧ q ≤ 5) : (Tr.words n q).Ok := by
  have hp : (q : Int) ^ n ≤ 10 ^ 60 := by
    have a : q ^ n ≤ 5 ^ n := Nat.pow_le_pow_left h.2.2.2 n
    have b : 5 ^ n ≤ 5 ^ 14 := Nat.pow_le_pow_right (by decide) h.2.1
    have c : q ^ n ≤ 10 ^ 60 := Nat.le_trans (Nat.le_trans a b) (by decide)
    rw [← Int.natCast_pow]
    exact Int.ofNat_le.mpr c
  exact ⟨fun l => ⟨h.1, by omega, h.2.2.1, by omega⟩, Nat.le_of_ble_eq_true rfl, (show 0 < 20 by decide), ⟨by omega, by omega⟩, trivial, trivial, hp, by show (n : Int) + 1 ≤ 60; omega⟩
theorem oks (n k : Nat) (h : 1 ≤ k ∧ 2 * k ≤ n ∧ n ≤ 28) : (Tr.sets n k).Ok := by
  have hp : chooseI (n : Int) (k : Int) ≤ 10 ^ 60 := by
    rw [cN_eq (by omega) (by omega)]
    have := cN_lt n k
    omega
  exact ⟨fun l => ⟨h.1, h.2.1, by omega⟩, Nat.le_of_ble_eq_true rfl, (show 0 < 20 by decide), ⟨by omega, by omega⟩, trivial, trivial, hp, by show (k : Int) + 1 ≤ 60; omega⟩
theorem cN_none {n : Nat} (h : n ≤ 28) : cN n 0 = 1 := by
  rw [← chF_eq h (Nat.zero_le n)]
  rfl
theorem bm_words {n q : Nat} (h : 1 ≤ n ∧ n ≤ 14 ∧ 2 ≤ q ∧ q ≤ 5) : Bm (tE "words" n q) n (q ^ n) (wV n q) (rwW n q) := by
  have ok := okw n q h
  have ck := checked_eq false _ ok
  have pt := points_eq false _ 20 ok.depth ok.fit
  have kd := kinds_eq false _ 20 ok.depth ok.kfit
  have td : (Tr.words n q).D false = tE "words" n q := rfl
  rw [td] at ck pt kd
  have kd' : F_kinds_of 20 [tE "words" n q] = .ok (.int ((n + 1 : Nat) : Int)) := kd
  have f : fewB (rwW n q) (n + 1) = true := by
    have z := List.all_eq_true.mp (List.all_eq_true.mp few_w n (List.mem_range.mpr (by omega))) (q - 2) (List.mem_range.mpr (by omega))
    rw [show q - 2 + 2 = q by omega] at z
    exact z
  refine ⟨⟨_, _, _, rfl, .inl ⟨rfl, rfl⟩⟩, h.1, h.2.1, ck, kd', ?_, vals_words h.2.1 h.2.2 19 kd', fun j hj => row_words h.2.1 h.2.2 hj 19, fun r hr => size_words h.2.1 h.2.2 hr, lpts_words h.2.1 h.2.2, fun r hr => few_of f (by omega), ?_⟩
  · rw [Int.natCast_pow]
    exact pt
  · show cN n 0 * (q - 1) ^ 0 = 1
    rw [cN_none (by omega)]
    rfl
theorem bm_sets {n k : Nat} (h : 1 ≤ k ∧ 2 * k ≤ n ∧ n ≤ 28) (f : fewB (rwS n k) (k + 1) = true) : Bm (tE "sets" n k) k (cN n k) (sV n k) (rwS n k) := by
  have ok := oks n k h
  have ck := checked_eq false _ ok
  have pt := points_eq false _ 20 ok.depth ok.fit
  have kd := kinds_eq false _ 20 ok.depth ok.kfit
  have td : (Tr.sets n k).D false = tE "sets" n k := rfl
  rw [td] at ck pt kd
  have kd' : F_kinds_of 20 [tE "sets" n k] = .ok (.int ((k + 1 : Nat) : Int)) := kd
  refine ⟨⟨_, _, _, rfl, .inr ⟨rfl, rfl⟩⟩, h.1, by omega, ck, kd', ?_, vals_sets h.2.2 h.2.1 19 kd', fun j hj => row_sets h.2.2 h.2.1 hj 19, fun r hr => size_sets h.2.2 h.2.1 hr, lpts_sets h.2.2 h.2.1, fun r hr => few_of f (by omega), ?_⟩
  · rw [← cN_eq (by omega) (by omega)]
    exact pt
  · show cN k 0 * cN (n - k) 0 = 1
    rw [cN_none (by omega), cN_none (by omega)]
theorem few_even {n k : Nat} (hn : n ≤ 14) (hk : k ≤ n) : fewB (rwS (2 * n) k) (k + 1) = true :=
  List.all_eq_true.mp (List.all_eq_true.mp few_s n (List.mem_range.mpr (by omega))) k (List.mem_range.mpr (by omega))
end K78
namespace K78
open PySem PySem.Spec PyProof.Rows L2 Pf
theorem isint (i : Int) : F_is_integer [.int i] = .ok (.bl true) := is_integer_eq (.int i) rfl
theorem natsD_ints (vs : List Nat) : natsD vs = (vs.map fun (v : Nat) => (v : Int)).map .int := by rw [List.map_map]; rfl
theorem sum_nats (vs : List Nat) : (vs.map fun (v : Nat) => (v : Int)).sum = ((vs.sum : Nat) : Int) := by
  induction vs with
  | nil => rfl
  | cons a b ih => rw [List.map_cons, List.sum_cons, List.sum_cons, ih, Int.natCast_add]
theorem sum_natsD (vs : List Nat) : cSumL [.tup (natsD vs)] = some (.int ((vs.sum : Nat) : Int)) := by
  show (intsD (natsD vs)).map (fun ns => D.int ns.sum) = _
  rw [natsD_ints, intsD_map]
  show some (D.int (vs.map fun (v : Nat) => (v : Int)).sum) = _
  rw [sum_nats]
theorem inL_ints (n : Nat) (f : Nat → Int) : inL n f = ((List.range n).map f).map .int := List.map_map.symm
theorem sum_inT (n : Nat) (f : Nat → Int) : cSumL [.tup (inL n f)] = some (.int ((List.range n).map f).sum) := by
  show (intsD (inL n f)).map (fun ns => D.int ns.sum) = _
  rw [inL_ints, intsD_map]
  rfl
theorem sum_inL (n : Nat) (f : Nat → Int) : cSumL [.lst (inL n f)] = some (.int ((List.range n).map f).sum) := by
  show (intsD (inL n f)).map (fun ns => D.int ns.sum) = _
  rw [inL_ints, intsD_map]
  rfl
theorem cut_first {n r : Nat} (f : Nat → D) (h : r < n) : slD none (some ((r : Int) + 1)) (.tup ((List.range n).map f)) = some (.tup ((List.range (r + 1)).map f)) := by
  show some (D.tup (cutD ((List.range n).map f) none (some ((r : Int) + 1)))) = _
  congr 2
  unfold Pf.cutD
  rw [show (r : Int) + 1 = ((r + 1 : Nat) : Int) by omega, HT.sIx_nat, HT.sIx_none, List.drop_zero, List.length_map, List.length_range, ← List.map_take, List.take_range]
  congr 2
  omega
theorem filter_map {α : Type} (p : α → Bool) (g : α → D) : ∀ xs : List α, (xs.filterMap fun x => if p x = true then some (g x) else none) = (xs.filter p).map g
  | [] => rfl
  | x :: xs => by
    rw [List.filterMap_cons, List.filter_cons, filter_map p g xs]
    cases p x <;> rfl
/-- the spaces without a value on a ball -/
abbrev zs (e : Nat → Nat → Int) (m r : Nat) : List Nat := (List.range (m + 1)).filter fun j => decide (((List.range (r + 1)).map (e j)).sum = 0)
section
variable {t : D} {m N : Nat} {v : Nat → Nat} {e : Nat → Nat → Int}
theorem ordered (S : Bm t m N v e) : F_require_ordered [t] = .ok .non := by
  obtain ⟨w, a, b, rfl, h⟩ := S.shape
  have i0 : ixD (tE w a b) (.int 0) = some (.str (Str.ofString w)) := (ixD_first _ _).2
  have d : dIn true (.str (Str.ofString w)) (.tup [.str (Str.ofString "words"), .str (Str.ofString "sets")]) = some (.bl false) := by
    rcases h with ⟨rfl, _⟩ | ⟨rfl, _⟩ <;> kernel_rfl
  show (b_require_ordered [.im (tE w a b)]).fn = _
  generalize tE w a b = T at *
  unfold b_require_ordered
  simp_arith [i0, d]
theorem radius_ok (S : Bm t m N v e) {r : Nat} (hr : r ≤ m) : F_require_radius [t, .int (r : Int)] = .ok .non := by
  have kd := S.kd
  show (b_require_radius [.im t, .im (.int (r : Int))]).fn = _
  unfold b_require_radius
  simp_arith [isint, kd]
theorem kind_ok (S : Bm t m N v e) {r : Nat} (hr : r ≤ m) : F_require_kind [t, .int (r : Int)] = .ok .non := by
  have kd := S.kd
  show (b_require_kind [.im t, .im (.int (r : Int))]).fn = _
  unfold b_require_kind
  simp_arith [isint, kd]
theorem checked_ok (S : Bm t m N v e) {r : Nat} (hr : r ≤ m) : F_checked_with_radius [t, .int (r : Int)] = .ok t := by
  show (b_checked_with_radius [.im t, .im (.int (r : Int)), .no]).fn = _
  unfold b_checked_with_radius
  simp_arith [S.ck, ordered S, radius_ok S hr]
theorem ball_eq (S : Bm t m N v e) {r : Nat} (hr : r ≤ m) : F_ball_of [t, .int (r : Int)] = .ok (.int ((((List.range (r + 1)).map v).sum : Nat) : Int)) := by
  have vq := S.vals
  have sl : slD none (some ((r : Int) + 1)) (.tup (natsD ((List.range (m + 1)).map v))) = some (.tup (natsD ((List.range (r + 1)).map v))) := by
    rw [natsD_map, natsD_map]
    exact cut_first (fun i => D.int ((v i : Nat) : Int)) (by omega)
  have sm := sum_natsD ((List.range (r + 1)).map v)
  generalize natsD ((List.range (m + 1)).map v) = x1 at *
  generalize natsD ((List.range (r + 1)).map v) = x2 at *
  show (b_ball_of [.im t, .im (.int (r : Int))]).fn = _
  unfold b_ball_of
  simp_arith [vq, sl, sm]
theorem rows_eq (S : Bm t m N v e) : F_rows_of 20 [t] = .ok (.lst ((List.range (m + 1)).map fun j => .tup (inL (m + 1) (e j)))) := by
  have i0 : ∃ w, ixD t (.int 0) = some (.str (Str.ofString w)) ∧ (w = "words" ∨ w = "sets") := by
    obtain ⟨w, a, b, rfl, h⟩ := S.shape
    exact ⟨w, (ixD_first _ _).2, h.imp (·.1) (·.1)⟩
  obtain ⟨w, i0, hw⟩ := i0
  have n1 : dEq (.str (Str.ofString w)) (.str (Str.ofString "listed")) = some (.bl false) := by
    rcases hw with rfl | rfl
    · exact str_ne (a := "words") (b := "listed")
    · exact str_ne (a := "sets") (b := "listed")
  have n2 : dEq (.str (Str.ofString w)) (.str (Str.ofString "product")) = some (.bl false) := by
    rcases hw with rfl | rfl
    · exact str_ne (a := "words") (b := "product")
    · exact str_ne (a := "sets") (b := "product")
  have m14 := S.m14
  have kd := S.kd
  have rg : rng1 [.int ((m + 1 : Nat) : Int)] = some ((List.range (m + 1)).map fun (i : Nat) => D.int (i : Int)) := x_rng1 (m + 1) (by omega)
  have sz : ((List.range (m + 1)).map fun j => D.tup (inL (m + 1) (e j))).length ≤ 4000 := by
    rw [List.length_map (f := _), List.length_range]
    omega
  show (b_rows_of (F_rows_of 19) [.im t, .no, .no, .no, .no, .no, .no]).fn = _
  unfold b_rows_of
  simp_arith [i0, n1, n2, kd, rg]
  rw [turns_mapL (fun (i : Nat) => D.int (i : Int)) (fun j => D.tup (inL (m + 1) (e j))) (List.range (m + 1)) fun j hj => by
    have hj := List.mem_range.mp hj
    have q := S.row j (by omega)
    simp_arith [q]]
  simp_arith []
theorem zs_len (S : Bm t m N v e) {r : Nat} (hr : r ≤ m) : (zs e m r).length ≤ r := S.few r hr
theorem zeros_eq (S : Bm t m N v e) {r : Nat} (hr : r ≤ m) : F_zeros_of [t, .int (r : Int)] = .ok (.lst ((zs e m r).map fun (j : Nat) => .int (j : Int))) := by
  have rq := rows_eq S
  have m14 := S.m14
  have few := zs_len S hr
  have en := enum_map (m + 1) fun j => D.tup (inL (m + 1) (e j))
  generalize (D.lst ((List.range (m + 1)).map fun j => D.tup (inL (m + 1) (e j)))) = R at *
  have len : ((zs e m r).map fun (j : Nat) => D.int (j : Int)).length ≤ 4000 := by
    rw [List.length_map]
    omega
  show (b_zeros_of [.im t, .im (.int (r : Int)), .no, .no]).fn = _
  unfold b_zeros_of
  simp_arith [rq, en]
  rw [turns_pickL (fun (j : Nat) => D.tup [.int (j : Int), .tup (inL (m + 1) (e j))]) (fun (j : Nat) => if decide (((List.range (r + 1)).map (e j)).sum = 0) = true then some (D.int (j : Int)) else none) (List.range (m + 1)) fun j hj => by
    have hj := List.mem_range.mp hj
    have sl : slD none (some ((r : Int) + 1)) (.tup (inL (m + 1) (e j))) = some (.tup (inL (r + 1) (e j))) := cut_first (fun i => D.int (e j i)) (by omega)
    have sm := sum_inT (r + 1) (e j)
    generalize inL (m + 1) (e j) = x1 at *
    generalize inL (r + 1) (e j) = x2 at *
    generalize ((List.range (r + 1)).map (e j)).sum = s at *
    by_cases c : s = 0
    · rw [if_pos (decide_eq_true (p := _) c)]
      simp_arith [sl, sm]
    · rw [decide_eq_false c]
      simp_arith [sl, sm]
      rfl]
  rw [filter_map]
  simp_arith []
theorem eigen_eq (S : Bm t m N v e) {j i : Nat} (hj : j ≤ m) (hi : i ≤ m) : F_eigenvalue [t, .int (j : Int), .int (i : Int)] = .ok (.int (e j i)) := by
  have q := S.row j hj
  have a : ixD (.tup (inL (m + 1) (e j))) (.int (i : Int)) = some (.int (e j i)) := at_nat (fun i => D.int (e j i)) (by omega)
  generalize inL (m + 1) (e j) = x1 at *
  show (b_eigenvalue [.im t, .im (.int (j : Int)), .im (.int (i : Int)), .no]).fn = _
  unfold b_eigenvalue
  simp_arith [S.ck, kind_ok S hj, kind_ok S hi, q, a]
end
end K78
namespace K78
open PySem PySem.Spec PyProof.Rows L2 Pf
/-! ### the points near the first one, counted -/
def firstRow : Rf → Option (List Int)
  | .ok (.lst (.lst row :: _)) => intsD row
  | _ => none
def nearB (t : D) (m : Nat) (v : Nat → Nat) : Bool := match firstRow (F__law_kinds 20 [t]) with
  | some K => Nat.ble K.length 40 && (List.range (m + 1)).all fun r => Nat.beq (K.filter fun z => decide (z ≤ (r : Int))).length ((List.range (r + 1)).map v).sum
  | none => false
theorem intsD_inv : ∀ {ds : List D} {ns : List Int}, intsD ds = some ns → ds = ns.map .int
  | [], ns, h => by cases h; rfl
  | d :: ds, ns, h => by
    cases d <;> first | cases h | skip
    rename_i i
    have h : (intsD ds).map (i :: ·) = some ns := h
    cases q : intsD ds with
    | none => rw [q] at h; cases h
    | some ms =>
      rw [q] at h
      cases h
      rw [intsD_inv q]
      rfl
theorem first_inv : ∀ {r : Rf} {K : List Int}, firstRow r = some K → ∃ rs, r = .ok (.lst (.lst (K.map .int) :: rs))
  | .ok (.lst (.lst row :: rs)), K, h => ⟨rs, by rw [intsD_inv (show intsD row = some K from h)]⟩
/-- the first row of the law's table -/
structure Near (t : D) (m : Nat) (v : Nat → Nat) (K : List Int) : Prop where
  run : ∃ rs, F__law_kinds 20 [t] = .ok (.lst (.lst (K.map .int) :: rs))
  few : K.length ≤ 40
  cnt : ∀ r : Nat, r ≤ m → (K.filter fun z => decide (z ≤ (r : Int))).length = ((List.range (r + 1)).map v).sum
theorem near_of {t : D} {m : Nat} {v : Nat → Nat} (h : nearB t m v = true) : ∃ K, Near t m v K := by
  unfold nearB at h
  split at h
  · rename_i K q
    rw [Bool.and_eq_true] at h
    exact ⟨K, first_inv q, Nat.le_of_ble_eq_true h.1, fun r hr => Nat.eq_of_beq_eq_true (List.all_eq_true.mp h.2 r (List.mem_range.mpr (by omega)))⟩
  · cases h
theorem near_w12 : nearB (tE "words" 1 2) 1 (wV 1 2) = true := by kernel_rfl
theorem near_w13 : nearB (tE "words" 1 3) 1 (wV 1 3) = true := by kernel_rfl
theorem near_w22 : nearB (tE "words" 2 2) 2 (wV 2 2) = true := by kernel_rfl
theorem near_w23 : nearB (tE "words" 2 3) 2 (wV 2 3) = true := by kernel_rfl
theorem near_w32 : nearB (tE "words" 3 2) 3 (wV 3 2) = true := by kernel_rfl
theorem near_w33 : nearB (tE "words" 3 3) 3 (wV 3 3) = true := by kernel_rfl
theorem near_w42 : nearB (tE "words" 4 2) 4 (wV 4 2) = true := by kernel_rfl
theorem near_w52 : nearB (tE "words" 5 2) 5 (wV 5 2) = true := by kernel_rfl
theorem near_s21 : nearB (tE "sets" 2 1) 1 (sV 2 1) = true := by kernel_rfl
theorem near_s31 : nearB (tE "sets" 3 1) 1 (sV 3 1) = true := by kernel_rfl
theorem near_s41 : nearB (tE "sets" 4 1) 1 (sV 4 1) = true := by kernel_rfl
theorem near_s51 : nearB (tE "sets" 5 1) 1 (sV 5 1) = true := by kernel_rfl
theorem near_s42 : nearB (tE "sets" 4 2) 2 (sV 4 2) = true := by kernel_rfl
theorem near_s52 : nearB (tE "sets" 5 2) 2 (sV 5 2) = true := by kernel_rfl
theorem near_s62 : nearB (tE "sets" 6 2) 2 (sV 6 2) = true := by kernel_rfl
theorem near_s63 : nearB (tE "sets" 6 3) 3 (sV 6 3) = true := by kernel_rfl
end K78
namespace K78
open PySem PySem.Spec PyProof.Rows L2 Pf
theorem pys_ints : ∀ xs : List Int, D.py.pys (xs.map .int) = some (xs.map PyData.int)
  | [] => rfl
  | x :: xs => by
    rw [List.map_cons, D.py.pys, pys_ints xs, D.py]
    rfl
theorem lay_ints : ∀ r : List Int, PyData.canLayAll0 (r.map PyData.int) = true
  | [] => rfl
  | x :: xs => by
    rw [List.map_cons, PyData.canLayAll0, lay_ints xs]
    rfl
theorem ne_ints (xs : List Int) : dNe (.lst (xs.map .int)) (.lst (xs.map .int)) = some (.bl false) := by
  have p : (D.lst (xs.map .int)).py = some (.list (xs.map PyData.int)) := by
    rw [D.py, pys_ints]
    rfl
  have c : (PyData.list (xs.map PyData.int)).canLay0 = true := by
    rw [PyData.canLay0]
    exact lay_ints xs
  have s : SeqAt.shaped (.list (xs.map PyData.int)) = true := by
    unfold SeqAt.shaped
    rw [c, decide_eq_true (by rw [PyData.depth, depth_ints]; decide)]
    rfl
  unfold dNe D.eqv
  rw [p]
  show (if (SeqAt.shaped (.list (xs.map PyData.int)) && SeqAt.shaped (.list (xs.map PyData.int))) = true then some (PyData.eqv (.list (xs.map PyData.int)) (.list (xs.map PyData.int))) else none).map _ = _
  rw [s, SeqAt.eqv_refl _ c]
  rfl
theorem ne_nats (xs : List Nat) : dNe (.lst (xs.map fun (j : Nat) => .int (j : Int))) (.lst (xs.map fun (j : Nat) => .int (j : Int))) = some (.bl false) := by
  have q := ne_ints (xs.map fun (j : Nat) => (j : Int))
  rw [List.map_map] at q
  exact q
theorem bool_ne (b : Bool) : dNe (.bl b) (.bl b) = some (.bl false) := by cases b <;> kernel_rfl
theorem bool_eq (b : Bool) : dEq (.bl b) (.bl b) = some (.bl true) := by cases b <;> kernel_rfl
section
variable {t : D} {m N : Nat} {v : Nat → Nat} {e : Nat → Nat → Int}
theorem ball_size_eq (S : Bm t m N v e) {r : Nat} (hr : r ≤ m) : F_ball_size [t, .int (r : Int)] = .ok (.int ((((List.range (r + 1)).map v).sum : Nat) : Int)) := by
  show (b_ball_size [.im t, .im (.int (r : Int))]).fn = _
  unfold b_ball_size
  simp_arith [checked_ok S hr, ball_eq S hr]
theorem sum_pos (S : Bm t m N v e) (r : Nat) : 1 ≤ ((List.range (r + 1)).map v).sum := by
  rw [List.range_succ_eq_map, List.map_cons, List.sum_cons, S.v0]
  omega
theorem divides_eq (S : Bm t m N v e) {r : Nat} (hr : r ≤ m) {b : Bool} (hb : dEq (.int ((N : Int) % ((((List.range (r + 1)).map v).sum : Nat) : Int))) (.int 0) = some (.bl b)) : F_ball_divides [t, .int (r : Int)] = .ok (.bl b) := by
  have p := sum_pos S r
  have bq := ball_eq S hr
  have pq := S.pt
  generalize ((List.range (r + 1)).map v).sum = z at *
  show (b_ball_divides [.im t, .im (.int (r : Int)), .no]).fn = _
  unfold b_ball_divides
  simp_arith [checked_ok S hr, pq, bq, hb]
theorem ball_zeros_eq (S : Bm t m N v e) {r : Nat} (hr : r ≤ m) : F_ball_zeros [t, .int (r : Int)] = .ok (.lst ((zs e m r).map fun (j : Nat) => .int (j : Int))) := by
  show (b_ball_zeros [.im t, .im (.int (r : Int))]).fn = _
  unfold b_ball_zeros
  simp_arith [checked_ok S hr, zeros_eq S hr]
theorem perfect_eq (S : Bm t m N v e) {r : Nat} (hr : r ≤ m) {b : Bool} (hb : dEq (.int ((N : Int) % ((((List.range (r + 1)).map v).sum : Nat) : Int))) (.int 0) = some (.bl b)) : F_can_be_perfect [t, .int (r : Int)] = .ok (.bl (b && decide (r ≤ (zs e m r).length))) := by
  have p := sum_pos S r
  have bq := ball_eq S hr
  have pq := S.pt
  have zq := zeros_eq S hr
  have len : ((zs e m r).map fun (j : Nat) => D.int (j : Int)).length = (zs e m r).length := List.length_map ..
  generalize ((zs e m r).map fun (j : Nat) => D.int (j : Int)) = zl at *
  generalize (zs e m r).length = zn at *
  generalize ((List.range (r + 1)).map v).sum = z at *
  show (b_can_be_perfect [.im t, .im (.int (r : Int)), .no]).fn = _
  unfold b_can_be_perfect
  cases b with
  | false =>
    simp_arith [checked_ok S hr, pq, bq, hb]
    rfl
  | true =>
    by_cases c : r ≤ zn
    · rw [decide_eq_true c]
      simp_arith [checked_ok S hr, pq, bq, hb, zq, len]
      rfl
    · rw [decide_eq_false c]
      simp_arith [checked_ok S hr, pq, bq, hb, zq, len]
      rfl
end
end K78
namespace K78
open PySem PySem.Spec PyProof.Rows L2 Pf
/-- the law from the points on -/
def b_tail : List Sl → Ro :=
  (rSeq (rSet 7 (f2 (f2 (fCB (fCons (vCall 1 F__law_points (fCons (rdN 2) aNil)) aNil) cInt) (rdN 6) dMod) (vK (.int 0)) dEq))
  (rSeq (rSet 8 (vCall 2 F_ball_divides (fCons (rdN 2) (fCons (rdN 5) aNil))))
  (rSeq (rIf (bOr (bNot (fTru (fIsi (rdN 8) ["bool"]))) (fAsB (f2 (rdN 8) (rdN 7) dNe))) (rRet (vK (.bl false))) Ro.nx)
  (rSeq (rSet 9 (fFrz (fLc (wRng1 (fCons (f2 (rdN 4) (vK (.int 1)) dAddU) aNil)) (gNm 12) (fAsB (f2 (fCB (fCons (fFrz (fLc (wRng1 (fCons (f2 (rdN 5) (vK (.int 1)) dAddU) aNil)) (gNm 13) tYes' (vCall 3 F_eigenvalue (fCons (rdN 2) (fCons (rdN 12) (fCons (rdN 13) aNil)))) [13])) aNil) cSumL) (vK (.int 0)) dEq)) (rdN 12) [12])))
  (rSeq (rSet 10 (vCall 2 F_ball_zeros (fCons (rdN 2) (fCons (rdN 5) aNil))))
  (rSeq (rIf (bOr (bNot (fTru (fIsi (rdN 10) ["list"]))) (bOr (fAsB (f2 (rdN 10) (rdN 9) dNe)) (fAsB (f2 (fCB (fCons (rdN 9) aNil) cLen) (rdN 5) dGt)))) (rRet (vK (.bl false))) Ro.nx)
  (rSeq (rSet 8 (vCall 2 F_can_be_perfect (fCons (rdN 2) (fCons (rdN 5) aNil))))
  (rRet (fAnd (fIsi (rdN 8) ["bool"]) (f2 (rdN 8) (fAnd (rdN 7) (f2 (fCB (fCons (rdN 9) aNil) cLen) (rdN 5) dGe)) dEq))))))))))
/-- the law from the size of the ball on -/
def b_rest : List Sl → Ro :=
  (rSeq (rSet 6 (vCall 2 F__law_size_of (fCons (rdN 2) (fCons (rdN 5) aNil))))
  (rSeq (rIf (bAnd (bNot (fTru (rdN 3))) (fAsB (f2 (rdN 6) (fCB (fCons (fFrz (fLc (fItems (fIx (vCall 1 (F__law_kinds 20) (fCons (rdN 2) aNil)) (vK (.int 0)))) (gNm 13) (fAsB (f2 (rdN 13) (rdN 5) dLe)) (rdN 13) [13])) aNil) cLen) dNe))) (rRet (vK (.bl false))) Ro.nx)
  (rSeq (rIf (fAsB (f2 (vCall 2 F_ball_size (fCons (rdN 2) (fCons (rdN 5) aNil))) (rdN 6) dNe)) (rRet (vK (.bl false))) Ro.nx)
  b_tail)))
theorem near_len {t : D} {m : Nat} {v : Nat → Nat} {K : List Int} (N : Near t m v K) {r : Nat} (hr : r ≤ m) : ((K.filter fun z => decide (z ≤ (r : Int))).map D.int).length = ((List.range (r + 1)).map v).sum ∧ ((K.filter fun z => decide (z ≤ (r : Int))).map D.int).length ≤ 4000 := by
  have a := List.length_filter_le (fun z => decide (z ≤ (r : Int))) K
  have b := N.few
  rw [List.length_map]
  exact ⟨N.cnt r hr, by omega⟩
theorem tail_ok {t scr nums : D} {m N : Nat} {v : Nat → Nat} {e : Nat → Nat → Int} (S : Bm t m N v e) {r : Nat} (hr : r ≤ m) (g : Bool) (s : Sl) (hs : Sl.hid s = s) :
    (b_tail [.im scr, .im nums, .im t, .im (.bl g), .im (.int (m : Int)), .im (.int (r : Int)), .im (.int ((((List.range (r + 1)).map v).sum : Nat) : Int)), .no, .no, .no, .no, s, .no, .no]).fn = .ok (.bl true) := by
  have m14 := S.m14
  have p := sum_pos S r
  have lp := S.lpt
  obtain ⟨dd, hb⟩ : ∃ b, dEq (.int ((N : Int) % ((((List.range (r + 1)).map v).sum : Nat) : Int))) (.int 0) = some (.bl b) := ⟨_, x_eq _ _⟩
  have dq := divides_eq S hr hb
  have pq := perfect_eq S hr hb
  have zq := ball_zeros_eq S hr
  have few := zs_len S hr
  have ib : ∀ b, isiD ["bool"] (.bl b) = some (.bl true) := fun b => rfl
  have il : ∀ xs, isiD ["list"] (.lst xs) = some (.bl true) := fun xs => rfl
  have rgm : rng1 [.int ((m : Int) + 1)] = some ((List.range (m + 1)).map fun (i : Nat) => D.int (i : Int)) := by
    rw [show (m : Int) + 1 = ((m + 1 : Nat) : Int) by omega]
    exact x_rng1 (m + 1) (by omega)
  have rgr : rng1 [.int ((r : Int) + 1)] = some ((List.range (r + 1)).map fun (i : Nat) => D.int (i : Int)) := by
    rw [show (r : Int) + 1 = ((r + 1 : Nat) : Int) by omega]
    exact x_rng1 (r + 1) (by omega)
  have zn := ne_nats (zs e m r)
  have zlen : ((zs e m r).map fun (j : Nat) => D.int (j : Int)).length = (zs e m r).length := List.length_map ..
  have zlen4 : ((zs e m r).map fun (j : Nat) => D.int (j : Int)).length ≤ 4000 := by
    rw [zlen]
    omega
  generalize ((List.range (r + 1)).map v).sum = z at *
  unfold b_tail
  simp_arith [lp, hb, dq, ib, bool_ne, rgm, hs]
  rw [turns_pickL (fun (j : Nat) => D.int (j : Int)) (fun (j : Nat) => if decide (((List.range (r + 1)).map (e j)).sum = 0) = true then some (D.int (j : Int)) else none) (List.range (m + 1)) fun j hj => by
    have hj := List.mem_range.mp hj
    have sm := sum_inL (r + 1) (e j)
    have l1 : (inL (r + 1) (e j)).length ≤ 4000 := by
      rw [inL_len]
      omega
    simp_arith [rgr, hs]
    rw [turns_mapL (fun (i : Nat) => D.int (i : Int)) (fun i => D.int (e j i)) (List.range (r + 1)) fun i hi => by
      have hi := List.mem_range.mp hi
      simp_arith [eigen_eq S (show j ≤ m by omega) (show i ≤ m by omega)]]
    by_cases c : ((List.range (r + 1)).map (e j)).sum = 0
    · rw [if_pos (decide_eq_true (p := _) c)]
      simp_arith [sm]
    · rw [decide_eq_false c]
      simp_arith [sm]
      rfl]
  rw [filter_map]
  generalize (zs e m r).length = zn1 at *
  generalize ((zs e m r).map fun (j : Nat) => D.int (j : Int)) = zl at *
  simp_arith [zq, zn, il, zlen, pq, ib]
  cases dd with
  | false => simp_arith [Bool.false_and, bool_eq]
  | true =>
    by_cases c : r ≤ zn1
    · rw [decide_eq_true c]
      simp_arith [Bool.true_and, bool_eq]
    · rw [decide_eq_false c]
      simp_arith [Bool.true_and, bool_eq]
theorem rest_ok {t scr nums : D} {m N : Nat} {v : Nat → Nat} {e : Nat → Nat → Int} (S : Bm t m N v e) {r : Nat} (hr : r ≤ m) (g : Bool) (hk : g = false → ∃ K, Near t m v K) (s : Sl) (hs : Sl.hid s = s) :
    (b_rest [.im scr, .im nums, .im t, .im (.bl g), .im (.int (m : Int)), .im (.int (r : Int)), .no, .no, .no, .no, .no, s, .no, .no]).fn = .ok (.bl true) := by
  have sq := S.lsz r hr
  have bs := ball_size_eq S hr
  have tl := tail_ok (scr := scr) (nums := nums) S hr g s hs
  unfold b_rest
  cases g with
  | true =>
    generalize ((List.range (r + 1)).map v).sum = z at *
    simp_arith [sq, bs, tl]
  | false =>
    obtain ⟨K, n⟩ := hk rfl
    obtain ⟨rs, run⟩ := n.run
    obtain ⟨l1, l2⟩ := near_len n hr
    generalize ((List.range (r + 1)).map v).sum = z at *
    have i0 : ixD (.lst (.lst (K.map .int) :: rs)) (.int 0) = some (.lst (K.map .int)) := by
      rw [x_ixL (by decide) (by rw [List.length_cons]; omega)]
      rfl
    simp_arith [sq, run, i0, hs]
    rw [turns_pickL D.int (fun (z : Int) => if decide (z ≤ (r : Int)) = true then some (D.int z) else none) K fun z hz => by
      by_cases c : z ≤ (r : Int)
      · rw [if_pos (decide_eq_true (p := _) c)]
        simp_arith []
      · rw [decide_eq_false c]
        simp_arith []
        rfl]
    rw [filter_map]
    simp_arith [l1, bs, tl]
end K78
namespace K78
open PySem PySem.Spec PyProof.Rows L2 Pf
abbrev num (xs : List Int) (i : Nat) : Int := xs.getD i 0
theorem mod_nat (v : Int) {k : Nat} (h : 1 ≤ k) : ∃ c : Nat, c < k ∧ v % (k : Int) = (c : Int) := by
  have a := Int.emod_nonneg v (show (k : Int) ≠ 0 by omega)
  have b := Int.emod_lt_of_pos v (show (0 : Int) < k by omega)
  exact ⟨(v % (k : Int)).toNat, by omega, by omega⟩
/-! ### the drawn small schemes -/
theorem near_words {n q : Nat} (h : 1 ≤ n ∧ n ≤ 3 ∧ 2 ≤ q ∧ q ≤ 3) : ∃ K, Near (tE "words" n q) n (wV n q) K := by
  have c : (n = 1 ∨ n = 2 ∨ n = 3) ∧ (q = 2 ∨ q = 3) := by omega
  obtain ⟨rfl | rfl | rfl, rfl | rfl⟩ := c
  · exact near_of near_w12
  · exact near_of near_w13
  · exact near_of near_w22
  · exact near_of near_w23
  · exact near_of near_w32
  · exact near_of near_w33
theorem near_long {n : Nat} (h : 4 ≤ n ∧ n ≤ 5) : ∃ K, Near (tE "words" n (2 : Nat)) n (wV n 2) K := by
  have c : n = 4 ∨ n = 5 := by omega
  obtain rfl | rfl := c
  · exact near_of near_w42
  · exact near_of near_w52
theorem near_ones {n : Nat} (h : 2 ≤ n ∧ n ≤ 5) : (∃ K, Near (tE "sets" n (1 : Nat)) 1 (sV n 1) K) ∧ fewB (rwS n 1) 2 = true := by
  have o := few_o
  rw [Bool.and_eq_true, Bool.and_eq_true] at o
  have c : n = 2 ∨ n = 3 ∨ n = 4 ∨ n = 5 := by omega
  obtain rfl | rfl | rfl | rfl := c
  · exact ⟨near_of near_s21, few_even (n := 1) (by decide) (by decide)⟩
  · exact ⟨near_of near_s31, o.1.1⟩
  · exact ⟨near_of near_s41, few_even (n := 2) (by decide) (by decide)⟩
  · exact ⟨near_of near_s51, o.1.2⟩
theorem near_twos {n : Nat} (h : 4 ≤ n ∧ n ≤ 6) : (∃ K, Near (tE "sets" n (2 : Nat)) 2 (sV n 2) K) ∧ fewB (rwS n 2) 3 = true := by
  have o := few_o
  rw [Bool.and_eq_true, Bool.and_eq_true] at o
  have c : n = 4 ∨ n = 5 ∨ n = 6 := by omega
  obtain rfl | rfl | rfl := c
  · exact ⟨near_of near_s42, few_even (n := 2) (by decide) (by decide)⟩
  · exact ⟨near_of near_s52, o.2⟩
  · exact ⟨near_of near_s62, few_even (n := 3) (by decide) (by decide)⟩
theorem metric_eq {xs : List Int} (hl : xs.length = 20) : ∃ t m N v e, F__law_metric [.lst (xs.map .int), .int 0] = .ok t ∧ Bm t m N v e ∧ ∃ K, Near t m v K := by
  have p0 : F__law_pick [.lst (xs.map .int), .int 0, .int 6] = .ok (.int (num xs 0 % 6)) := pick_eq (i := 0) (by omega) (by decide)
  have p13 : F__law_pick [.lst (xs.map .int), .int 1, .int 3] = .ok (.int (num xs 1 % 3)) := pick_eq (i := 1) (by omega) (by decide)
  have p12 : F__law_pick [.lst (xs.map .int), .int 1, .int 2] = .ok (.int (num xs 1 % 2)) := pick_eq (i := 1) (by omega) (by decide)
  have p14 : F__law_pick [.lst (xs.map .int), .int 1, .int 4] = .ok (.int (num xs 1 % 4)) := pick_eq (i := 1) (by omega) (by decide)
  have p22 : F__law_pick [.lst (xs.map .int), .int 2, .int 2] = .ok (.int (num xs 2 % 2)) := pick_eq (i := 2) (by omega) (by decide)
  generalize num xs 0 = v0 at *
  generalize num xs 1 = v1 at *
  generalize num xs 2 = v2 at *
  generalize (D.lst (xs.map .int)) = nums at *
  have key : ∀ r, (b__law_metric [.im nums, .im (.int 0), .no]).fn = r → F__law_metric [nums, .int 0] = r := fun r h => h
  obtain ⟨c, hc, m0⟩ := mod_nat v0 (show 1 ≤ 6 by decide)
  have m0' : v0 % 6 = (c : Int) := m0
  by_cases c2 : c < 2
  · obtain ⟨a, ha⟩ : ∃ a : Nat, 1 + v1 % 3 = (a : Int) := ⟨(1 + v1 % 3).toNat, by omega⟩
    obtain ⟨q, hq⟩ : ∃ q : Nat, 2 + v2 % 2 = (q : Int) := ⟨(2 + v2 % 2).toNat, by omega⟩
    exact ⟨_, _, _, _, _, key (.ok (tE "words" a q)) (by unfold b__law_metric; simp_arith [p0, m0', p13, p22, ha, hq]), bm_words (by omega), near_words (by omega)⟩
  by_cases c3 : c = 2
  · obtain ⟨a, ha⟩ : ∃ a : Nat, 4 + v1 % 2 = (a : Int) := ⟨(4 + v1 % 2).toNat, by omega⟩
    exact ⟨_, _, _, _, _, key (.ok (tE "words" a (2 : Nat))) (by unfold b__law_metric; simp_arith [p0, m0', p12, ha]; rfl), bm_words (by omega), near_long (by omega)⟩
  by_cases c4 : c = 3
  · obtain ⟨a, ha⟩ : ∃ a : Nat, 2 + v1 % 4 = (a : Int) := ⟨(2 + v1 % 4).toNat, by omega⟩
    exact ⟨_, _, _, _, _, key (.ok (tE "sets" a (1 : Nat))) (by unfold b__law_metric; simp_arith [p0, m0', p14, ha]; rfl), bm_sets (by omega) (near_ones (by omega)).2, (near_ones (by omega)).1⟩
  by_cases c5 : c = 4
  · obtain ⟨a, ha⟩ : ∃ a : Nat, 4 + v1 % 3 = (a : Int) := ⟨(4 + v1 % 3).toNat, by omega⟩
    exact ⟨_, _, _, _, _, key (.ok (tE "sets" a (2 : Nat))) (by unfold b__law_metric; simp_arith [p0, m0', p13, ha]; rfl), bm_sets (by omega) (near_twos (by omega)).2, (near_twos (by omega)).1⟩
  · exact ⟨_, _, _, _, _, key (.ok (tE "sets" (6 : Nat) (3 : Nat))) (by unfold b__law_metric; simp_arith [p0, m0']; rfl), bm_sets (by omega) (few_even (n := 3) (by decide) (by decide)), near_of near_s63⟩
/-- the law from the greatest kind on -/
def b_mid : List Sl → Ro :=
  (rSeq (rSet 4 (fIx (fFrz (fLst (fCons (fIx (rdN 2) (vK (.int 2))) (fCons (fIx (rdN 2) (vK (.int 1))) aNil)))) (fCB (fCons (f2 (fIx (rdN 2) (vK (.int 0))) (vK (.str "words")) dEq) aNil) cInt)))
  (rSeq (rSet 5 (vCall 3 F__law_pick (fCons (rdN 1) (fCons (vK (.int 6)) (fCons (f2 (rdN 4) (vK (.int 1)) dAddU) aNil)))))
  (rSeq (rIf (bAnd (fTru (rdN 3)) (fAsB (f2 (vCall 3 F__law_pick (fCons (rdN 1) (fCons (vK (.int 7)) (fCons (vK (.int 5)) aNil)))) (vK (.int 1)) dEq))) (rSeq (rSet 2 (fTup (fCons (vK (.str "sets")) (fCons (vK (.int 12)) (fCons (vK (.int 4)) aNil)))))
  (rSeq (rSet 4 (vK (.int 4)))
  (rSet 5 (vK (.int 1))))) Ro.nx)
  b_rest)))
theorem mid_ok {t scr : D} {m N : Nat} {v : Nat → Nat} {e : Nat → Nat → Int} (S : Bm t m N v e) (g : Bool) (hk : g = false → ∃ K, Near t m v K) (s : Sl) (hs : Sl.hid s = s) {xs : List Int} (hl : xs.length = 20) :
    (b_mid [.im scr, .im (.lst (xs.map .int)), .im t, .im (.bl g), .no, .no, .no, .no, .no, .no, .no, s, .no, .no]).fn = .ok (.bl true) := by
  have m14 := S.m14
  have p6 : F__law_pick [.lst (xs.map .int), .int 6, .int ((m : Int) + 1)] = .ok (.int (num xs 6 % ((m : Int) + 1))) := pick_eq (i := 6) (by omega) (by omega)
  have p7 : F__law_pick [.lst (xs.map .int), .int 7, .int 5] = .ok (.int (num xs 7 % 5)) := pick_eq (i := 7) (by omega) (by decide)
  obtain ⟨r, hr, m6⟩ := mod_nat (num xs 6) (show 1 ≤ m + 1 by omega)
  have m6' : num xs 6 % ((m : Int) + 1) = (r : Int) := m6
  generalize num xs 6 = v6 at *
  generalize num xs 7 = v7 at *
  have rest := rest_ok (scr := scr) (nums := .lst (xs.map .int)) S (r := r) (by omega) g hk s hs
  have other := rest_ok (scr := scr) (nums := .lst (xs.map .int)) (bm_sets (n := 12) (k := 4) (by decide) (few_even (n := 6) (by decide) (by decide))) (r := 1) (by decide) true (fun h => by cases h) s hs
  have other' : (b_rest [.im scr, .im (.lst (xs.map .int)), .im (tE "sets" 12 4), .im (.bl true), .im (.int 4), .im (.int 1), .no, .no, .no, .no, .no, s, .no, .no]).fn = .ok (.bl true) := other
  generalize (D.lst (xs.map .int)) = nums at *
  have pick : ∃ w a b, ixD t (.int 0) = some (.str (Str.ofString w)) ∧ ixD t (.int 1) = some (.int a) ∧ ixD t (.int 2) = some (.int b) ∧ (w = "words" ∧ a = (m : Int) ∨ w = "sets" ∧ b = (m : Int)) := by
    obtain ⟨w, a, b, rfl, h⟩ := S.shape
    exact ⟨w, a, b, (ixD_first _ _).2, rfl, rfl, h.imp (fun k => ⟨k.1, by rw [k.2]⟩) (fun k => ⟨k.1, by rw [k.2]⟩)⟩
  have ct : cInt [.bl true] = some (.int 1) := rfl
  have cf : cInt [.bl false] = some (.int 0) := rfl
  obtain ⟨w, a, b, i0, i1, i2, h⟩ := pick
  have x0 : ∀ u z : Int, ixD (.lst [.int u, .int z]) (.int 0) = some (.int u) := fun u z => rfl
  have x1 : ∀ u z : Int, ixD (.lst [.int u, .int z]) (.int 1) = some (.int z) := fun u z => rfl
  unfold b_mid
  rcases h with ⟨rfl, rfl⟩ | ⟨rfl, rfl⟩
  · cases g with
    | false => simp_arith [i0, i1, i2, str_eq (a := "words"), ct, x1, p6, m6', rest]
    | true =>
      by_cases c : v7 % 5 = 1
      · simp_arith [i0, i1, i2, str_eq (a := "words"), ct, x1, p6, m6', p7, c, other']
      · simp_arith [i0, i1, i2, str_eq (a := "words"), ct, x1, p6, m6', p7, rest]
  · cases g with
    | false => simp_arith [i0, i1, i2, str_ne (a := "sets") (b := "words"), cf, x0, p6, m6', rest]
    | true =>
      by_cases c : v7 % 5 = 1
      · simp_arith [i0, i1, i2, str_ne (a := "sets") (b := "words"), cf, x0, p6, m6', p7, c, other']
      · simp_arith [i0, i1, i2, str_ne (a := "sets") (b := "words"), cf, x0, p6, m6', p7, rest]
theorem main' : ∀ ns : List Int, ns.length ≤ 63 → (∀ z ∈ ns, Builtin.Int.intBits z ≤ 1048576) → F_law [.scr ns] = .ok (.bl true) := by
  intro ns hn _
  obtain ⟨xs, h1, hs, hx⟩ := law_numbers_eq ns hn
  obtain ⟨t, m, N, v, e, ht, S, hk⟩ := metric_eq hx
  have p4 : F__law_pick [.lst (xs.map .int), .int 4, .int 3] = .ok (.int (num xs 4 % 3)) := pick_eq (i := 4) (by omega) (by decide)
  have p1 : F__law_pick [.lst (xs.map .int), .int 1, .int 14] = .ok (.int (num xs 1 % 14)) := pick_eq (i := 1) (by omega) (by decide)
  have p2 : F__law_pick [.lst (xs.map .int), .int 2, .int 4] = .ok (.int (num xs 2 % 4)) := pick_eq (i := 2) (by omega) (by decide)
  have p5 : F__law_pick [.lst (xs.map .int), .int 5, .int 2] = .ok (.int (num xs 5 % 2)) := pick_eq (i := 5) (by omega) (by decide)
  obtain ⟨n, hn1⟩ : ∃ n : Nat, 1 + num xs 1 % 14 = (n : Int) := ⟨(1 + num xs 1 % 14).toNat, by omega⟩
  obtain ⟨q, hq⟩ : ∃ q : Nat, 2 + num xs 2 % 4 = (q : Int) := ⟨(2 + num xs 2 % 4).toNat, by omega⟩
  have p2n : F__law_pick [.lst (xs.map .int), .int 2, .int (n : Int)] = .ok (.int (num xs 2 % (n : Int))) := pick_eq (i := 2) (by omega) (by omega)
  obtain ⟨k, hk1, m2⟩ := mod_nat (num xs 2) (show 1 ≤ n by omega)
  have e2 : (2 : Int) * (n : Int) = ((2 * n : Nat) : Int) := by omega
  have e1 : (1 : Int) + (k : Int) = ((k + 1 : Nat) : Int) := by omega
  have mid := mid_ok (scr := .scr ns) S false (fun _ => hk) .no rfl hx
  have mw := mid_ok (scr := .scr ns) (bm_words (n := n) (q := q) (by omega)) true (fun h => by cases h) (.im (.int (n : Int))) rfl hx
  have ms := mid_ok (scr := .scr ns) (bm_sets (n := 2 * n) (k := k + 1) (by omega) (few_even (by omega) (by omega))) true (fun h => by cases h) (.im (.int (n : Int))) rfl hx
  generalize num xs 1 = v1 at *
  generalize num xs 2 = v2 at *
  generalize num xs 4 = v4 at *
  generalize num xs 5 = v5 at *
  generalize (D.lst (xs.map .int)) = nums at *
  have x0 : ∀ u z : D, ixD (.lst [u, z]) (.int 0) = some u := fun u z => rfl
  have x1 : ∀ u z : D, ixD (.lst [u, z]) (.int 1) = some z := fun u z => rfl
  show (((rSeq (rSet 1 (vCall 2 F__law_numbers (fCons (rdN 0) (fCons (vK (.int 20)) aNil))))
  (rSeq (rSet 2 (vCall 2 F__law_metric (fCons (rdN 1) (fCons (vK (.int 0)) aNil))))
  (rSeq (rSet 3 (f2 (vCall 3 F__law_pick (fCons (rdN 1) (fCons (vK (.int 4)) (fCons (vK (.int 3)) aNil)))) (vK (.int 0)) dEq))
  (rSeq (rIf (fTru (rdN 3)) (rSeq (rSet 11 (f2 (vK (.int 1)) (vCall 3 F__law_pick (fCons (rdN 1) (fCons (vK (.int 1)) (fCons (vK (.int 14)) aNil)))) dAddU))
  (rSet 2 (fIx (fFrz (fLst (fCons (fTup (fCons (vK (.str "words")) (fCons (rdN 11) (fCons (f2 (vK (.int 2)) (vCall 3 F__law_pick (fCons (rdN 1) (fCons (vK (.int 2)) (fCons (vK (.int 4)) aNil)))) dAddU) aNil)))) (fCons (fTup (fCons (vK (.str "sets")) (fCons (f2 (vK (.int 2)) (rdN 11) dMul) (fCons (f2 (vK (.int 1)) (vCall 3 F__law_pick (fCons (rdN 1) (fCons (vK (.int 2)) (fCons (rdN 11) aNil)))) dAddU) aNil)))) aNil)))) (vCall 3 F__law_pick (fCons (rdN 1) (fCons (vK (.int 5)) (fCons (vK (.int 2)) aNil))))))) Ro.nx)
  b_mid))))) [.im (.scr ns), .no, .no, .no, .no, .no, .no, .no, .no, .no, .no, .no, .no, .no]).fn = _
  by_cases c : v4 % 3 = 0
  · by_cases d : v5 % 2 = 0
    · simp_arith [h1, ht, p4, c, p1, hn1, p2, hq, x_mul_l (a := 2) (b := (n : Int)) (by decide) (by decide), p2n, m2, e2, e1, p5, d, x0, mw]
    · have d1 : v5 % 2 = 1 := by omega
      simp_arith [h1, ht, p4, c, p1, hn1, p2, hq, x_mul_l (a := 2) (b := (n : Int)) (by decide) (by decide), p2n, m2, e2, e1, p5, d1, x1, ms]
  · simp_arith [h1, ht, p4, mid]
end K78
-- main
open PySem.W PySem PySem.Calls PyProof.Rows
set_option maxHeartbeats 0 in
theorem PySem.Challenge.cw_schemebound_k78_balls_holds : PySem.Challenge.rw_schemebound_k78_balls.Holds := by
  w_on; o_law
  x_head; (case hw => w_witness2)
  refine Pf.walk_top (l := PySem.Challenge.rw_schemebound_k78_balls) (n := 63) rfl (by decide) rfl ?F Pf.cx_end
  case F =>
    intro w mg fa h Y G hmg
    have KX := PySem.W.kIn_of Y
    exact ⟨_, Pf.flt_in KX (by kernel_rfl), K78.law_at K78.main' (Pf.flt_in KX (by kernel_rfl)) G hmg (Pf.saysX_lit KX (by kernel_rfl) (by kernel_rfl) (by kernel_rfl))⟩

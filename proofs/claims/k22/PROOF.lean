import PyProof.Rows.All
import HandS.ForMost
import HandS.Evl
import HandS.Wide
import HandS.Conv
import HandS.Flow
import HandS.IsInst
import HandS.Deep
import HandS.TupSets
import HandS.SetFor
import HandS.Steps
import HandS.Dict
import HandS.TupAny
import HandS.SortInts
import HandS.Style
import HandS.Zip
import HandS.DictComp
import HandS.DictTup
import HandS.SetKeys
import HandS.Walk
import KE.GoesEnum
import KE.KDictZip
import HandS.ListItems
import HandS.TupMul
import HandS.ForExc
import HandS.ExcInit
import HandS.ExcField
import HandS.ExcIs
import KE.KExcSuper
import KE.KIsAll
import KE.KExcIs
import HandS.HeadHook3
import HandS.ReplaceLit
import HandS.Text
import PyProof.Rows.StrRev
import PyProof.Rows.StrSplitJoin
import PySem.Challenge.RW_meshmend_k22_what_is_spread_evenly
set_option Elab.async false
set_option linter.all false
set_option maxRecDepth 100000
set_option maxHeartbeats 2000000
namespace Mm
open PySem PySem.Spec PyProof.Rows L2 Evl

/-! ### a def that wants to know that no repr is under way -/
structure FnG (P : Program) (w : World) (K : PySem.W.Frag) (mg : Str → Option Value) (base : Heap)
    (k : Nat) (f : Addr) (fd : FuncData) (ps : List Str) (sp : Sp) : Prop where
  arity : ∀ vs H Q E, sp vs H Q E → vs.length = ps.length
  goes : ∀ (A : Around) (outer : List Env) (s : Shared) (H : Hp) (args : Args) (us : List Value) (vs : List V) (Q : VK) (E : XK),
    Room k A → A.guards = some [] → Env0 P w K mg base A outer s H → BindsTo s fd args (ps.zip us) → Vals vs us → sp vs H Q E →
      codeAny (model P w) A (.call (.ref f) args) (CR CX0 outer P w H s Q E) s

theorem guards_deeper {A : Around} {e : Env} (h : A.guards = some []) : (A.deeper e).guards = some [] := h

section
variable {P : Program} {w : World} {K : PySem.W.Frag} {mg : Str → Option Value} {base : Heap}
theorem Fun_okG {x qual : Str} {st : Stmt} {f : Addr} {fd : FuncData} {N ps : List Str} {k : Nat} {sp : Sp}
    (F : Fun K x qual st f fd) (S : FnScope N ps (defScope st)) (ar : ∀ vs H Q E, sp vs H Q E → vs.length = ps.length)
    (B : ∀ (cd : Value) (A : Around) (outer : List Env) (s : Shared) (H : Hp) (vs : List V) (Q : VK) (E : XK),
      Room k (A.deeper (envOfC qual (defScope st) s.heap.objs.size f cd)) → A.guards = some [] → sp vs H Q E →
      ∃ t, PSs (cxOf CX0 P w K mg base N qual (defScope st) f cd A outer s H E).nox (defBody st) t ∧
        t { nx := fun _ G => Q .non G, rt := Q } (start N vs) H) : FnG P w K mg base (k + 1) f fd ps sp := by
  obtain ⟨oc, od, kV, doc, pm, an, cd, ct, osl, rfl, lk, hc⟩ := F.ex
  constructor
  · exact ar
  intro A outer s H args us vs Q E room gu e0 bi rv hs
  have frag : K.In s.heap := e0.mod.kin.keeps (fun b o z => (e0.bs b o z).1)
  have noLim : s.heap.NoLimit := e0.mod.nolimit.keeps (fun b o z => (e0.bs b o z).1)
  have kinds : ∀ y ∈ ps.zip us, (defScope st).names.lookup y.1 = some .local ∨
      ((defScope st).names.lookup y.1 = some .cell ∧ ((cellsFrom (s.heap.objs.size + 1) (defScope st).names []).lookup y.1).isSome = true) := by
    rintro ⟨n, v⟩ hy
    cases S.par n (List.of_mem_zip hy).1 with
    | inl q => exact Or.inl q
    | inr q => exact Or.inr ⟨q, PySem.W.cellsFrom_some _ _ _ (Or.inl q)⟩
  apply codeAny_call_function room.depth (frag _ _ lk) rfl S.co S.gen rfl (PySem.W.codeRec_of frag hc)
  apply bi
  apply wpAny_newFunctionEnv_cells S.kind kinds
  intro env he s1 x
  subst he
  refine ⟨noLim.keeps x.toInCall.keep, codeAny_func ?_⟩
  obtain ⟨t, ht, hq⟩ := B cd A outer s H vs Q E (room.deeper _) gu hs
  have I0 := inv_start (CX := CX0) (E := E) (cd := cd) S room.hd e0 (ar _ _ _ _ hs) rv x
  apply wpAny_mono (ht.nox.run [] s1 (start N vs) H _ I0 hq)
  · intro fl s' hf
    cases fl with
    | next =>
      obtain ⟨σ1, H1, J, q⟩ := hf
      exact ⟨V.non, H1, J.os, J.bare, J.base, J.hok, rfl, q⟩
    | ret u =>
      obtain ⟨v, σ1, H1, J, r, q⟩ := hf
      exact ⟨v, H1, J.os, J.bare, J.base, J.hok, r, q⟩
    | brk =>
      obtain ⟨_, _, _, q⟩ := hf
      exact q.elim
    | cont =>
      obtain ⟨_, _, _, q⟩ := hf
      exact q.elim
  · intro e s' h
    exact h
end

/-! ### from the head to such a promise -/
theorem enter_law {P : Program} {w : World} {K : PySem.W.Frag} {mg mb : Str → Option Value} {k : Nat} {fa a : Addr} {fd : FuncData} {x : Str} {sp : Sp}
    {s₁ : Shared} {vs : List Value} {ns : List Int}
    (frag : K.In s₁.heap) (glob : s₁.heap.Ns mainGlobals mg) (blt : s₁.heap.Ns builtinsNs mb) (bb : ∀ x : Str, x ≠ "__name__" → mb x = bootBuiltins x)
    (lim : s₁.heap.NoLimit) (gen : s₁.gens = #[])
    (here : s₁.heap.get? a = some { cls := .type "list", data := .seq vs.toArray }) (intz : IntsAre vs ns) (short : ns.length ≤ sizeLine) (room : Room k callerA)
    (sysm : ∃ mm, s₁.heap.Ns sysModules mm)
    (G : ∀ base : Heap, K.In base → base.Ns mainGlobals mg → (∃ mm, base.Ns sysModules mm) → FnG P w K mg base k fa fd [x] sp)
    (bi : ∀ (s : Shared) (u : Value), BindsTo s fd ⟨[u], []⟩ [(x, u)])
    (ask : ∀ H : Hp, Only H → SqL K H a (ns.map V.int) → sp [.ref a] H (fun v _ => v = .bl true) fun _ _ _ => False) :
    codeAny (model P w) callerA (.call (.ref fa) ⟨[.ref a], []⟩)
      (fun r s' => r = .ok (.ret (.bool true)) ∧ OldK s₁.heap s'.heap ∧ s'.os = s₁.os ∧ AllBare s'.gens) s₁ := by
  have vv := vals_ints intz
  have many := intz.length
  suffices main : ∀ H : Hp, Only H → SqL K H a (ns.map V.int) → HOk P w H s₁.heap → (∀ b, H b ≠ none → b = a) → (H a ≠ none → K.lookup a = none) →
      codeAny (model P w) callerA (.call (.ref fa) ⟨[.ref a], []⟩)
        (fun r s' => r = .ok (.ret (.bool true)) ∧ OldK s₁.heap s'.heap ∧ s'.os = s₁.os ∧ AllBare s'.gens) s₁ by
    by_cases hk : K.lookup a = none
    · let H0 : Hp := fun b => if b = a then some (.frz { cls := .type "list", data := .seq vs.toArray } (.lst (ns.map V.int))) else none
      have at_a : H0 a = some (.frz { cls := .type "list", data := .seq vs.toArray } (.lst (ns.map V.int))) := if_pos rfl
      have off_a : ∀ b, b ≠ a → H0 b = none := fun b z => if_neg z
      apply main H0
      · intro b
        by_cases z : b = a
        · subst z
          exact Or.inr ⟨_, _, at_a⟩
        · exact Or.inl (off_a b z)
      · exact Or.inl (Or.inr ⟨_, at_a⟩)
      · intro b u z
        by_cases y : b = a
        · subst y
          rw [at_a] at z
          cases z
          exact ⟨here, by rw [List.length_map]; exact short, vs, _, vv, here⟩
        · rw [off_a b y] at z
          cases z
      · intro b z
        by_cases y : b = a
        · exact y
        · exact absurd (off_a b y) z
      · intro _
        exact hk
    · obtain ⟨o, ho⟩ := Option.ne_none_iff_exists'.mp hk
      have e := frag a o ho
      rw [here] at e
      cases e
      apply main (fun _ => none)
      · exact fun _ => Or.inl rfl
      · exact Or.inr ⟨_, vs.toArray, _, ho, rfl, rfl, rfl, by rw [List.size_toArray, many]; exact short, by simpa using vv⟩
      · intro b u z
        exact absurd (show (none : Option HO) = some u from z) (fun q => nomatch q)
      · exact fun _ z => absurd rfl z
      · exact fun z => absurd rfl z
  intro H only list ok lone free
  have none_of_dict : ∀ {b : Addr} {o : Obj} {es : Array DictEntry} {ep : Nat}, s₁.heap.get? b = some o → o.data = .dict es ep → H b = none := by
    intro b o es ep e d
    by_cases z : H b = none
    · exact z
    · have y := lone b z
      subst y
      rw [here] at e
      cases e
      exact absurd (show Data.seq vs.toArray _ = Data.dict es ep from d) (fun q => nomatch q)
  have nsOf : ∀ {b : Addr} {m : Str → Option Value}, s₁.heap.Ns b m → (hidT s₁.heap H).Ns b m := by
    rintro b m ⟨o, es, ep, e, d, r⟩
    exact ⟨o, es, ep, hidT_get e (none_of_dict e d), d, r⟩
  have fragB : K.In (hidT s₁.heap H) := by
    intro b o e
    refine hidT_get (frag b o e) ?_
    by_cases z : H b = none
    · exact z
    · have y := lone b z
      subst y
      rw [free z] at e
      cases e
  obtain ⟨mc, l1, l2⟩ := lim
  have md : Mod K mg (hidT s₁.heap H) := ⟨fragB, nsOf glob, ⟨mb, nsOf blt, bb⟩, ⟨mc, nsOf l1, l2⟩⟩
  have e0 : Env0 P w K mg (hidT s₁.heap H) callerA [] s₁ H :=
    { frames := rfl, mod := md, bs := fun b o e => of_hidT e, bsz := Nat.le_of_eq (hidT_size _ _), funs := trivial,
      frf := fun b hb => absurd (show b ∈ ([] : List Addr) from hb) (by simp), hok := ok, bare := .of_eq gen }
  obtain ⟨mm, hmm⟩ := sysm
  have run := (G _ fragB (nsOf glob) ⟨mm, nsOf hmm⟩).goes callerA [] s₁ H ⟨[.ref a], []⟩ [.ref a] [.ref a] _ _ room rfl e0 (bi s₁ (.ref a)) (.cons rfl .nil) (ask H only list)
  apply codeAny_mono run
  intro r s' h
  match r, h with
  | .error e, h => exact (show False from h).elim
  | .ok .next, h => exact (show False from h).elim
  | .ok .brk, h => exact (show False from h).elim
  | .ok .cont, h => exact (show False from h).elim
  | .ok (.ret u), ⟨v, H', os, bare, un, ok', rel, q⟩ =>
    subst q
    cases rel
    refine ⟨rfl, OldK.of_keep ?_, os, bare⟩
    intro b o e
    match z : H b with
    | none => exact un.keep b o e z (fun y => absurd (show b ∈ ([] : List Addr) from y) (by simp)) (by simp)
    | some u =>
      match only b with
      | .inl y =>
        rw [y] at z
        cases z
      | .inr ⟨ob, xs, y⟩ =>
        have y2 := un.frzs b ob _ y
        have g1 := (ok b _ y).1
        have g2 := (ok' b _ y2).1
        rw [e] at g1
        cases g1
        exact g2

theorem walkG {l : PySem.W.OpenLaw} {n k : Nat} {q : Program} {loose : List Str} {XP : (Str → Option Value) → Heap → Prop} {YP : World → Heap → Prop}
    {d : DefRec} {K : Params → PySem.W.Frag} {sp : PySem.W.Frag → Sp} {x : Str}
    (imp : PyProof.Rows.importsNone q = true) (most : l.most = some n) (small : n ≤ sizeLine) (nodef : d.params.defaults = []) (room : Room k callerA)
    (inK : ∀ (w : World) (h : Heap), YP w h → (K w.params).In h)
    (F : ∀ (w : World) (mg : Str → Option Value) (fa : Addr) (h : Heap), (K w.params).In h → h.Ns mainGlobals mg → mg d.name = some (.ref fa) →
      ∃ fd : FuncData, (∀ (s : Shared) (u : Value), BindsTo s fd ⟨[u], []⟩ [(x, u)]) ∧
        ∀ base : Heap, (K w.params).In base → base.Ns mainGlobals mg → (∃ mm, base.Ns sysModules mm) → FnG l.prog w (K w.params) mg base k fa fd [x] (sp (K w.params)))
    (ask : ∀ (K : PySem.W.Frag) (H : Hp) (a : Addr) (ns : List Int), ns.length ≤ n → Only H → SqL K H a (ns.map V.int) →
      sp K [.ref a] H (fun v _ => v = .bl true) fun _ _ _ => False) :
    PySem.W.WalkO q loose XP YP l.row.toRowW d [] (fun f vs => PySem.call f vs) := by
  apply Att.attach_call most nodef
  intro w s₀ s₁ mg mb fa o pm cd doc a vs ns G Y ho hd hcd hmg hobj hints hlen hg
  obtain ⟨fd, b1, b2⟩ := F w mg fa _ (inK w _ Y) G.T.g hmg
  exact enter_law (inK w _ Y) G.T.g G.T.b G.T.builtins G.T.nolimit hg hobj hints (Nat.le_trans hlen small) room
    (let ⟨mm, h1, _⟩ := (G.T.seer imp).mods; ⟨mm, h1⟩) b2 b1 (fun H h1 h2 => ask _ H a ns hlen h1 h2)
end Mm

namespace Mm
open PySem PySem.Spec PyProof.Rows L2 Evl

/-! ### rules joined -/
def orE (r r' : R2) : R2 := fun x y H Q => r x y H Q ∨ r' x y H Q
theorem OpR_or {X : Cx} {f : Value → Value → Sem Value} {r r' : R2} (h : OpR X f r) (h' : OpR X f r') : OpR X f (orE r r') := by
  intro pins s σ H x y v u Q I rx ry q
  cases q with
  | inl q => exact h pins s σ H x y v u Q I rx ry q
  | inr q => exact h' pins s σ H x y v u Q I rx ry q
def orI (a b : TI) : TI := fun σ H R => a σ H R ∨ b σ H R
theorem PI_or {X : Cx} {tg it : Expr} {a b : TI} (h : PI X tg it a) (h' : PI X tg it b) : PI X tg it (orI a b) := by
  constructor
  intro pins s σ H R I q
  cases q with
  | inl q => exact h.run pins s σ H R I q
  | inr q => exact h'.run pins s σ H R I q
def iSeq (K : PySem.W.Frag) (t : TE) : TI := orI (iList K t) (iTup K t)
theorem pi_seq {X : Cx} {tg l : Expr} {t : TE} (h : PE X l t) : PI X tg l (iSeq X.K t) := PI_or (pi_list h) (pi_tup h)
def rIxA (K : PySem.W.Frag) : R2 := fun x y H Q => rIxL K x y H Q ∨ rIxT K x y H Q
theorem ixA {X : Cx} : IxR X (rIxA X.K) := IxR.or ix_list ix_tup
section
variable {X : Cx}
def rEqA (K : PySem.W.Frag) : R2 := orE rEq (rEqD K)
def rNeA (K : PySem.W.Frag) : R2 := orE rNe (rNeD K)
theorem op_eqA (hu : X.A.units + 64 < cLine) : OpR X (compareOp .Eq) (rEqA X.K) := OpR_or op_eq (op_eqD hu)
theorem op_neA (hu : X.A.units + 64 < cLine) : OpR X (compareOp .NotEq) (rNeA X.K) := OpR_or op_ne (op_neD hu)
end

/-! ### data in the heap: what L2's tells, and dicts whose keys are ints and texts -/
def keyD : Key → PyData
  | .inl i => .int i
  | .inr x => .str x
mutual
inductive Da (K : PySem.W.Frag) (H : Hp) : V → PyData → Prop
  | non : Da K H .non .none
  | bl (b : Bool) : Da K H (.bl b) (.bool b)
  | int (i : Int) : Da K H (.int i) (.int i)
  | str (x : Str) : Da K H (.str x) (.str x)
  | lst {a : Addr} {xs : List V} {ds : List PyData} (h : SqL K H a xs) (r : DaAll K H xs ds) : Da K H (.ref a) (.list ds)
  | tup {a : Addr} {xs : List V} {ds : List PyData} (h : SqT K H a xs) (r : DaAll K H xs ds) : Da K H (.ref a) (.tuple ds)
  | dic {a : Addr} {kvs : List (Key × V)} {ds : List (PyData × PyData)} (h : H a = some (.dK kvs)) (r : DaKv K H kvs ds) : Da K H (.ref a) (.dict ds)
inductive DaAll (K : PySem.W.Frag) (H : Hp) : List V → List PyData → Prop
  | nil : DaAll K H [] []
  | cons {v : V} {vs : List V} {d : PyData} {ds : List PyData} (h : Da K H v d) (r : DaAll K H vs ds) : DaAll K H (v :: vs) (d :: ds)
inductive DaKv (K : PySem.W.Frag) (H : Hp) : List (Key × V) → List (PyData × PyData) → Prop
  | nil : DaKv K H [] []
  | cons {k : Key} {v : V} {vs : List (Key × V)} {d : PyData} {ds : List (PyData × PyData)} (h : Da K H v d) (r : DaKv K H vs ds) : DaKv K H ((k, v) :: vs) ((keyD k, d) :: ds)
end
section
variable {K : PySem.W.Frag} {H : Hp}
mutual
theorem da_dp : ∀ {d : PyData} {v : V}, PyData.canLay0 d = true → Da K H v d → L2.Dp K H v d
  | _, _, _, .non => .non
  | _, _, _, .bl b => .bl b
  | _, _, _, .int i => .int i
  | _, _, _, .str x => .str x
  | _, _, c, .lst h a => .lst h (das_dp (by simpa [PyData.canLay0] using c) a)
  | _, _, c, .tup h a => .tup h (das_dp (by simpa [PyData.canLay0] using c) a)
  | _, _, c, .dic _ _ => by simp [PyData.canLay0] at c
theorem das_dp : ∀ {ds : List PyData} {vs : List V}, PyData.canLayAll0 ds = true → DaAll K H vs ds → L2.DpAll K H vs ds
  | _, _, _, .nil => .nil
  | d :: ds, _, c, .cons h a => by
    have c' : d.canLay0 = true ∧ PyData.canLayAll0 ds = true := by simpa [PyData.canLayAll0] using c
    exact .cons (da_dp c'.1 h) (das_dp c'.2 a)
end
end
section
variable {X : Cx} {pins : List (Addr × Obj)} {σ : L2.St} {H : Hp} {s : Shared}
theorem seq_not_sys (sm : ∃ mm, X.base.Ns sysModules mm) (I : Inv X pins σ H s) {a : Addr} {o : Obj} {its : Array Value} {n : Nat} (h : s.heap.get? a = some o) (d : o.data = .seq its n) : sysModules ≠ a := by
  obtain ⟨mm, o', es, ep, e, d', _⟩ := sm
  intro z
  have e' := I.bk _ _ e
  rw [z, h] at e'
  cases e'
  rw [d] at d'
  cases d'
theorem key_read {h : Heap} {k : Key} {v : Value} (is : keyIs k v = true) : Reads h v (keyD k) [] := by
  rcases keyIs_shape is with ⟨i, t, z1, z2⟩ | ⟨x, t, z1, z2⟩
  · rw [z1, z2]
    exact Reads.int i t
  · rw [z1, z2]
    exact Reads.str x t
theorem keys_read {K : PySem.W.Frag} {H : Hp} {P : Program} {w : World} {h : Heap} : ∀ (es : List DictEntry) {vs : List (Key × Value)} {kvs : List (Key × V)} {ds : List (PyData × PyData)}, Pairs (mixKind P w) es vs → KV kvs vs → DaKv K H kvs ds →
    ReadsAll h (es.map (·.key)) (ds.map (·.1)) []
  | [], _, _, _, p, r, d => by
    cases p
    cases r
    cases d
    exact .nil
  | e :: es, _, _, _, p, r, d => by
    cases p with
    | cons is ve ps =>
      cases r with
      | cons r kr =>
        cases d with
        | cons dh dr =>
          have ih := keys_read (h := h) es ps kr dr
          have is' : keyIs _ e.key = true := is
          rw [← r.1] at is'
          exact ReadsAll.cons (key_read is') ih
mutual
theorem Da_reads (sm : ∃ mm, X.base.Ns sysModules mm) (I : Inv X pins σ H s) : ∀ {d : PyData} {v : V} (u : Value), Da X.K H v d → RelV v u → ∃ as, Reads s.heap u d as ∧ sysModules ∉ as
  | _, _, _, .non, r => by
    cases r
    exact ⟨_, Reads.none, by simp⟩
  | _, _, _, .bl b, r => by
    cases r
    exact ⟨_, Reads.bool b, by simp⟩
  | _, _, _, .int i, r => by
    obtain ⟨t, rfl⟩ := r
    exact ⟨_, Reads.int i t, by simp⟩
  | _, _, _, .str x, r => by
    obtain ⟨t, rfl⟩ := r
    exact ⟨_, Reads.str x t, by simp⟩
  | _, _, _, .lst hs ha, r => by
    cases r
    obtain ⟨its, rv, ⟨o, n, ho, hc, _, hd⟩, _⟩ := I.list hs
    obtain ⟨as, hr, hn⟩ := Das_reads sm I its ha rv
    exact ⟨_, Reads.list ho hc hd hr, by
      simp only [List.mem_cons, not_or]
      exact ⟨seq_not_sys sm I ho hd, hn⟩⟩
  | _, _, _, .tup hs ha, r => by
    cases r
    obtain ⟨its, rv, ⟨o, ho, hc, n, hd⟩, _⟩ := I.tuple hs
    obtain ⟨as, hr, hn⟩ := Das_reads sm I its ha rv
    exact ⟨_, Reads.tuple ho hc hd hr, hn⟩
  | _, _, _, .dic (a := a) hk hv, r => by
    cases r
    obtain ⟨_, ne, vs, kv, o, es, ep, ho, ex, hd, _, ps, _⟩ := (show ObjOk X.prog X.w H s.heap a (.dK _) from I.hok a _ hk)
    obtain ⟨bs, hr, hn⟩ := Dak_reads sm I ps kv hv
    exact ⟨_, Reads.dict ho ex.1 hd (keys_read _ ps kv hv) hr, by
      simp only [List.append_nil, List.cons_append, List.nil_append, List.mem_cons, not_or]
      exact ⟨fun z => by rw [← z] at ne; simp at ne, hn⟩⟩
theorem Das_reads (sm : ∃ mm, X.base.Ns sysModules mm) (I : Inv X pins σ H s) : ∀ {ds : List PyData} {vs : List V} (us : List Value), DaAll X.K H vs ds → Vals vs us → ∃ as, ReadsAll s.heap us ds as ∧ sysModules ∉ as
  | _, _, _, .nil, .nil => ⟨_, ReadsAll.nil, by simp⟩
  | _, _, _, .cons h a, .cons r rs => by
    obtain ⟨as, h1, n1⟩ := Da_reads sm I _ h r
    obtain ⟨bs, h2, n2⟩ := Das_reads sm I _ a rs
    exact ⟨_, ReadsAll.cons h1 h2, by simp only [List.mem_append, not_or]; exact ⟨n1, n2⟩⟩
theorem Dak_reads (sm : ∃ mm, X.base.Ns sysModules mm) (I : Inv X pins σ H s) : ∀ {es : List DictEntry} {vs : List (Key × Value)} {kvs : List (Key × V)} {ds : List (PyData × PyData)}, Pairs (mixKind X.prog X.w) es vs → KV kvs vs → DaKv X.K H kvs ds →
    ∃ bs, ReadsAll s.heap (es.map (·.val)) (ds.map (·.2)) bs ∧ sysModules ∉ bs
  | es, _, _, _, p, r, d => by
    cases p with
    | nil =>
      cases r
      cases d
      exact ⟨_, ReadsAll.nil, by simp⟩
    | cons is ve ps =>
      cases r with
      | cons r kr =>
        cases d with
        | cons h dr =>
          obtain ⟨as, h1, n1⟩ := Da_reads sm I _ h r.2
          obtain ⟨bs, h2, n2⟩ := Dak_reads sm I ps kr dr
          rw [← ve] at h1
          exact ⟨_, ReadsAll.cons h1 h2, by simp only [List.mem_append, not_or]; exact ⟨n1, n2⟩⟩
end
end

/-! ### data as a whole -/
/-- what repr may show and == may compare: nested at most n deep, w signs and bits at most -/
structure Tame (n w : Nat) (d : PyData) : Prop where
  sh : d.showable = true
  ly : d.canLay0 = true
  dp : d.depth ≤ n
  lf : PyData.leavesShort 60 d = true
  wt : d.weight ≤ w
structure TameL (n w : Nat) (ds : List PyData) : Prop where
  sh : PyData.showableAll ds = true
  ly : PyData.canLayAll0 ds = true
  dp : PyData.depthAll ds ≤ n
  lf : PyData.leavesShortAll 60 ds = true
  wt : PyData.weightAll ds ≤ w
theorem Tame.shaped {n w : Nat} {d : PyData} (h : Tame n w d) (hn : n ≤ 64) : SeqAt.shaped d = true := by
  unfold SeqAt.shaped
  rw [h.ly, Bool.true_and]
  exact decide_eq_true (Nat.le_trans h.dp hn)
theorem Tame.fits {n w : Nat} {d : PyData} (h : Tame n w d) (hw : w ≤ 200000) : d.shown.length ≤ sizeLine := by
  have a := PyData.shown_le 60 (by decide) d h.lf
  have b := h.wt
  rw [sizeLine_eq]
  omega
theorem tame_none {n w : Nat} : Tame n w .none := by
  refine ⟨?_, ?_, ?_, ?_, ?_⟩ <;> simp [PyData.showable, PyData.canLay0, PyData.depth, PyData.weight, PyData.leavesShort]
theorem tame_bool {n w : Nat} {b : Bool} : Tame n w (.bool b) := by
  refine ⟨?_, ?_, ?_, ?_, ?_⟩ <;> simp [PyData.showable, PyData.canLay0, PyData.depth, PyData.weight, PyData.leavesShort]
theorem leaf_int {i : Int} (h : i.natAbs < 10 ^ 50) : PyData.leavesShort 60 (.int i) = true := by
  have := int_text_length_le10 (a := i) (k := 50) (by decide) h
  have e : (PyData.shown (.int i)).length ≤ 60 := by
    show (Str.ofString (toString i)).length ≤ 60
    rw [PySem.ofString_length]
    omega
  simp only [PyData.leavesShort]
  exact decide_eq_true e
theorem tame_int {n w : Nat} {i : Int} (h : i.natAbs < 2 ^ 24) (hw : 24 ≤ w) : Tame n w (.int i) := by
  have l : i.natAbs.log2 < 24 ∨ i.natAbs = 0 := by
    by_cases z : i.natAbs = 0
    · exact Or.inr z
    · exact Or.inl ((Nat.log2_lt z).mpr h)
  refine ⟨?_, ?_, ?_, ?_, ?_⟩
  · simp only [PyData.showable]
    rcases l with l | l
    · exact decide_eq_true (by omega)
    · rw [l]
      decide
  · simp only [PyData.canLay0]
  · simp [PyData.depth]
  · exact leaf_int (Nat.lt_of_lt_of_le h (by decide))
  · simp only [PyData.weight]
    split
    · omega
    · rcases l with l | l
      · omega
      · rw [l]
        have : Nat.log2 0 = 0 := by decide
        omega
theorem tameL_nil {n w : Nat} : TameL n w [] := by
  refine ⟨?_, ?_, ?_, ?_, ?_⟩ <;> simp [PyData.showableAll, PyData.canLayAll0, PyData.depthAll, PyData.weightAll, PyData.leavesShortAll]
theorem tameL_cons {n a b : Nat} {d : PyData} {ds : List PyData} (h : Tame n a d) (r : TameL n b ds) : TameL n (a + 1 + b) (d :: ds) := by
  refine ⟨?_, ?_, ?_, ?_, ?_⟩
  · simp only [PyData.showableAll, h.sh, r.sh, Bool.and_self]
  · simp only [PyData.canLayAll0, h.ly, r.ly, Bool.and_self]
  · have := h.dp
    have := r.dp
    simp only [PyData.depthAll]
    omega
  · simp only [PyData.leavesShortAll, h.lf, r.lf, Bool.and_self]
  · have := h.wt
    have := r.wt
    simp only [PyData.weightAll]
    omega
theorem tameL_all {n a : Nat} : ∀ {ds : List PyData}, (∀ d ∈ ds, Tame n a d) → TameL n ((a + 1) * ds.length) ds
  | [], _ => tameL_nil
  | d :: ds, h => by
    have r := tameL_cons (h d List.mem_cons_self) (tameL_all fun e he => h e (List.mem_cons_of_mem _ he))
    refine ⟨r.sh, r.ly, r.dp, r.lf, Nat.le_trans r.wt ?_⟩
    rw [List.length_cons, Nat.mul_add, Nat.mul_one]
    omega
theorem TameL.mono {n a m b : Nat} {ds : List PyData} (h : TameL n a ds) (hn : n ≤ m) (hb : a ≤ b) : TameL m b ds :=
  ⟨h.sh, h.ly, Nat.le_trans h.dp hn, h.lf, Nat.le_trans h.wt hb⟩
theorem Tame.mono {n a m b : Nat} {d : PyData} (h : Tame n a d) (hn : n ≤ m) (hb : a ≤ b) : Tame m b d :=
  ⟨h.sh, h.ly, Nat.le_trans h.dp hn, h.lf, Nat.le_trans h.wt hb⟩
theorem tame_list {n w : Nat} {ds : List PyData} (h : TameL n w ds) : Tame (n + 1) w (.list ds) := by
  refine ⟨?_, ?_, ?_, ?_, ?_⟩
  · simp only [PyData.showable, h.sh]
  · simp only [PyData.canLay0, h.ly]
  · have := h.dp
    simp only [PyData.depth]
    omega
  · simp only [PyData.leavesShort, h.lf]
  · have := h.wt
    simp only [PyData.weight]
    omega
theorem tame_tuple {n w : Nat} {ds : List PyData} (h : TameL n w ds) : Tame (n + 1) w (.tuple ds) := by
  refine ⟨?_, ?_, ?_, ?_, ?_⟩
  · simp only [PyData.showable, h.sh]
  · simp only [PyData.canLay0, h.ly]
  · have := h.dp
    simp only [PyData.depth]
    omega
  · simp only [PyData.leavesShort, h.lf]
  · have := h.wt
    simp only [PyData.weight]
    omega

/-! ### repr -/
/-- what repr may show -/
structure TameR (n w : Nat) (d : PyData) : Prop where
  sh : d.showable = true
  dp : d.depth ≤ n
  lf : PyData.leavesShort 60 d = true
  wt : d.weight ≤ w
theorem Tame.r {n w : Nat} {d : PyData} (h : Tame n w d) : TameR n w d := ⟨h.sh, h.dp, h.lf, h.wt⟩
theorem TameR.fits {n w : Nat} {d : PyData} (h : TameR n w d) (hw : w ≤ 200000) : d.shown.length ≤ sizeLine := by
  have a := PyData.shown_le 60 (by decide) d h.lf
  have b := h.wt
  rw [sizeLine_eq]
  omega
def rRepr (K : PySem.W.Frag) : List V → Hp → VK → Prop := fun xs H Q => ∃ x d, xs = [x] ∧ Da K H x d ∧ TameR 40 200000 d ∧ Q (.str d.shown) H
theorem call_repr {X : Cx} {k : Nat} (gu : X.A.guards = some []) (sm : ∃ mm, X.base.Ns sysModules mm) (hr : Room k X.A) : CallR X (.builtin "repr") (rRepr X.K) := by
  intro pins s σ H xs us Q I r h
  obtain ⟨x, d, rfl, hd, ht, q⟩ := h
  obtain ⟨u, rfl, rx⟩ := vals1 r
  obtain ⟨as, rd, ns⟩ := Da_reads sm I u hd rx
  have un := hr.units
  have dep := ht.dp
  have fit := ht.fits (Nat.le_refl _)
  have big : ∀ a : Addr, u = .ref a → wpAny (model X.prog X.w) X.A (call (.builtin "repr") [u]) (EP X pins σ Q) X.xe s := by
    intro a e
    subst e
    exact repr_of_reads' rd ht.sh (fun _ => ns) gu (by omega) (fun _ _ z => z)
      (fun h' t tk kp => ⟨.str d.shown, H, I.kept (t' := tk) kp, ⟨t, rfl⟩, q⟩) fit
  cases hd with
  | non =>
    cases rx
    exact PySem.P.repr_of_none ⟨.str _, H, I.tok _, ⟨_, rfl⟩, q⟩
  | bl b =>
    cases rx
    refine PySem.P.repr_of_bool ⟨.str _, H, I.tok _, ⟨_, rfl⟩, ?_⟩
    simpa only [PyData.shown] using q
  | int i =>
    obtain ⟨t, rfl⟩ := rx
    have z := ht.sh
    simp only [PyData.showable] at z
    exact PySem.P.repr_of_int (of_decide_eq_true z) ⟨.str _, H, I.tok _, ⟨_, rfl⟩, by simpa only [PyData.shown] using q⟩
  | str y =>
    obtain ⟨t, rfl⟩ := rx
    exact PySem.P.repr_of_str ⟨.str _, H, I.tok _, ⟨_, rfl⟩, by simpa only [PyData.shown] using q⟩ (by simpa only [PyData.shown] using fit)
  | lst _ _ =>
    cases rx
    exact big _ rfl
  | tup _ _ =>
    cases rx
    exact big _ rfl
  | dic _ _ =>
    cases rx
    exact big _ rfl
end Mm

namespace Mm
open PySem PySem.Spec PyProof.Rows L2 Evl

/-! ### the heap behind draws: all stays but what is told by its own heap -/
def Own : HO → Prop
  | .ext _ => True
  | _ => False
def Ey (H H' : Hp) : Prop := ∀ a o, H a = some o → ¬ Own o → H' a = some o
theorem Ey.refl (H : Hp) : Ey H H := fun _ _ h _ => h
theorem Ey.trans {H H1 H2 : Hp} (a : Ey H H1) (b : Ey H1 H2) : Ey H H2 := fun x o h n => b x o (a x o h n) n
theorem Ey.of {H H' : Hp} (e : Ex H H') : Ey H H' := fun a o h _ => e a o h
theorem ey_rd {H H' : Hp} {a : Addr} {u : HO} (e : Ey H H') (n : ¬ Own u) (h : Rd H a u) : Rd H' a u := by
  rcases h with h | ⟨o, h⟩
  · exact Or.inl (e a _ h n)
  · exact Or.inr ⟨o, e a _ h (fun z => z)⟩
theorem ey_l {K : PySem.W.Frag} {H H' : Hp} {a : Addr} {xs : List V} (e : Ey H H') (h : SqL K H a xs) : SqL K H' a xs := by
  rcases h with h | h
  · exact Or.inl (ey_rd e (fun z => z) h)
  · exact Or.inr h
theorem ey_t {K : PySem.W.Frag} {H H' : Hp} {a : Addr} {xs : List V} (e : Ey H H') (h : SqT K H a xs) : SqT K H' a xs := by
  rcases h with h | h
  · exact Or.inl (ey_rd e (fun z => z) h)
  · exact Or.inr h
theorem fresh_backY {H H' : Hp} {p : Addr} {o : HO} (e : Ey H H') (n : ¬ Own o) (h : H' p = none) : H p ≠ some o := fun z => by
  rw [e p o z n] at h
  cases h
section
variable {K : PySem.W.Frag} {H H' : Hp}
mutual
theorem dpy (e : Ey H H') : ∀ {d : PyData} {v : V}, Da K H v d → Da K H' v d
  | _, _, .non => .non
  | _, _, .bl b => .bl b
  | _, _, .int i => .int i
  | _, _, .str x => .str x
  | _, _, .lst h a => .lst (ey_l e h) (dpsy e a)
  | _, _, .tup h a => .tup (ey_t e h) (dpsy e a)
  | _, _, .dic h a => .dic (e _ _ h (fun z => z)) (dky e a)
theorem dpsy (e : Ey H H') : ∀ {ds : List PyData} {vs : List V}, DaAll K H vs ds → DaAll K H' vs ds
  | _, _, .nil => .nil
  | _, _, .cons h a => .cons (dpy e h) (dpsy e a)
theorem dky (e : Ey H H') : ∀ {ds : List (PyData × PyData)} {vs : List (Key × V)}, DaKv K H vs ds → DaKv K H' vs ds
  | _, _, .nil => .nil
  | _, _, .cons h a => .cons (dpy e h) (dky e a)
end
theorem dpm {d : PyData} {v : V} (e : Ex H H') (h : Da K H v d) : Da K H' v d := dpy (Ey.of e) h
theorem dpsm {ds : List PyData} {vs : List V} (e : Ex H H') (h : DaAll K H vs ds) : DaAll K H' vs ds := dpsy (Ey.of e) h
theorem dps_len : ∀ {ds : List PyData} {vs : List V}, DaAll K H vs ds → vs.length = ds.length
  | _, _, .nil => rfl
  | _, _, .cons _ a => congrArg (· + 1) (dps_len a)
theorem dps_get : ∀ {ds : List PyData} {vs : List V} {i : Nat} {d : PyData}, DaAll K H vs ds → ds[i]? = some d → ∃ v, vs[i]? = some v ∧ Da K H v d
  | _, _, _, _, .nil, e => by simp at e
  | _, _, 0, _, .cons h _, e => by
    simp at e
    subst e
    exact ⟨_, rfl, h⟩
  | _, _, i + 1, _, .cons _ a, e => by
    obtain ⟨v, e1, e2⟩ := dps_get (i := i) a (by simpa using e)
    exact ⟨v, by simpa using e1, e2⟩
theorem dps_got : ∀ {ds : List PyData} {vs : List V} {i : Nat} {v : V}, DaAll K H vs ds → vs[i]? = some v → ∃ d, ds[i]? = some d ∧ Da K H v d
  | _, _, _, _, .nil, e => by simp at e
  | _, _, 0, _, .cons h _, e => by
    simp at e
    subst e
    exact ⟨_, rfl, h⟩
  | _, _, i + 1, _, .cons _ a, e => by
    obtain ⟨v, e1, e2⟩ := dps_got (i := i) a (by simpa using e)
    exact ⟨v, by simpa using e1, e2⟩
theorem dps_app : ∀ {ds es : List PyData} {vs ws : List V}, DaAll K H vs ds → DaAll K H ws es → DaAll K H (vs ++ ws) (ds ++ es)
  | _, _, _, _, .nil, b => b
  | _, _, _, _, .cons h a, b => .cons h (dps_app a b)
theorem dps_ints : ∀ (ns : List Int), DaAll K H (ns.map V.int) (ns.map PyData.int)
  | [] => .nil
  | n :: ns => .cons (.int n) (dps_ints ns)
theorem dp_tupI {v : V} {ds : List PyData} (h : Da K H v (.tuple ds)) : ∃ a xs, v = .ref a ∧ SqT K H a xs ∧ DaAll K H xs ds := by
  cases h with
  | tup h a => exact ⟨_, _, rfl, h, a⟩
theorem dp_lstI {v : V} {ds : List PyData} (h : Da K H v (.list ds)) : ∃ a xs, v = .ref a ∧ SqL K H a xs ∧ DaAll K H xs ds := by
  cases h with
  | lst h a => exact ⟨_, _, rfl, h, a⟩
theorem dp_intI {v : V} {i : Int} (h : Da K H v (.int i)) : v = .int i := by
  cases h
  rfl
theorem dp_boolI {v : V} {i : Bool} (h : Da K H v (.bool i)) : v = .bl i := by
  cases h
  rfl
theorem dp_noneI {v : V} (h : Da K H v .none) : v = .non := by
  cases h
  rfl
theorem dp_strI {v : V} {x : Str} (h : Da K H v (.str x)) : v = .str x := by
  cases h
  rfl

/-! ### what an expression tells -/
def EvD (K : PySem.W.Frag) (te : TE) (σ : L2.St) (H : Hp) (d : PyData) : Prop := ∀ H1, Ex H H1 → ∀ Q : VK, (∀ v H2, Ex H1 H2 → Da K H2 v d → Q v H2) → te σ H1 Q
def EvDs (K : PySem.W.Frag) (ta : TA) (σ : L2.St) (H : Hp) (ds : List PyData) : Prop := ∀ H1, Ex H H1 → ∀ Q : List V → Hp → Prop, (∀ vs H2, Ex H1 H2 → DaAll K H2 vs ds → Q vs H2) → ta σ H1 Q
def OpD (K : PySem.W.Frag) (r : R2) (a b : PyData) (c : PyData) : Prop := ∀ H x y, Da K H x a → Da K H y b → ∀ Q : VK, (∀ v H2, Ex H H2 → Da K H2 v c → Q v H2) → r x y H Q
def CallD (K : PySem.W.Frag) (r : List V → Hp → VK → Prop) (ds : List PyData) (c : PyData) : Prop := ∀ H xs, DaAll K H xs ds → ∀ Q : VK, (∀ v H2, Ex H H2 → Da K H2 v c → Q v H2) → r xs H Q

variable {σ : L2.St} {ta tb tc te : TE} {tt tu : TT} {tr : TA} {a b c d : PyData} {ds : List PyData} {r r' : R2} {i j : Int} {n : Nat} {v : V} {p q : Bool}
theorem edm (e : Ex H H') (h : EvD K te σ H d) : EvD K te σ H' d := fun H1 x Q q => h H1 (e.trans x) Q q
theorem ed_var {k : Nat} (h : σ[k]? = some (some v)) (hd : Da K H v d) : EvD K (tVar k) σ H d := fun H1 e _ q => ⟨v, h, q v H1 (Ex.refl H1) (dpm e hd)⟩
theorem use_ed {Q : VK} (h : EvD K te σ H d) (n : ∀ v H1, Ex H H1 → Da K H1 v d → Q v H1) : te σ H Q := h H (Ex.refl H) Q n
theorem use_ds {Q : List V → Hp → Prop} (h : EvDs K tr σ H ds) (n : ∀ vs H1, Ex H H1 → DaAll K H1 vs ds → Q vs H1) : tr σ H Q := h H (Ex.refl H) Q n
theorem ed_int : EvD K (tC (.int i)) σ H (.int i) := fun H1 _ _ q => q _ H1 (Ex.refl H1) (.int i)
theorem ed_non : EvD K (tC .non) σ H .none := fun H1 _ _ q => q _ H1 (Ex.refl H1) .non
theorem ed_bl {x : Bool} : EvD K (tC (.bl x)) σ H (.bool x) := fun H1 _ _ q => q _ H1 (Ex.refl H1) (.bl x)
theorem ed_str {x : Str} : EvD K (tC (.str x)) σ H (.str x) := fun H1 _ _ q => q _ H1 (Ex.refl H1) (.str x)
theorem ed_op (ha : EvD K ta σ H a) (hb : EvD K tb σ H b) (hr : OpD K r a b c) : EvD K (tOp r ta tb) σ H c := fun H1 e Q q =>
  ha H1 e _ fun x H2 e2 dx => hb H2 (e.trans e2) _ fun y H3 e3 dy => hr H3 x y (dpm e3 dx) dy Q fun v H4 e4 dv => q v H4 ((e2.trans e3).trans e4) dv
theorem ed_neg (ha : EvD K ta σ H (.int i)) : EvD K (tUn (rU fun i => .int (-i)) ta) σ H (.int (-i)) := fun H1 e Q q =>
  ha H1 e _ fun x H2 e2 dx => ⟨i, dp_intI dx, q _ H2 e2 (.int _)⟩
theorem ed_is (h : EvD K te σ H a) (e : a = b) : EvD K te σ H b := e ▸ h
theorem ds_nil : EvDs K tNil σ H [] := fun H1 _ _ q => q [] H1 (Ex.refl H1) .nil
theorem ds_cons (h : EvD K te σ H a) (hr : EvDs K tr σ H ds) : EvDs K (tCons te tr) σ H (a :: ds) := fun H1 e Q q =>
  h H1 e _ fun x H2 e2 dx => hr H2 (e.trans e2) _ fun xs H3 e3 dxs => q (x :: xs) H3 (e2.trans e3) (.cons (dpm e3 dx) dxs)
theorem ed_tup (h : EvDs K tr σ H ds) (hl : ds.length ≤ 100000 := by simp) : EvD K (tTup tr) σ H (.tuple ds) := fun H1 e Q q =>
  h H1 e _ fun xs H2 e2 dxs => ⟨sz_of (by rw [dps_len dxs]; exact hl), fun p hp => q _ _ (e2.trans (Ex.new hp)) (.tup (SqT.of upd_same) (dpsm (Ex.new hp) dxs))⟩
theorem ed_lst (h : EvDs K tr σ H ds) (hl : ds.length ≤ 100000 := by simp) : EvD K (tLst tr) σ H (.list ds) := fun H1 e Q q =>
  h H1 e _ fun xs H2 e2 dxs => ⟨sz_of (by rw [dps_len dxs]; exact hl), fun p hp => q _ _ (e2.trans (Ex.new hp)) (.lst (SqL.of upd_same) (dpsm (Ex.new hp) dxs))⟩
theorem ed_cb {f : List V → Hp → VK → Prop} (h : EvDs K tr σ H ds) (hq : CallD K f ds c) : EvD K (tCB f tr) σ H c := fun H1 e Q k =>
  h H1 e _ fun xs H2 e2 dxs => hq H2 xs dxs Q fun v H3 e3 dv => k v H3 (e2.trans e3) dv

/-! ### tests -/
theorem eq_test (h : EvD K te σ H (.bool p)) : EvT (tTest te) σ H p := fun H1 e _ q => h H1 e _ fun v H2 e2 dv => ⟨p, dp_boolI dv, q H2 e2⟩
theorem eq_val (h : EvD K te σ H (.bool p)) : EvT (tB te) σ H p := fun H1 e _ q => h H1 e _ fun v H2 e2 dv => ⟨p, dp_boolI dv, q H2 e2⟩
/-- a truth -/
def truD : PyData → Bool
  | .bool b => b
  | .int i => i != 0
  | .list xs => !xs.isEmpty
  | .tuple xs => !xs.isEmpty
  | .dict xs => !xs.isEmpty
  | .str x => (x.length : Int) != 0
  | _ => false
theorem dps_empty : ∀ {ds : List PyData} {vs : List V}, DaAll K H vs ds → vs.isEmpty = ds.isEmpty
  | _, _, .nil => rfl
  | _, _, .cons _ _ => rfl
theorem dk_empty : ∀ {ds : List (PyData × PyData)} {vs : List (Key × V)}, DaKv K H vs ds → vs.isEmpty = ds.isEmpty
  | _, _, .nil => rfl
  | _, _, .cons _ _ => rfl
theorem eq_tru (h : EvD K te σ H d) (hs : ∀ x, d = .str x → x.length ≤ 100000) : EvT (fun σ H Q => te σ H fun x H' => ∃ k, TruV K x H' k ∧ Q k H') σ H (truD d) := fun H1 e _ q =>
  h H1 e _ fun v H2 e2 dv => ⟨truD d, by
    cases dv with
    | non => rfl
    | bl b => rfl
    | int i => rfl
    | str x => exact ⟨sz_of (hs x rfl), rfl⟩
    | lst hl ha => exact Or.inl ⟨_, hl, by rw [dps_empty ha]; rfl⟩
    | tup hl ha => exact Or.inr (Or.inl ⟨_, hl, by rw [dps_empty ha]; rfl⟩)
    | dic hl ha => exact Or.inr (Or.inr ⟨_, hl, by rw [dk_empty ha]; rfl⟩), q H2 e2⟩
theorem ed_if (h : EvT tt σ H p) (h1 : p = true → EvD K ta σ H d) (h2 : p = false → EvD K tb σ H d) : EvD K (tIf tt ta tb) σ H d := fun H1 e Q q => h H1 e _ fun H2 e2 => by
  cases p with
  | true =>
    show ta σ H2 Q
    exact h1 rfl H2 (e.trans e2) Q fun v H3 e3 dv => q v H3 (e2.trans e3) dv
  | false =>
    show tb σ H2 Q
    exact h2 rfl H2 (e.trans e2) Q fun v H3 e3 dv => q v H3 (e2.trans e3) dv
theorem ed_and (h1 : EvD K ta σ H (.bool p)) (h2 : p = true → EvD K tb σ H (.bool q)) : EvD K (tAndV ta tb) σ H (.bool (p && q)) := fun H1 e Q k => h1 H1 e _ fun v H2 e2 dv => ⟨p, dp_boolI dv, by
  cases p with
  | true =>
    show tb σ H2 Q
    exact h2 rfl H2 (e.trans e2) Q fun v H3 e3 dv => k v H3 (e2.trans e3) dv
  | false =>
    show Q (.bl false) H2
    exact k _ H2 e2 (.bl false)⟩
theorem ed_or (h1 : EvD K ta σ H (.bool p)) (h2 : p = false → EvD K tb σ H (.bool q)) : EvD K (tOrV ta tb) σ H (.bool (p || q)) := fun H1 e Q k => h1 H1 e _ fun v H2 e2 dv => ⟨p, dp_boolI dv, by
  cases p with
  | true =>
    show Q (.bl true) H2
    exact k _ H2 e2 (.bl true)
  | false =>
    show tb σ H2 Q
    exact h2 rfl H2 (e.trans e2) Q fun v H3 e3 dv => k v H3 (e2.trans e3) dv⟩
theorem ed_notV (h1 : EvD K ta σ H (.bool p)) : EvD K (tNotV ta) σ H (.bool (!p)) := fun H1 e Q k => h1 H1 e _ fun v H2 e2 dv => ⟨p, dp_boolI dv, k _ H2 e2 (.bl _)⟩
theorem ed_chain (ha : EvD K ta σ H a) (hb : EvD K tb σ H b) (hr : OpD K r a b (.bool p)) (hc : p = true → EvD K tc σ H c) (hr' : p = true → OpD K r' b c (.bool q)) : EvD K (tChain r r' ta tb tc) σ H (.bool (p && q)) := fun H1 e Q k =>
  ha H1 e _ fun x H2 e2 dx => hb H2 (e.trans e2) _ fun y H3 e3 dy => hr H3 x y (dpm e3 dx) dy _ fun v H4 e4 dv => ⟨p, dp_boolI dv, by
    cases p with
    | false =>
      rw [if_neg (by decide)]
      exact k _ H4 ((e2.trans e3).trans e4) (.bl false)
    | true =>
      rw [if_pos rfl]
      exact hc rfl H4 (((e.trans e2).trans e3).trans e4) _ fun z H5 e5 dz => hr' rfl H5 y z (dpm (e4.trans e5) dy) dz Q fun v H6 e6 dv => k v H6 ((((e2.trans e3).trans e4).trans e5).trans e6) dv⟩

/-! ### operations on data -/
theorem opD_I0 {g : Int → Int → Int} : OpD K (rI0 fun i j => .int (g i j)) (.int i) (.int j) (.int (g i j)) := fun H1 x y hx hy Q q => by
  cases hx
  cases hy
  exact ⟨i, j, rfl, rfl, q _ H1 (Ex.refl H1) (.int _)⟩
theorem opD_B0 {g : Int → Int → Bool} : OpD K (rI0 fun i j => .bl (g i j)) (.int i) (.int j) (.bool (g i j)) := fun H1 x y hx hy Q q => by
  cases hx
  cases hy
  exact ⟨i, j, rfl, rfl, q _ H1 (Ex.refl H1) (.bl _)⟩
theorem opD_I {C : Int → Int → Prop} {g : Int → Int → Int} (h : C i j) : OpD K (rI C fun i j => .int (g i j)) (.int i) (.int j) (.int (g i j)) := fun H1 x y hx hy Q q => by
  cases hx
  cases hy
  exact ⟨i, j, rfl, rfl, h, q _ H1 (Ex.refl H1) (.int _)⟩
theorem opD_l (h : OpD K r a b c) : OpD K (orE r r') a b c := fun H1 x y hx hy Q q => Or.inl (h H1 x y hx hy Q q)
theorem opD_r (h : OpD K r' a b c) : OpD K (orE r r') a b c := fun H1 x y hx hy Q q => Or.inr (h H1 x y hx hy Q q)
theorem opD_eq {n m u w : Nat} (ha : Tame n u a) (hb : Tame m w b) (hn : n ≤ 40) (hm : m ≤ 40) : OpD K (rEqA K) a b (.bool (PyData.eqv a b)) := fun H1 x y hx hy Q q =>
  Or.inr ⟨a, b, da_dp ha.ly hx, da_dp hb.ly hy, ha.shaped (by omega), hb.shaped (by omega), q _ H1 (Ex.refl H1) (.bl _)⟩
theorem opD_ne {n m u w : Nat} (ha : Tame n u a) (hb : Tame m w b) (hn : n ≤ 40) (hm : m ≤ 40) : OpD K (rNeA K) a b (.bool (!PyData.eqv a b)) := fun H1 x y hx hy Q q =>
  Or.inr ⟨a, b, da_dp ha.ly hx, da_dp hb.ly hy, ha.shaped (by omega), hb.shaped (by omega), q _ H1 (Ex.refl H1) (.bl _)⟩
theorem opD_eqI : OpD K (rEqA K) (.int i) (.int j) (.bool (decide (i = j))) := fun H1 x y hx hy Q q => by
  cases hx
  cases hy
  refine Or.inl ⟨rfl, ?_⟩
  have e : decide (V.int i = V.int j) = decide (i = j) := by
    by_cases h : i = j
    · rw [h, decide_eq_true rfl, decide_eq_true rfl]
    · rw [decide_eq_false h, decide_eq_false (fun z => h (V.int.inj z))]
  rw [e]
  exact q _ H1 (Ex.refl H1) (.bl _)
theorem opD_neI : OpD K (rNeA K) (.int i) (.int j) (.bool (!decide (i = j))) := fun H1 x y hx hy Q q => by
  cases hx
  cases hy
  refine Or.inl ⟨rfl, ?_⟩
  have e : decide (V.int i = V.int j) = decide (i = j) := by
    by_cases h : i = j
    · rw [h, decide_eq_true rfl, decide_eq_true rfl]
    · rw [decide_eq_false h, decide_eq_false (fun z => h (V.int.inj z))]
  rw [e]
  exact q _ H1 (Ex.refl H1) (.bl _)
theorem opD_neS {x y : Str} : OpD K (rNeA K) (.str x) (.str y) (.bool (!decide (x = y))) := fun H1 u w hx hy Q q => by
  cases hx
  cases hy
  refine Or.inl ⟨rfl, ?_⟩
  have e : decide (V.str x = V.str y) = decide (x = y) := by
    by_cases h : x = y
    · rw [h, decide_eq_true rfl, decide_eq_true rfl]
    · rw [decide_eq_false h, decide_eq_false (fun z => h (V.str.inj z))]
  rw [e]
  exact q _ H1 (Ex.refl H1) (.bl _)
theorem atI_dp {ds : List PyData} {xs : List V} (h : DaAll K H xs ds) (e : atI ds i = some d) : ∃ v, atI xs i = some v ∧ Da K H v d := by
  have l := dps_len h
  unfold atI at e ⊢
  rw [l]
  cases z : ixN ds.length i with
  | none =>
    rw [z] at e
    cases e
  | some k =>
    rw [z] at e
    obtain ⟨v, h1, h2⟩ := dps_get h (show ds[k]? = some d from e)
    exact ⟨v, h1, h2⟩
theorem opD_ixT (e : atI ds i = some d) : OpD K (rIxA K) (.tuple ds) (.int i) d := fun H1 x y hx hy Q q => by
  obtain ⟨a, xs, rfl, ht, ha⟩ := dp_tupI hx
  cases hy
  obtain ⟨v, e1, dv⟩ := atI_dp ha e
  exact Or.inr ⟨a, xs, i, v, rfl, rfl, ht, e1, q v H1 (Ex.refl H1) dv⟩
theorem opD_ixL (e : atI ds i = some d) : OpD K (rIxA K) (.list ds) (.int i) d := fun H1 x y hx hy Q q => by
  obtain ⟨a, xs, rfl, ht, ha⟩ := dp_lstI hx
  cases hy
  obtain ⟨v, e1, dv⟩ := atI_dp ha e
  exact Or.inl ⟨a, xs, i, v, rfl, rfl, ht, e1, q v H1 (Ex.refl H1) dv⟩

/-! ### built-in calls on data -/
def fLen (K : PySem.W.Frag) : List V → Hp → VK → Prop := fun xs H Q => ∃ p ys, xs = [.ref p] ∧ (SqL K H p ys ∨ SqT K H p ys) ∧ Q (.int ys.length) H
def fAbs : List V → Hp → VK → Prop := fun xs H Q => ∃ i, xs = [.int i] ∧ Q (.int (if i < 0 then -i else i)) H
def fMin : List V → Hp → VK → Prop := fun xs H Q => ∃ i j, xs = [.int i, .int j] ∧ Q (.int (if j < i then j else i)) H
def fMax : List V → Hp → VK → Prop := fun xs H Q => ∃ i j, xs = [.int i, .int j] ∧ Q (.int (if j > i then j else i)) H
def fInt : List V → Hp → VK → Prop := fun xs H Q => (∃ i, xs = [.int i] ∧ Q (.int i) H) ∨ ∃ k, xs = [.bl k] ∧ Q (.int (if k then 1 else 0)) H
def fTup (K : PySem.W.Frag) : List V → Hp → VK → Prop := fun xs H Q => ∃ p ys, xs = [.ref p] ∧ ((SqL K H p ys ∧ ∀ l, H l = none → Q (.ref l) (upd H l (.tup ys))) ∨ (SqT K H p ys ∧ Q (.ref p) H))
def fLst (K : PySem.W.Frag) : List V → Hp → VK → Prop := fun xs H Q => ∃ p ys, xs = [.ref p] ∧ (SqL K H p ys ∨ SqT K H p ys) ∧ ∀ l, H l = none → Q (.ref l) (upd H l (.lst ys))
def fDivmod : List V → Hp → VK → Prop := fun xs H Q => ∃ i j, xs = [.int i, .int j] ∧ CDiv i j ∧ ∀ p, H p = none → Q (.ref p) (upd H p (.tup [.int (i / j), .int (i % j)]))
section
variable {X : Cx}
theorem fr_len : CallR X (.builtin "len") (fLen X.K) := call_len_seq
theorem fr_abs : CallR X (.builtin "abs") fAbs := call_abs
theorem fr_min (h : X.calm = true) : CallR X (.builtin "min") fMin := call_min2 h
theorem fr_max (h : X.calm = true) : CallR X (.builtin "max") fMax := call_max2 h
theorem fr_int : CallR X (.type "int") fInt := call_int1
theorem fr_tup : CallR X (.type "tuple") (fTup X.K) := call_tuple_of
theorem fr_lst : CallR X (.type "list") (fLst X.K) := call_list_of
theorem fr_divmod : CallR X (.builtin "divmod") fDivmod := call_divmod
end
theorem cd_lenL : CallD K (fLen K) [.list ds] (.int ds.length) := fun H1 xs hx Q q => by
  cases hx with
  | cons h t =>
    cases t
    obtain ⟨a, ys, rfl, hl, ha⟩ := dp_lstI h
    exact ⟨a, ys, rfl, Or.inl hl, by rw [dps_len ha]; exact q _ H1 (Ex.refl H1) (.int _)⟩
theorem cd_lenT : CallD K (fLen K) [.tuple ds] (.int ds.length) := fun H1 xs hx Q q => by
  cases hx with
  | cons h t =>
    cases t
    obtain ⟨a, ys, rfl, hl, ha⟩ := dp_tupI h
    exact ⟨a, ys, rfl, Or.inr hl, by rw [dps_len ha]; exact q _ H1 (Ex.refl H1) (.int _)⟩
theorem cd_abs : CallD K fAbs [.int i] (.int (if i < 0 then -i else i)) := fun H1 xs hx Q q => by
  cases hx with
  | cons h t =>
    cases t
    cases h
    exact ⟨i, rfl, q _ H1 (Ex.refl H1) (.int _)⟩
theorem cd_int : CallD K fInt [.int i] (.int i) := fun H1 xs hx Q q => by
  cases hx with
  | cons h t =>
    cases t
    cases h
    exact Or.inl ⟨i, rfl, q _ H1 (Ex.refl H1) (.int _)⟩
theorem cd_min : CallD K fMin [.int i, .int j] (.int (if j < i then j else i)) := fun H1 xs hx Q q => by
  cases hx with
  | cons h t =>
    cases t with
    | cons h2 t =>
      cases t
      cases h
      cases h2
      exact ⟨i, j, rfl, q _ H1 (Ex.refl H1) (.int _)⟩
theorem cd_max : CallD K fMax [.int i, .int j] (.int (if j > i then j else i)) := fun H1 xs hx Q q => by
  cases hx with
  | cons h t =>
    cases t with
    | cons h2 t =>
      cases t
      cases h
      cases h2
      exact ⟨i, j, rfl, q _ H1 (Ex.refl H1) (.int _)⟩
theorem cd_divmod (h : CDiv i j) : CallD K fDivmod [.int i, .int j] (.tuple [.int (i / j), .int (i % j)]) := fun H1 xs hx Q q => by
  cases hx with
  | cons h1 t =>
    cases t with
    | cons h2 t =>
      cases t
      cases h1
      cases h2
      exact ⟨i, j, rfl, h, fun p hp => q _ _ (Ex.new hp) (.tup (SqT.of upd_same) (.cons (.int _) (.cons (.int _) .nil)))⟩
theorem cd_tupL : CallD K (fTup K) [.list ds] (.tuple ds) := fun H1 xs hx Q q => by
  cases hx with
  | cons h t =>
    cases t
    obtain ⟨a, ys, rfl, hl, ha⟩ := dp_lstI h
    exact ⟨a, ys, rfl, Or.inl ⟨hl, fun l hp => q _ _ (Ex.new hp) (.tup (SqT.of upd_same) (dpsm (Ex.new hp) ha))⟩⟩
theorem cd_tupT : CallD K (fTup K) [.tuple ds] (.tuple ds) := fun H1 xs hx Q q => by
  cases hx with
  | cons h t =>
    cases t
    obtain ⟨a, ys, rfl, hl, ha⟩ := dp_tupI h
    exact ⟨a, ys, rfl, Or.inr ⟨hl, q _ _ (Ex.refl H1) (.tup hl ha)⟩⟩
theorem cd_lstL : CallD K (fLst K) [.list ds] (.list ds) := fun H1 xs hx Q q => by
  cases hx with
  | cons h t =>
    cases t
    obtain ⟨a, ys, rfl, hl, ha⟩ := dp_lstI h
    exact ⟨a, ys, rfl, Or.inl hl, fun l hp => q _ _ (Ex.new hp) (.lst (SqL.of upd_same) (dpsm (Ex.new hp) ha))⟩
theorem cd_lstT : CallD K (fLst K) [.tuple ds] (.list ds) := fun H1 xs hx Q q => by
  cases hx with
  | cons h t =>
    cases t
    obtain ⟨a, ys, rfl, hl, ha⟩ := dp_tupI h
    exact ⟨a, ys, rfl, Or.inr hl, fun l hp => q _ _ (Ex.new hp) (.lst (SqL.of upd_same) (dpsm (Ex.new hp) ha))⟩
theorem cd_repr (h : Tame 40 200000 d) : CallD K (rRepr K) [d] (.str d.shown) := fun H1 xs hx Q q => by
  cases hx with
  | cons h1 t =>
    cases t
    exact ⟨_, d, rfl, h1, h.r, q _ H1 (Ex.refl H1) (.str _)⟩
theorem cd_reprX (h : TameR 40 200000 d) : CallD K (rRepr K) [d] (.str d.shown) := fun H1 xs hx Q q => by
  cases hx with
  | cons h1 t =>
    cases t
    exact ⟨_, d, rfl, h1, h, q _ H1 (Ex.refl H1) (.str _)⟩

/-! ### defs that tell data and change nothing -/
def SpD (K : PySem.W.Frag) (R : List PyData → PyData → Prop) : Sp := fun vs H Q _ => ∃ ds d, DaAll K H vs ds ∧ R ds d ∧ ∀ v H2, Ex H H2 → Da K H2 v d → Q v H2
theorem ed_call {R : List PyData → PyData → Prop} {E : XK} (h : EvDs K tr σ H ds) (hR : R ds d) : EvD K (tCall (SpD K R) [] E tr) σ H d := fun H1 e Q q =>
  h H1 e _ fun xs H2 e2 dxs => ⟨ds, d, by rw [List.append_nil]; exact dxs, hR, fun v H3 e3 dv => q v H3 (e2.trans e3) dv⟩
structure Cal (P : Program) (w : World) (K : PySem.W.Frag) (mg : Str → Option Value) (base : Heap) (k : Nat) (x : Str) (sp : Sp) : Prop where
  ex : ∃ (f : Addr) (fd : FuncData) (ps : List Str), FnOk P w K mg base CX0 k f fd ps sp ∧ mg x = some (.ref f) ∧ PySem.W.keepIn K (.ref f) = true ∧ Binds K fd ps []
theorem pe_c {X : Cx} {k l : Nat} {x : Str} {sp : Sp} {p pos : Pos} {e : Expr} {es : List Expr} {t : TA} (c : Cal X.prog X.w X.K X.mg X.base k x sp) (hr : Room l X.A) (hk : k ≤ l) (hg : Gl X x) (ha : PA X (e :: es) t)
    (hdb : (x == ("__debug__" : Str)) = false := by decide) (he : starEach (e :: es) X.env = (false, eval e X.env) :: starEach es X.env := by rfl) (hpl : (backTo pos (starEach es X.env)).any (·.1) = false := by rfl) :
    PE X (.Call (.Name x p) (e :: es) [] pos) (tCall sp [] E0 t) := by
  obtain ⟨f, fd, ps, F, hm, kp, b⟩ := c.ex
  exact pe_call F (hr.mono hk) hg hm kp b .nil pass0 ha hdb he hpl
/-- a def of the text, under its name -/
structure Def (K : PySem.W.Frag) (mg : Str → Option Value) (x : Str) (st : Stmt) : Prop where
  ex : ∃ (f : Addr) (fd : FuncData), Fun K x x st f fd ∧ mg x = some (.ref f)
theorem cal_of {P : Program} {w : World} {mg : Str → Option Value} {base : Heap} {k : Nat} {x : Str} {st : Stmt} {N ps : List Str} {sp : Sp} (D : Def K mg x st) (S : FnScope N ps (defScope st))
    (hb : ∀ (kV doc pm : Value) (an : Option Addr) (cdv ct : Value) (us : List Value), us.length = ps.length → bindArgs (PySem.W.fnOf x x (defArgs st) (defBody st) (defScope st) .none kV doc pm an cdv ct) ⟨us, []⟩ = pure (ps.zip us))
    (len : ∀ vs H Q E, sp vs H Q E → vs.length = ps.length)
    (hbody : ∀ (f : Addr) (cdv : Value) (A : Around) (outer : List Env) (s : Shared) (H : Hp) (vs : List V) (Q : VK) (E : XK), Room k (A.deeper (envOfC x (defScope st) s.heap.objs.size f cdv)) → sp vs H Q E →
      ∃ t, PSs (cxOf CX0 P w K mg base N x (defScope st) f cdv A outer s H E).nox (defBody st) t ∧ t { nx := fun _ H' => Q .non H', rt := Q } (start N vs) H) : Cal P w K mg base (k + 1) x sp := by
  obtain ⟨f, fd, F, hm⟩ := D.ex
  exact ⟨f, fd, ps, F.ok S len (fun cdv A outer s H vs Q E hr h => hbody f cdv A outer s H vs Q E hr h), hm, F.kp, F.binds hb⟩
end
end Mm

namespace Mm
open PySem PySem.Spec PyProof.Rows L2 Evl

/-! ### statements -/
section
variable {K : PySem.W.Frag} {H H' : Hp} {σ : L2.St} {ta tb tc te tl : TE} {tt tu : TT} {tr : TA} {a b c d : PyData} {ds : List PyData} {D : Ends} {u z : TS} {g : TG} {p q : Bool}
theorem sd_asg {k : Nat} (h : EvD K te σ H d) (n : ∀ v H1, Ex H H1 → Da K H1 v d → D.nx (σ.set k (some v)) H1) : tAsg te (gName k) D σ H :=
  h H (Ex.refl H) _ fun v H1 e dv => n v H1 e dv
theorem qd_asg {k : Nat} (h : EvD K te σ H d) (n : ∀ v H1, Ex H H1 → Da K H1 v d → z D (σ.set k (some v)) H1) : tSeq (tAsg te (gName k)) z D σ H :=
  sd_asg (D := { D with nx := z D }) h n
theorem sd_ret (h : EvD K te σ H d) (n : ∀ v H1, Ex H H1 → Da K H1 v d → D.rt v H1) : tRet te D σ H := h H (Ex.refl H) _ fun v H1 e dv => n v H1 e dv
theorem qd_un2 {i j : Nat} {N : Nat} (h : EvD K te σ H (.tuple [a, b])) (hN : N = 2) (n : ∀ x y H1, Ex H H1 → Da K H1 x a → Da K H1 y b → z D ((σ.set i (some x)).set j (some y)) H1) :
    tSeq (tAsg te (gTup K N (gCons (gName i) (gCons (gName j) gNil)))) z D σ H :=
  h H (Ex.refl H) _ fun v H1 e dv => by
    obtain ⟨t, xs, rfl, ht, hx⟩ := dp_tupI dv
    cases hx with
    | cons h1 hx =>
      cases hx with
      | cons h2 hx =>
        cases hx
        exact ⟨t, _, rfl, ht, hN.symm, _, _, rfl, _, _, rfl, rfl, n _ _ H1 e h1 h2⟩
theorem qd_par {i j : Nat} (h : EvDs K tr σ H [a, b]) (n : ∀ x y H1, Ex H H1 → Da K H1 x a → Da K H1 y b → z D ((σ.set i (some x)).set j (some y)) H1) : tSeq (tPar i j tr) z D σ H :=
  h H (Ex.refl H) _ fun vs H1 e dv => by
    cases dv with
    | cons h1 hx =>
      cases hx with
      | cons h2 hx =>
        cases hx
        exact ⟨_, _, rfl, n _ _ H1 e h1 h2⟩
/-- found.append(e), found.extend(e): found may be changed by whoever holds it -/
theorem sd_app {l : Addr} {xs : List V} (hl : H l = some (.lst xs)) (ha : EvD K ta σ H a) (hv : ∀ v H1, Ex H H1 → Da K H1 v a → v = .ref l) (h : EvD K te σ H d) (hz : xs.length < 100000)
    (n : ∀ v H1, Ex H H1 → Da K H1 v d → D.nx σ (upd H1 l (.lst (xs ++ [v])))) : tDrop (tBM K "list" rAppend ta (tCons te tNil)) D σ H := ha H (Ex.refl H) _ fun x H1 e1 dx => by
  have ex := hv x H1 e1 dx
  subst ex
  exact ⟨Or.inl ⟨rfl, xs, sq_of (e1 l _ hl)⟩, h H1 e1 _ fun v H2 e2 dv => ⟨l, xs, v, rfl, rfl, e2 l _ (e1 l _ hl), sz_lt hz, n v H2 (e1.trans e2) dv⟩⟩
theorem sd_appV {l : Addr} {xs : List V} {k : Nat} (hk : σ[k]? = some (some (.ref l))) (hl : H l = some (.lst xs)) (h : EvD K te σ H d) (hz : xs.length < 100000)
    (n : ∀ v H1, Ex H H1 → Da K H1 v d → D.nx σ (upd H1 l (.lst (xs ++ [v])))) : tDrop (tBM K "list" rAppend (tVar k) (tCons te tNil)) D σ H :=
  ⟨.ref l, hk, Or.inl ⟨rfl, xs, sq_of hl⟩, h H (Ex.refl H) _ fun v H2 e2 dv => ⟨l, xs, v, rfl, rfl, e2 l _ hl, sz_lt hz, n v H2 e2 dv⟩⟩
/-- the list that an expression makes -/
def EvN (K : PySem.W.Frag) (te : TE) (σ : L2.St) (H : Hp) (ds : List PyData) : Prop := ∀ H1, Ex H H1 → ∀ Q : VK, (∀ l xs H2, H1 l = none → Ex H1 H2 → H2 l = some (.lst xs) → DaAll K H2 xs ds → Q (.ref l) H2) → te σ H1 Q
theorem evn_d (h : EvN K te σ H ds) : EvD K te σ H (.list ds) := fun H1 e Q q => h H1 e Q fun l xs H2 _ e2 hl hx => q _ H2 e2 (.lst (SqL.of hl) hx)
theorem en_lst (h : EvDs K tr σ H ds) (hl : ds.length ≤ 100000 := by simp) : EvN K (tLst tr) σ H ds := fun H1 e Q q =>
  h H1 e _ fun xs H2 e2 dxs => ⟨sz_of (by rw [dps_len dxs]; exact hl), fun p hp => q p xs _ (fresh_back e2 hp) (e2.trans (Ex.new hp)) upd_same (dpsm (Ex.new hp) dxs)⟩
theorem sd_extV {l : Addr} {xs : List V} {k : Nat} (hk : σ[k]? = some (some (.ref l))) (hl : H l = some (.lst xs)) (h : EvN K te σ H ds) (hz : xs.length + ds.length ≤ 100000)
    (n : ∀ vs H1, Ex H H1 → DaAll K H1 vs ds → D.nx σ (upd H1 l (.lst (xs ++ vs)))) : tDrop (tBM K "list" rExtend (tVar k) (tCons te tNil)) D σ H :=
  ⟨.ref l, hk, Or.inl ⟨rfl, xs, sq_of hl⟩, h H (Ex.refl H) _ fun p vs H2 _ e2 hp dv => ⟨l, p, xs, vs, rfl, rfl, e2 l _ hl, hp, sz_of (by rw [dps_len dv]; exact hz), n vs H2 e2 dv⟩⟩

/-! ### loops -/
theorem sd_rng {j : Nat} {n : Int} {ta : TA} (h : EvDs K ta σ H [.int n]) (hn : -100000 ≤ n ∧ n ≤ 100000) (W : Nat → L2.St → Hp → Prop) (h0 : ∀ H1, Ex H H1 → W 0 σ H1)
    (hs : ∀ (i : Nat) σ' H', (i : Int) < n → W i σ' H' → u { D with nx := W (i + 1), ct := W (i + 1), bk := D.nx } (σ'.set j (some (.int (i : Int)))) H') (hd : ∀ σ' H', W n.toNat σ' H' → D.nx σ' H') : tFor (iRng1 ta) (gName j) u D σ H :=
  h H (Ex.refl H) _ fun vs H1 e dv => by
    cases dv with
    | cons h1 hx =>
      cases hx
      cases h1
      refine ⟨n, rfl, by omega, by omega, for_range (lo := 0) (n := n.toNat) W (h0 H1 e) (fun i σ' H' hi p => ?_) hd⟩
      have e0 : (0 : Int) + (i : Int) = (i : Int) := Int.zero_add _
      show u { D with nx := W (i + 1), ct := W (i + 1), bk := D.nx } (σ'.set j (some (.int ((0 : Int) + (i : Int))))) H'
      rw [e0]
      exact hs i σ' H' (by omega) p
theorem qd_rng {j : Nat} {n : Int} {ta : TA} (h : EvDs K ta σ H [.int n]) (hn : -100000 ≤ n ∧ n ≤ 100000) (W : Nat → L2.St → Hp → Prop) (h0 : ∀ H1, Ex H H1 → W 0 σ H1)
    (hs : ∀ (i : Nat) σ' H', (i : Int) < n → W i σ' H' → u { D with nx := W (i + 1), ct := W (i + 1), bk := z D } (σ'.set j (some (.int (i : Int)))) H') (hd : ∀ σ' H', W n.toNat σ' H' → z D σ' H') : tSeq (tFor (iRng1 ta) (gName j) u) z D σ H :=
  sd_rng (D := { D with nx := z D }) h hn W h0 hs hd
/-- the items of a list or a tuple -/
inductive Items : PyData → List PyData → Prop
  | lst (ds : List PyData) : Items (.list ds) ds
  | tup (ds : List PyData) : Items (.tuple ds) ds
theorem sd_seq (h : EvD K tl σ H d) (hi : Items d ds) (W : V → Nat → L2.St → Hp → Prop) (h0 : ∀ v H1, Ex H H1 → Da K H1 v d → W v 0 σ H1)
    (hl : ∀ v i σ' H', W v i σ' H' → Da K H' v d)
    (hs : ∀ v i e x σ' H', ds[i]? = some e → W v i σ' H' → Da K H' x e → g x σ' H' fun σ2 H2 => u { D with nx := W v (i + 1), ct := W v (i + 1), bk := D.nx } σ2 H2)
    (hd : ∀ v σ' H', W v ds.length σ' H' → D.nx σ' H') : tFor (iSeq K tl) g u D σ H := by
  cases hi with
  | lst =>
    refine Or.inl (h H (Ex.refl H) _ fun v H1 e dv => ?_)
    have dv0 := dv
    obtain ⟨a, xs, rfl, hx, hA⟩ := dp_lstI dv
    refine ⟨a, rfl, ⟨xs, hx⟩, fun i m σ' H' => m = ds.length - i ∧ i ≤ ds.length ∧ W (.ref a) i σ' H', ⟨ds.length, rfl, Nat.zero_le _, h0 _ H1 e dv0⟩, fun i m σ' H' hw => ?_⟩
    obtain ⟨rfl, le, w⟩ := hw
    obtain ⟨a', xs', e1, hx', hA'⟩ := dp_lstI (hl _ i σ' H' w)
    cases e1
    have len := dps_len hA'
    by_cases lt : i < ds.length
    · have lt' : i < xs'.length := by omega
      refine Or.inr ⟨⟨xs', xs'[i], hx', List.getElem?_eq_getElem lt'⟩, fun σ2 H2 => W (.ref a) (i + 1) σ2 H2, fun σ2 H2 w2 => ⟨ds.length - (i + 1), by omega, rfl, lt, w2⟩, fun x H2 y => ?_⟩
      obtain ⟨rfl, y⟩ := y
      obtain ⟨dd, e2, dx⟩ := dps_got hA' (y xs' hx')
      exact hs _ i dd x σ' _ e2 w dx
    · have : i = ds.length := by omega
      subst this
      exact Or.inl ⟨⟨xs', hx', by omega⟩, hd _ σ' H' w⟩
  | tup =>
    refine Or.inr (h H (Ex.refl H) _ fun v H1 e dv => ?_)
    have dv0 := dv
    obtain ⟨a, xs, rfl, hx, hA⟩ := dp_tupI dv
    refine ⟨a, rfl, ⟨xs, hx⟩, fun i m σ' H' => m = ds.length - i ∧ i ≤ ds.length ∧ W (.ref a) i σ' H', ⟨ds.length, rfl, Nat.zero_le _, h0 _ H1 e dv0⟩, fun i m σ' H' hw => ?_⟩
    obtain ⟨rfl, le, w⟩ := hw
    obtain ⟨a', xs', e1, hx', hA'⟩ := dp_tupI (hl _ i σ' H' w)
    cases e1
    have len := dps_len hA'
    by_cases lt : i < ds.length
    · have lt' : i < xs'.length := by omega
      refine Or.inr ⟨⟨xs', xs'[i], hx', List.getElem?_eq_getElem lt'⟩, fun σ2 H2 => W (.ref a) (i + 1) σ2 H2, fun σ2 H2 w2 => ⟨ds.length - (i + 1), by omega, rfl, lt, w2⟩, fun x H2 y => ?_⟩
      obtain ⟨rfl, y⟩ := y
      obtain ⟨dd, e2, dx⟩ := dps_got hA' (y xs' hx')
      exact hs _ i dd x σ' _ e2 w dx
    · have : i = ds.length := by omega
      subst this
      exact Or.inl ⟨⟨xs', hx', by omega⟩, hd _ σ' H' w⟩
theorem qd_seq (h : EvD K tl σ H d) (hi : Items d ds) (W : V → Nat → L2.St → Hp → Prop) (h0 : ∀ v H1, Ex H H1 → Da K H1 v d → W v 0 σ H1)
    (hl : ∀ v i σ' H', W v i σ' H' → Da K H' v d)
    (hs : ∀ v i e x σ' H', ds[i]? = some e → W v i σ' H' → Da K H' x e → g x σ' H' fun σ2 H2 => u { D with nx := W v (i + 1), ct := W v (i + 1), bk := z D } σ2 H2)
    (hd : ∀ v σ' H', W v ds.length σ' H' → z D σ' H') : tSeq (tFor (iSeq K tl) g u) z D σ H :=
  sd_seq (D := { D with nx := z D }) h hi W h0 hl hs hd

/-! ### data without lists stands on tuples alone -/
end
mutual
def flat : PyData → Bool
  | .list _ => false
  | .dict _ => false
  | .tuple ds => flats ds
  | .none | .bool _ | .int _ | .str _ => true
def flats : List PyData → Bool
  | [] => true
  | d :: ds => flat d && flats ds
end
def Et (H H' : Hp) : Prop := ∀ a o, H a = some o → (∃ xs, o = .tup xs ∨ ∃ b, o = .frz b (.tup xs)) → H' a = some o
theorem Et.of {H H' : Hp} (e : Ey H H') : Et H H' := fun a o h k => e a o h (by
  rcases k with ⟨xs, rfl | ⟨b, rfl⟩⟩ <;> exact fun z => z)
theorem Et.ex {H H' : Hp} (e : Ex H H') : Et H H' := fun a o h _ => e a o h
theorem Et.refl (H : Hp) : Et H H := fun _ _ h _ => h
theorem Et.trans {H H1 H2 : Hp} (a : Et H H1) (b : Et H1 H2) : Et H H2 := fun x o h k => b x o (a x o h k) k
theorem Et.upd {H : Hp} {l : Addr} {xs : List V} {o : HO} (h : H l = some (.lst xs)) : Et H (upd H l o) := fun a u e k => by
  have n : a ≠ l := fun z => by
    subst z
    rw [h] at e
    cases e
    rcases k with ⟨_, z | ⟨_, z⟩⟩ <;> cases z
  rw [upd_ne n]
  exact e
theorem et_t {K : PySem.W.Frag} {H H' : Hp} {a : Addr} {xs : List V} (e : Et H H') (h : SqT K H a xs) : SqT K H' a xs := by
  rcases h with (h | ⟨o, h⟩) | h
  · exact Or.inl (Or.inl (e a _ h ⟨xs, Or.inl rfl⟩))
  · exact Or.inl (Or.inr ⟨o, e a _ h ⟨xs, Or.inr ⟨o, rfl⟩⟩⟩)
  · exact Or.inr h
section
variable {K : PySem.W.Frag} {H H' : Hp}
mutual
theorem dpt (e : Et H H') : ∀ {d : PyData} {v : V}, flat d = true → Da K H v d → Da K H' v d
  | _, _, _, .non => .non
  | _, _, _, .bl b => .bl b
  | _, _, _, .int i => .int i
  | _, _, _, .str x => .str x
  | _, _, f, .lst _ _ => by simp [flat] at f
  | _, _, f, .tup h a => .tup (et_t e h) (dpst e (by simpa [flat] using f) a)
theorem dpst (e : Et H H') : ∀ {ds : List PyData} {vs : List V}, flats ds = true → DaAll K H vs ds → DaAll K H' vs ds
  | _, _, _, .nil => .nil
  | x :: xs, _, f, .cons h a => by
    have f' : flat x = true ∧ flats xs = true := by simpa [flats] using f
    exact .cons (dpt e f'.1 h) (dpst e f'.2 a)
end
theorem flats_app : ∀ {a b : List PyData}, flats (a ++ b) = (flats a && flats b)
  | [], b => by simp [flats]
  | x :: a, b => by simp [flats, flats_app, Bool.and_assoc]
theorem flats_all : ∀ {ds : List PyData}, (∀ d ∈ ds, flat d = true) → flats ds = true
  | [], _ => by simp [flats]
  | d :: ds, h => by
    simp only [flats, h d List.mem_cons_self, flats_all (fun e he => h e (List.mem_cons_of_mem _ he)), Bool.and_self]
theorem flats_mem : ∀ {ds : List PyData} {d : PyData}, flats ds = true → d ∈ ds → flat d = true
  | e :: ds, d, f, h => by
    have f' : flat e = true ∧ flats ds = true := by simpa [flats] using f
    rcases List.mem_cons.mp h with z | z
    · rw [z]
      exact f'.1
    · exact flats_mem f'.2 z

/-! ### comprehensions -/
variable {σ : L2.St} {ta tb tc te tl : TE} {tt tu : TT} {tr : TA} {a b c d : PyData} {ds : List PyData} {D : Ends} {u z : TS} {g : TG} {p q : Bool}
/-- made so far -/
structure Got (K : PySem.W.Frag) (H1 : Hp) (Dl : Addr) (es : List PyData) (H : Hp) : Prop where
  nw : H1 Dl = none
  ex : Ex H1 H
  so : ∃ acc, H Dl = some (.lst acc) ∧ DaAll K H acc es
  fl : flats es = true
theorem got_new {H1 : Hp} {Dl : Addr} (h : H1 Dl = none) : Got K H1 Dl [] (upd H1 Dl (.lst [])) := ⟨h, Ex.new h, ⟨[], upd_same, .nil⟩, by simp [flats]⟩
theorem got_more {H1 H2 H3 : Hp} {Dl : Addr} {es : List PyData} {y : V} (h : Got K H1 Dl es H2) (e : Ex H2 H3) (hd : Da K H3 y d) (hf : flat d = true) (hz : es.length < 100000) :
    ∃ acc, H3 Dl = some (.lst acc) ∧ acc.length < sizeLine ∧ Got K H1 Dl (es ++ [d]) (upd H3 Dl (.lst (acc ++ [y]))) := by
  obtain ⟨h1, h2, ⟨acc, h3, h4⟩, h5⟩ := h
  have len := dps_len h4
  have h3' := e _ _ h3
  have t : Et H3 (upd H3 Dl (.lst (acc ++ [y]))) := Et.upd h3'
  refine ⟨acc, h3', sz_lt (by omega), h1, Ex.mut (h2.trans e) h1, ⟨acc ++ [y], upd_same, dps_app (dpst t h5 (dpsm e h4)) (.cons (dpt t hf hd) .nil)⟩, ?_⟩
  rw [flats_app, h5]
  simp [flats, hf]
/-- what one turn must do: its target, its test, its value -/
def TurnD (K : PySem.W.Frag) (g : TG) (tt : TT) (te : TE) (vs : List Nat) (σ : L2.St) (H : Hp) (e : PyData) (f : Bool) (d : PyData) : Prop :=
  ∀ x H1, Ex H H1 → Da K H1 x e → ∃ σ2, wipe σ2 vs = wipe σ vs ∧ (∀ Q : L2.St → Hp → Prop, Q σ2 H1 → g x (wipe σ vs) H1 Q) ∧ EvT tt σ2 H1 f ∧ (f = true → EvD K te σ2 H1 d)
theorem lc_turn {H0 H1 H2 : Hp} {Dl : Addr} {vs : List Nat} {es : List PyData} {x : V} {e : PyData} {f : Bool} {N : Hp → Prop} (ht : TurnD K g tt te vs σ H0 e f d) (e0 : Ex H0 H1) (hx : Da K H2 x e)
    (h : Got K H1 Dl es H2) (hf : f = true → flat d = true) (hz : es.length < 100000) (hN : ∀ H3, Got K H1 Dl (if f = true then es ++ [d] else es) H3 → N H3) :
    g x (wipe σ vs) H2 fun σ2 H2 => wipe σ2 vs = wipe σ vs ∧ tt σ2 H2 fun b H3 => if b = true then te σ2 H3 fun y H4 => ∃ acc, H4 Dl = some (.lst acc) ∧ acc.length < sizeLine ∧ N (upd H4 Dl (.lst (acc ++ [y]))) else N H3 := by
  obtain ⟨σ2, w, hg, h1, h2⟩ := ht x H2 (e0.trans h.ex) hx
  refine hg _ ⟨w, h1 H2 (Ex.refl H2) _ fun H3 e3 => ?_⟩
  cases f with
  | true =>
    rw [if_pos rfl]
    refine h2 rfl H3 e3 _ fun y H4 e4 dy => ?_
    obtain ⟨acc, a1, a2, a3⟩ := got_more h (e3.trans e4) dy (hf rfl) hz
    exact ⟨acc, a1, a2, hN _ (by rw [if_pos rfl]; exact a3)⟩
  | false =>
    rw [if_neg (by decide)]
    refine hN H3 ?_
    rw [if_neg (by decide)]
    obtain ⟨b1, b2, ⟨acc, b3, b4⟩, b5⟩ := h
    exact ⟨b1, b2.trans e3, ⟨acc, e3 _ _ b3, dpsm e3 b4⟩, b5⟩
theorem picked_take {ds : List PyData} {i : Nat} {e : PyData} (f : PyData → Bool) (m : PyData → PyData) (h : ds[i]? = some e) :
    ((ds.take (i + 1)).filter f).map m = if f e = true then ((ds.take i).filter f).map m ++ [m e] else ((ds.take i).filter f).map m := by
  rw [List.take_add_one, h]
  show ((ds.take i ++ [e]).filter f).map m = _
  rw [List.filter_append, List.map_append]
  cases k : f e with
  | true =>
    rw [if_pos rfl, List.filter_cons, if_pos k]
    rfl
  | false =>
    rw [if_neg (by decide), List.filter_cons, if_neg (by rw [k]; decide)]
    show _ ++ [] = _
    rw [List.append_nil]
/-- [te for g in tl if tt] -/
theorem en_lc {vs : List Nat} (f : PyData → Bool) (m : PyData → PyData) (h : EvD K tl σ H d) (hi : Items d ds) (hz : ds.length ≤ 50000)
    (ht : ∀ e ∈ ds, TurnD K g tt te vs σ H e (f e) (m e)) (hf : ∀ e ∈ ds, f e = true → flat (m e) = true) : EvN K (tLc (iSeq K tl) g tt te vs) σ H ((ds.filter f).map m) := fun H0 e0 Q q => by
  have fin : ∀ {H1 Hn : Hp} {Dl : Addr}, Ex H0 H1 → Got K H1 Dl (((ds.take ds.length).filter f).map m) Hn → Q (.ref Dl) Hn := fun {H1 Hn Dl} x k => by
    rw [List.take_length] at k
    obtain ⟨b1, b2, ⟨acc, b3, b4⟩, b5⟩ := k
    exact q Dl acc Hn (fresh_back x b1) (x.trans b2) b3 b4
  have lenle : ∀ i, (((ds.take i).filter f).map m).length < 100000 := fun i => by
    rw [List.length_map]
    have := List.length_filter_le f (ds.take i)
    have := List.length_take_le i ds
    have : (ds.take i).length ≤ ds.length := by
      rw [List.length_take]
      omega
    omega
  cases hi with
  | lst =>
    refine Or.inl (h H0 e0 _ fun v H1 e1 dv => ?_)
    obtain ⟨a, xs, rfl, hx, hA⟩ := dp_lstI dv
    refine ⟨a, rfl, ⟨xs, hx⟩, fun Dl hD => lc_list (xs := xs) (fun i H' => Got K H1 Dl (((ds.take i).filter f).map m) H') (got_new hD) (fun i H' _ k => ex_l k.ex hx) (fun i x H' hi k => ?_) (fun H' k => fin e1 (by rw [dps_len hA] at k; exact k))⟩
    obtain ⟨e, he, dx⟩ := dps_got hA hi
    have hm := List.mem_of_getElem? he
    refine lc_turn (ht e hm) (e0.trans e1) (dpm k.ex dx) k (hf e hm) (lenle i) fun H3 k3 => ?_
    rw [picked_take f m he]
    exact k3
  | tup =>
    refine Or.inr (h H0 e0 _ fun v H1 e1 dv => ?_)
    obtain ⟨a, xs, rfl, hx, hA⟩ := dp_tupI dv
    refine ⟨a, rfl, ⟨xs, hx⟩, fun Dl hD => lc_tup (xs := xs) (fun i H' => Got K H1 Dl (((ds.take i).filter f).map m) H') (got_new hD) (fun i H' _ k => ex_t k.ex hx) (fun i x H' hi k => ?_) (fun H' k => fin e1 (by rw [dps_len hA] at k; exact k))⟩
    obtain ⟨e, he, dx⟩ := dps_got hA hi
    have hm := List.mem_of_getElem? he
    refine lc_turn (ht e hm) (e0.trans e1) (dpm k.ex dx) k (hf e hm) (lenle i) fun H3 k3 => ?_
    rw [picked_take f m he]
    exact k3
/-- the ints 0 .. n - 1 as data -/
def upto (n : Nat) : List PyData := (List.range n).map fun i : Nat => .int (i : Int)
theorem upto_len (n : Nat) : (upto n).length = n := by
  unfold upto
  rw [List.length_map, List.length_range]
theorem upto_get {n i : Nat} (h : i < n) : (upto n)[i]? = some (.int (i : Int)) := by
  unfold upto
  rw [List.getElem?_map, List.getElem?_range h]
  rfl
theorem upto_mem {n : Nat} {d : PyData} (h : d ∈ upto n) : ∃ i : Nat, i < n ∧ d = .int (i : Int) := by
  unfold upto at h
  obtain ⟨i, hi, e⟩ := List.mem_map.mp h
  exact ⟨i, List.mem_range.mp hi, e.symm⟩
theorem en_lcR {vs : List Nat} {n : Int} {ta : TA} (f : PyData → Bool) (m : PyData → PyData) (h : EvDs K ta σ H [.int n]) (hn : -100000 ≤ n ∧ n ≤ 50000)
    (ht : ∀ i : Nat, (i : Int) < n → TurnD K g tt te vs σ H (.int (i : Int)) (f (.int (i : Int))) (m (.int (i : Int)))) (hf : ∀ i : Nat, (i : Int) < n → f (.int (i : Int)) = true → flat (m (.int (i : Int))) = true) :
    EvN K (tLc (iRng1 ta) g tt te vs) σ H (((upto n.toNat).filter f).map m) := fun H0 e0 Q q => h H0 e0 _ fun ws H1 e1 dv => by
  have lenle : ∀ i, ((((upto n.toNat).take i).filter f).map m).length < 100000 := fun i => by
    rw [List.length_map]
    have := List.length_filter_le f ((upto n.toNat).take i)
    have : ((upto n.toNat).take i).length ≤ n.toNat := by
      rw [List.length_take, upto_len]
      omega
    omega
  cases dv with
  | cons h1 hx =>
    cases hx
    cases h1
    refine ⟨n, rfl, by omega, by omega, fun Dl hD => lc_range (lo := 0) (n := n.toNat) (fun i H' => Got K H1 Dl ((((upto n.toNat).take i).filter f).map m) H') (got_new hD) (fun i H' hi k => ?_) (fun H' k => ?_)⟩
    · have e2 : (0 : Int) + (i : Int) = (i : Int) := Int.zero_add _
      show g (.int ((0 : Int) + (i : Int))) _ _ _
      rw [e2]
      refine lc_turn (ht i (by omega)) (e0.trans e1) (.int _) k (hf i (by omega)) (lenle i) fun H3 k3 => ?_
      rw [picked_take f m (upto_get hi)]
      exact k3
    · have e3 : (upto n.toNat).take n.toNat = upto n.toNat := List.take_of_length_le (by rw [upto_len]; exact Nat.le_refl _)
      rw [e3] at k
      obtain ⟨b1, b2, ⟨acc, b3, b4⟩, b5⟩ := k
      exact q Dl acc H' (fresh_back e1 b1) (e1.trans b2) b3 b4
theorem et_yes : EvT tYes σ H true := fun H1 _ _ q => q H1 (Ex.refl H1)
theorem turn_name {vs : List Nat} {j : Nat} {e : PyData} {f : Bool} (hw : ∀ x, wipe ((wipe σ vs).set j (some x)) vs = wipe σ vs) (ht : ∀ x H1, Ex H H1 → Da K H1 x e → EvT tt ((wipe σ vs).set j (some x)) H1 f)
    (he : ∀ x H1, Ex H H1 → Da K H1 x e → f = true → EvD K te ((wipe σ vs).set j (some x)) H1 d) : TurnD K (gName j) tt te vs σ H e f d :=
  fun x H1 e1 dx => ⟨(wipe σ vs).set j (some x), hw x, fun Q q => q, ht x H1 e1 dx, fun hf => he x H1 e1 dx hf⟩
theorem turn_pair {vs : List Nat} {i j : Nat} {N : Nat} {a b : PyData} {f : Bool} (hN : N = 2) (hw : ∀ x y, wipe (((wipe σ vs).set i (some x)).set j (some y)) vs = wipe σ vs)
    (ht : ∀ x y H1, Ex H H1 → Da K H1 x a → Da K H1 y b → EvT tt (((wipe σ vs).set i (some x)).set j (some y)) H1 f)
    (he : ∀ x y H1, Ex H H1 → Da K H1 x a → Da K H1 y b → f = true → EvD K te (((wipe σ vs).set i (some x)).set j (some y)) H1 d) : TurnD K (gTup K N (gCons (gName i) (gCons (gName j) gNil))) tt te vs σ H (.tuple [a, b]) f d :=
  fun x H1 e1 dx => by
    obtain ⟨t, xs, rfl, htt, hx⟩ := dp_tupI dx
    cases hx with
    | cons h1 hx =>
      cases hx with
      | cons h2 hx =>
        cases hx
        exact ⟨_, hw _ _, fun Q q => ⟨t, _, rfl, htt, hN.symm, _, _, rfl, _, _, rfl, rfl, q⟩, ht _ _ H1 e1 h1 h2, fun hf => he _ _ H1 e1 h1 h2 hf⟩
end
end Mm

namespace Mm
open PySem PySem.Spec PyProof.Rows L2 Evl

/-! ### the deck: told by its own object, so that drawing leaves all else as it was -/
def dkv (L : Addr) (i r n : Int) : List V := [.ref L, .int i, .int r, .int n]
def DkN (i r n : Int) (b : Nat) : Prop := 0 ≤ i ∧ i ≤ b ∧ 0 ≤ r ∧ 0 ≤ n ∧ n ≤ b
def DeckPhi (D L : Addr) (b : Nat) : Heap → Prop := fun h => ∃ (i r n : Int) (its : List Value) (c : Nat), DkN i r n b ∧ Vals (dkv L i r n) its ∧
  h.get? D = some { cls := .type "list", data := .seq its.toArray c }
structure Deck (H : Hp) (D L : Addr) (ns : List Int) (b : Nat) : Prop where
  dk : H D = some (.ext (DeckPhi D L b))
  ls : H L = some (.lst (ns.map V.int))
  sm : ns.length ≤ 63
theorem deck_ex {H H' : Hp} {D L : Addr} {ns : List Int} {b : Nat} (e : Ex H H') (h : Deck H D L ns b) : Deck H' D L ns b := ⟨e _ _ h.dk, e _ _ h.ls, h.sm⟩
section
variable {P : Program} {w : World} {H : Hp} {h : Heap} {D L : Addr} {b : Nat}
theorem phi_stable : ∀ h1 h2 : Heap, DeckPhi D L b h1 → (∀ o, h1.get? D = some o → h2.get? D = some o) → DeckPhi D L b h2 := by
  rintro h1 h2 ⟨i, r, n, its, c, k, v, e⟩ z
  exact ⟨i, r, n, its, c, k, v, z _ e⟩
theorem review {o o' : HO} (ok : HOk P w H h) (hD : H D = some o) (no : ∀ b, o ≠ .own b) (nt : ∀ xs, o ≠ .tup xs) (new : ObjOk P w (upd H D o') h D o') : HOk P w (upd H D o') h := by
  intro a u e
  by_cases z : a = D
  · subst z
    rw [upd_same] at e
    cases e
    exact new
  · rw [upd_ne z] at e
    refine (ok a u e).stay (fun _ _ _ q => q) (fun c q => ?_) (fun c xs q => ?_)
    · have y : c ≠ D := fun y => by
        subst y
        rw [hD] at q
        exact no _ (Option.some.inj q)
      rw [upd_ne y]
      exact q
    · have y : c ≠ D := fun y => by
        subst y
        rw [hD] at q
        exact nt _ (Option.some.inj q)
      rw [upd_ne y]
      exact q
theorem deck_open (ok : HOk P w H h) (hD : H D = some (.ext (DeckPhi D L b))) : ∃ i r n, DkN i r n b ∧ HOk P w (upd H D (.lst (dkv L i r n))) h := by
  obtain ⟨⟨i, r, n, its, c, k, v, e⟩, _, _⟩ := ok D _ hD
  refine ⟨i, r, n, k, review ok hD (fun _ z => nomatch z) (fun _ z => nomatch z) ⟨?_, its, c, v, e⟩⟩
  show 4 ≤ sizeLine
  decide
theorem deck_shut {i r n : Int} (ok : HOk P w H h) (hD : H D = some (.lst (dkv L i r n))) (k : DkN i r n b) : HOk P w (upd H D (.ext (DeckPhi D L b))) h := by
  obtain ⟨_, its, c, v, e⟩ := ok D _ hD
  exact review ok hD (fun _ z => nomatch z) (fun _ z => nomatch z) ⟨⟨i, r, n, its, c, k, v, e⟩, ⟨_, e⟩, phi_stable⟩
theorem un_view {fs ex : List Addr} {H1 H2 : Hp} {h h' : Heap} {o o' v v' : HO} (u : Un fs ex (upd H1 D o') (upd H2 D v) h h') (hD : H1 D = some o)
    (no : ∀ xs, o ≠ .tup xs) (nf : ∀ b q, o ≠ .frz b q) (nb : ∀ ps, o ≠ .tbl ps) : Un fs ex H1 (upd H2 D v') h h' := by
  have un : ∀ a, H1 a = none → upd H1 D o' a = none := fun a q => by
    rw [upd_ne (fun z => by rw [z, hD] at q; cases q)]
    exact q
  have dn : ∀ a, H1 a = none → a ≠ D := fun a q z => by
    rw [z, hD] at q
    cases q
  refine ⟨fun a ob q n => u.keep a ob q (un a n), fun a ob q n => u.slot a ob q (un a n), fun a ob q n x => ?_, u.there, fun a xs q => ?_, fun a ob k q => ?_, fun a ps q => ?_⟩
  · have := u.free a ob q (un a n) x
    rw [upd_ne (dn a n)] at this
    rw [upd_ne (dn a n)]
    exact this
  · have y : a ≠ D := fun y => by
      subst y
      rw [hD] at q
      exact no _ (Option.some.inj q)
    have := u.tups a xs (by rw [upd_ne y]; exact q)
    rw [upd_ne y] at this
    rw [upd_ne y]
    exact this
  · have y : a ≠ D := fun y => by
      subst y
      rw [hD] at q
      exact nf _ _ (Option.some.inj q)
    have := u.frzs a ob k (by rw [upd_ne y]; exact q)
    rw [upd_ne y] at this
    rw [upd_ne y]
    exact this
  · have y : a ≠ D := fun y => by
      subst y
      rw [hD] at q
      exact nb _ (Option.some.inj q)
    obtain ⟨m, this⟩ := u.tbls a ps (by rw [upd_ne y]; exact q)
    rw [upd_ne y] at this
    exact ⟨m, by rw [upd_ne y]; exact this⟩
end

/-! ### drawing -/
/-- at the plain list -/
def spDraw0 : Sp := fun vs H Q _ => ∃ (D L : Addr) (ns : List Int) (b : Nat) (many i r n : Int), vs = [.ref D, .int many] ∧ H D = some (.lst (dkv L i r n)) ∧ H L = some (.lst (ns.map V.int)) ∧ ns.length ≤ 63 ∧
  DkN i r n b ∧ (b : Int) < 1000000000 ∧ 1 ≤ many ∧ many ≤ 1000000000 ∧
  ∀ (v i' r' n' : Int) H', (∀ a o, a ≠ D → H a = some o → H' a = some o) → H' D = some (.lst (dkv L i' r' n')) → DkN i' r' n' (b + 1) → 0 ≤ v → v < many → Q (.int v) H'
def spDraw : Sp := fun vs H Q _ => ∃ (D L : Addr) (ns : List Int) (b : Nat) (many : Int), vs = [.ref D, .int many] ∧ Deck H D L ns b ∧ (b : Int) < 1000000000 ∧ 1 ≤ many ∧ many ≤ 1000000000 ∧
  ∀ (v : Int) H', Ey H H' → Deck H' D L ns (b + 1) → 0 ≤ v → v < many → Q (.int v) H'
theorem draw_up {P : Program} {w : World} {K : PySem.W.Frag} {mg : Str → Option Value} {base : Heap} {k : Nat} {f : Addr} {fd : FuncData} {ps : List Str} (hl : ps.length = 2)
    (F : FnOk P w K mg base CX0 k f fd ps spDraw0) : FnOk P w K mg base CX0 k f fd ps spDraw := by
  refine ⟨fun vs H Q E h => ?_, fun A outer s H args us vs Q E hr e0 bi rv h => ?_⟩
  · obtain ⟨D, L, ns, b, many, rfl, _⟩ := h
    exact hl.symm
  obtain ⟨D, L, ns, b, many, rfl, dk, hb, h1, h2, q⟩ := h
  have neL : L ≠ D := fun z => by
    have := dk.ls
    rw [z, dk.dk] at this
    cases this
  obtain ⟨i, r, n, kn, ok⟩ := deck_open e0.hok dk.dk
  have no : ∀ a, H a = none → a ≠ D := fun a z y => by
    rw [y, dk.dk] at z
    cases z
  have e1 : Env0 P w K mg base A outer s (upd H D (.lst (dkv L i r n))) :=
    ⟨e0.frames, e0.mod, fun a o z => ⟨(e0.bs a o z).1, by rw [upd_ne (no a (e0.bs a o z).2)]; exact (e0.bs a o z).2⟩, e0.bsz, e0.funs, fun a z => by rw [upd_ne (no a (e0.frf a z))]; exact e0.frf a z, ok, e0.bare⟩
  refine codeAny_mono (F.run A outer s _ args us _ (fun v H' => (∃ i' r' n', H' D = some (.lst (dkv L i' r' n')) ∧ DkN i' r' n' (b + 1)) ∧ Q v (upd H' D (.ext (DeckPhi D L (b + 1))))) E hr e1 bi rv
    ⟨D, L, ns, b, many, i, r, n, rfl, upd_same, by rw [upd_ne neL]; exact dk.ls, dk.sm, kn, hb, h1, h2, fun v i' r' n' H' st hD kn' v0 v1 => ⟨⟨i', r', n', hD, kn'⟩, q v _ ?_ ?_ v0 v1⟩⟩) fun rr s' hq => ?_
  · intro a o z y
    have ne : a ≠ D := fun x => by
      rw [x, dk.dk] at z
      cases z
      exact y True.intro
    rw [upd_ne ne]
    exact st a o ne (by rw [upd_ne ne]; exact z)
  · exact ⟨upd_same, by rw [upd_ne neL]; exact st L _ neL (by rw [upd_ne neL]; exact dk.ls), dk.sm⟩
  · cases rr with
    | error e => exact hq
    | ok fl =>
      cases fl with
      | next => exact hq
      | brk => exact hq
      | cont => exact hq
      | ret u =>
        obtain ⟨v, H', os, bare, un, ok', rel, ⟨i', r', n', hD, kn'⟩, q'⟩ := hq
        refine ⟨v, upd H' D (.ext (DeckPhi D L (b + 1))), os, bare, ?_, deck_shut ok' hD kn', rel, q'⟩
        have e : upd H' D (.lst (dkv L i' r' n')) = H' := by
          funext a
          by_cases z : a = D
          · subst z
            rw [upd_same, hD]
          · rw [upd_ne z]
        exact un_view (v := .lst (dkv L i' r' n')) (by rw [e]; exact un) dk.dk (fun _ z => nomatch z) (fun _ _ z => nomatch z) (fun _ z => nomatch z)
/-- the deck made -/
def spDeck0 (K : PySem.W.Frag) : Sp := fun vs H Q _ => ∃ (a : Addr) (ns : List Int), vs = [.ref a] ∧ SqL K H a (ns.map V.int) ∧ ns.length ≤ 63 ∧
  ∀ (D L : Addr) H', Ex H H' → H D = none → H' D = some (.lst (dkv L 0 0 0)) → H' L = some (.lst (ns.map V.int)) → L ≠ D → Q (.ref D) H'
def spDeck (K : PySem.W.Frag) : Sp := fun vs H Q _ => ∃ (a : Addr) (ns : List Int), vs = [.ref a] ∧ SqL K H a (ns.map V.int) ∧ ns.length ≤ 63 ∧
  ∀ (D L : Addr) H', Ex H H' → Deck H' D L ns 0 → Q (.ref D) H'
theorem deck_up {P : Program} {w : World} {K : PySem.W.Frag} {mg : Str → Option Value} {base : Heap} {k : Nat} {f : Addr} {fd : FuncData} {ps : List Str} (hl : ps.length = 1)
    (F : FnOk P w K mg base CX0 k f fd ps (spDeck0 K)) : FnOk P w K mg base CX0 k f fd ps (spDeck K) := by
  refine ⟨fun vs H Q E h => ?_, fun A outer s H args us vs Q E hr e0 bi rv h => ?_⟩
  · obtain ⟨a, ns, rfl, _⟩ := h
    exact hl.symm
  obtain ⟨a, ns, rfl, hs, sm, q⟩ := h
  refine codeAny_mono (F.run A outer s H args us _ (fun v H' => ∃ D L, v = .ref D ∧ H D = none ∧ H' D = some (.lst (dkv L 0 0 0)) ∧ Q v (upd H' D (.ext (DeckPhi D L 0)))) E hr e0 bi rv
    ⟨a, ns, rfl, hs, sm, fun D L H' e nD hD hL ne => ⟨D, L, rfl, nD, hD, q D L _ (fun b o z => ?_) ⟨upd_same, by rw [upd_ne ne]; exact hL, sm⟩⟩⟩) fun rr s' hq => ?_
  · rw [upd_ne (ne_of_none z nD)]
    exact e b o z
  · cases rr with
    | error e => exact hq
    | ok fl =>
      cases fl with
      | next => exact hq
      | brk => exact hq
      | cont => exact hq
      | ret u =>
        obtain ⟨v, H', os, bare, un, ok', rel, D, L, rfl, nD, hD, q'⟩ := hq
        refine ⟨.ref D, upd H' D (.ext (DeckPhi D L 0)), os, bare, ?_, deck_shut ok' hD ⟨by omega, by omega, by omega, by omega, by omega⟩, rel, q'⟩
        refine ⟨un.keep, un.slot, fun b o z n x => ?_, un.there, fun b xs z => ?_, fun b o k z => ?_, fun b pz z => ?_⟩
        · have y := un.free b o z n x
          have ne : b ≠ D := fun e => by
            rw [e, hD] at y
            cases y
          rw [upd_ne ne]
          exact y
        · rw [upd_ne (ne_of_none z nD)]
          exact un.tups b xs z
        · rw [upd_ne (ne_of_none z nD)]
          exact un.frzs b o k z
        · obtain ⟨m, y⟩ := un.tbls b pz z
          exact ⟨m, by rw [upd_ne (ne_of_none z nD)]; exact y⟩
end Mm

namespace Mm
open PySem PySem.Spec PyProof.Rows L2 Evl
section
variable {K : PySem.W.Frag} {H H' : Hp} {σ : L2.St} {ta tb tc te tl : TE} {tt tu : TT} {tr : TA} {a b c d : PyData} {ds : List PyData} {D : Ends} {u z : TS} {g : TG} {p q : Bool}
theorem qd_setL {l : Addr} {xs : List V} {k j : Nat} (hk : σ[k]? = some (some (.ref l))) (hl : H l = some (.lst xs)) (hj : j < xs.length) (h : EvD K te σ H d)
    (n : ∀ v H1, Ex H H1 → Da K H1 v d → z D σ (upd H1 l (.lst (xs.set j v)))) : tSeq (tAsg te (gSub (tVar k) (tC (.int (j : Int))) rSetL)) z D σ H :=
  h H (Ex.refl H) _ fun v H1 e dv => ⟨.ref l, hk, l, xs, (j : Int), j, rfl, rfl, e _ _ hl, ixN_nat hj, n v H1 e dv⟩
theorem cal_via {P : Program} {w : World} {mg : Str → Option Value} {base : Heap} {k : Nat} {x : Str} {st : Stmt} {N ps : List Str} {sp sp0 : Sp} (D : Def K mg x st) (S : FnScope N ps (defScope st))
    (up : ∀ {f : Addr} {fd : FuncData}, FnOk P w K mg base CX0 (k + 1) f fd ps sp0 → FnOk P w K mg base CX0 (k + 1) f fd ps sp)
    (hb : ∀ (kV doc pm : Value) (an : Option Addr) (cdv ct : Value) (us : List Value), us.length = ps.length → bindArgs (PySem.W.fnOf x x (defArgs st) (defBody st) (defScope st) .none kV doc pm an cdv ct) ⟨us, []⟩ = pure (ps.zip us))
    (len : ∀ vs H Q E, sp0 vs H Q E → vs.length = ps.length)
    (hbody : ∀ (f : Addr) (cdv : Value) (A : Around) (outer : List Env) (s : Shared) (H : Hp) (vs : List V) (Q : VK) (E : XK), Room k (A.deeper (envOfC x (defScope st) s.heap.objs.size f cdv)) → sp0 vs H Q E →
      ∃ t, PSs (cxOf CX0 P w K mg base N x (defScope st) f cdv A outer s H E).nox (defBody st) t ∧ t { nx := fun _ H' => Q .non H', rt := Q } (start N vs) H) : Cal P w K mg base (k + 1) x sp := by
  obtain ⟨f, fd, F, hm⟩ := D.ex
  exact ⟨f, fd, ps, up (F.ok S len (fun cdv A outer s H vs Q E hr h => hbody f cdv A outer s H vs Q E hr h)), hm, F.kp, F.binds hb⟩
/-- the built-ins are what they are -/
structure Bl (mg : Str → Option Value) : Prop where
  b_len : mg "len" = none
  b_abs : mg "abs" = none
  b_min : mg "min" = none
  b_max : mg "max" = none
  b_range : mg "range" = none
  b_list : mg "list" = none
  b_tuple : mg "tuple" = none
  b_int : mg "int" = none
  b_bool : mg "bool" = none
  b_repr : mg "repr" = none
  b_isinstance : mg "isinstance" = none
  b_dict : mg "dict" = none
  b_sorted : mg "sorted" = none
  b_set : mg "set" = none
  b_divmod : mg "divmod" = none
  b_sum : mg "sum" = none
  b_any : mg "any" = none
  b_all : mg "all" = none
  b_str : mg "str" = none
  b_enumerate : mg "enumerate" = none
  b_zip : mg "zip" = none
  b_ValueError : mg "ValueError" = none
  b_Exception : mg "Exception" = none
  b_super : mg "super" = none
  b_issubclass : mg "issubclass" = none
  b_type : mg "type" = none
/-- the deck as data -/
def dkd (ns : List Int) (i r n : Int) : PyData := .list [.list (ns.map .int), .int i, .int r, .int n]
theorem dk_dp {D L : Addr} {ns : List Int} {i r n : Int} (hD : H D = some (.lst (dkv L i r n))) (hL : H L = some (.lst (ns.map V.int))) : Da K H (.ref D) (dkd ns i r n) :=
  .lst (SqL.of hD) (.cons (.lst (SqL.of hL) (dps_ints ns)) (.cons (.int _) (.cons (.int _) (.cons (.int _) .nil))))
theorem dk_self {H : Hp} {D L : Addr} {ns : List Int} {i r n : Int} (e : L = D) (hD : H D = some (.lst (dkv L i r n))) (hL : H L = some (.lst (ns.map V.int))) : False := by
  rw [e, hD] at hL
  have z : dkv L i r n = ns.map V.int := HO.lst.inj (Option.some.inj hL)
  cases ns with
  | nil => cases z
  | cons x xs => cases z
theorem cut63 {xs : List V} (h : xs.length ≤ 63) : cutV xs none (some 63) = xs := by
  unfold cutV
  rw [HT.sIx_none, show HT.sIx xs.length xs.length (some 63) = min 63 xs.length from HT.sIx_nat _ _ 63]
  show (xs.drop 0).take (min 63 xs.length - 0) = xs
  rw [List.drop_zero, List.take_of_length_le]
  omega
/-- a list of ints compared with [] -/
theorem eqv_nil : ∀ (ns : List Int), PyData.eqv (.list (ns.map .int)) (.list []) = ns.isEmpty
  | [] => by simp [PyData.eqv, PyData.eqvAll]
  | n :: ns => by simp [PyData.eqv, PyData.eqvAll]
theorem shaped_ints (ns : List Int) : SeqAt.shaped (.list (ns.map .int)) = true := by
  have h : ∀ ns : List Int, PyData.canLayAll0 (ns.map .int) = true ∧ PyData.depthAll (ns.map .int) = 0 := by
    intro ns
    induction ns with
    | nil => simp [PyData.canLayAll0, PyData.depthAll]
    | cons n ns ih => simp [PyData.canLayAll0, PyData.depthAll, PyData.canLay0, PyData.depth, ih]
  obtain ⟨h1, h2⟩ := h ns
  simp [SeqAt.shaped, PyData.canLay0, PyData.depth, h1, h2]
theorem opD_neInts (ns : List Int) : OpD K (rNeA K) (.list (ns.map .int)) (.list []) (.bool (!ns.isEmpty)) := fun H1 x y hx hy Q q =>
  Or.inr ⟨_, _, da_dp (SeqAt.canLay_of_shaped (shaped_ints ns)) hx, da_dp (SeqAt.canLay_of_shaped (shaped_ints [])) hy, shaped_ints ns, shaped_ints [], by rw [show PyData.list (([] : List Int).map .int) = PyData.list [] from rfl, eqv_nil]; exact q _ H1 (Ex.refl H1) (.bl _)⟩
end
end Mm

namespace Mm
open PySem PySem.Spec PyProof.Rows L2 Evl

/-! ### a deck from which at most B were drawn -/
def Dk (H : Hp) (D L : Addr) (ns : List Int) (B : Nat) : Prop := ∃ b, b ≤ B ∧ Deck H D L ns b
theorem dk_ex {H H' : Hp} {D L : Addr} {ns : List Int} {B : Nat} (e : Ex H H') (h : Dk H D L ns B) : Dk H' D L ns B := by
  obtain ⟨b, hb, h⟩ := h
  exact ⟨b, hb, deck_ex e h⟩
theorem dk_le {H : Hp} {D L : Addr} {ns : List Int} {B C : Nat} (h : Dk H D L ns B) (le : B ≤ C) : Dk H D L ns C := by
  obtain ⟨b, hb, h⟩ := h
  exact ⟨b, Nat.le_trans hb le, h⟩
theorem dk_upd {H : Hp} {D L l : Addr} {ns : List Int} {B : Nat} {o : HO} {xs : List V} (h : Dk H D L ns B) (hl : H l = some (.lst xs)) (ne : l ≠ L) : Dk (upd H l o) D L ns B := by
  obtain ⟨b, hb, h⟩ := h
  have nd : D ≠ l := fun z => by
    have := h.dk
    rw [z, hl] at this
    cases this
  exact ⟨b, hb, by rw [upd_ne nd]; exact h.dk, by rw [upd_ne ne.symm]; exact h.ls, h.sm⟩
def spDr : Sp := fun vs H Q _ => ∃ (D L : Addr) (ns : List Int) (B : Nat) (many : Int), vs = [.ref D, .int many] ∧ Dk H D L ns B ∧ B < 1000000000 ∧ 1 ≤ many ∧ many ≤ 1000000000 ∧
  ∀ (v : Int) H', Ey H H' → Dk H' D L ns (B + 1) → 0 ≤ v → v < many → Q (.int v) H'
theorem cal_imp {P : Program} {w : World} {K : PySem.W.Frag} {mg : Str → Option Value} {base : Heap} {k : Nat} {x : Str} {sp sp' : Sp} (c : Cal P w K mg base k x sp) (h : ∀ vs H Q E, sp' vs H Q E → sp vs H Q E) : Cal P w K mg base k x sp' := by
  obtain ⟨f, fd, ps, F, r⟩ := c.ex
  exact ⟨f, fd, ps, F.imp h, r⟩
theorem dr_of {P : Program} {w : World} {K : PySem.W.Frag} {mg : Str → Option Value} {base : Heap} {k : Nat} {x : Str} (c : Cal P w K mg base k x spDraw) : Cal P w K mg base k x spDr := cal_imp c fun vs H Q E h => by
  obtain ⟨D, L, ns, B, many, rfl, ⟨b, hb, dk⟩, h1, h2, h3, q⟩ := h
  exact ⟨D, L, ns, b, many, rfl, dk, by omega, h2, h3, fun v H' e k' v0 v1 => q v H' e ⟨b + 1, by omega, k'⟩ v0 v1⟩
def spOne (K : PySem.W.Frag) : Sp := fun vs H Q _ => ∃ (D L : Addr) (ns : List Int) (B : Nat) (v : V) (d : PyData) (ds : List PyData), vs = [.ref D, v] ∧ Dk H D L ns B ∧ B < 1000000000 ∧ Da K H v d ∧ Items d ds ∧ 1 ≤ ds.length ∧ ds.length ≤ 100000 ∧
  ∀ x d H', Ey H H' → Dk H' D L ns (B + 1) → d ∈ ds → Da K H' x d → Q x H'
/-- a sheet -/
structure Sheet (a b : Int) : Prop where
  d1 : 1 ≤ a
  d8 : a ≤ 8
  w1 : 1 ≤ b
  w8 : b ≤ 8
def shd (a b : Int) : PyData := .tuple [.int a, .int b]
def spSheet (K : PySem.W.Frag) : Sp := fun vs H Q _ => ∃ (D L : Addr) (ns : List Int) (B : Nat) (m : Int), vs = [.ref D, .int m] ∧ Dk H D L ns B ∧ B < 900000000 ∧ 1 ≤ m ∧ m ≤ 8 ∧
  ∀ x a b H', Ey H H' → Dk H' D L ns (B + 3) → Sheet a b → a ≤ m → b ≤ m → Da K H' x (shd a b) → Q x H'

/-! ### what an expression tells, drawing -/
def EvY (te : TE) (σ : L2.St) (H : Hp) (P : V → Hp → Prop) : Prop := ∀ Q : VK, (∀ v H1, P v H1 → Q v H1) → te σ H Q
section
variable {K : PySem.W.Frag} {H H' : Hp} {σ : L2.St} {ta tb tc te tl : TE} {tt tu : TT} {tr : TA} {a b c d : PyData} {ds : List PyData} {D : Ends} {u z : TS} {g : TG} {p q : Bool}
theorem evy_of (h : EvD K te σ H d) : EvY te σ H (fun v H1 => Ex H H1 ∧ Da K H1 v d) := fun Q q => h H (Ex.refl H) Q fun v H1 e dv => q v H1 ⟨e, dv⟩
/-- a loop over the list at v from the heap H1 on -/
def LstLoop (K : PySem.W.Frag) (v : V) (H1 : Hp) (g : TG) (u : TS) (D : Ends) (σ : L2.St) : Prop :=
  ∃ a, v = .ref a ∧ (∃ xs, SqL K H1 a xs) ∧ ∃ W : Nat → Nat → L2.St → Hp → Prop, (∃ m, W 0 m σ H1) ∧ ∀ i m σ H, W i m σ H →
    ((Itl K a).stop i H ∧ D.nx σ H) ∨ ((Itl K a).go i H ∧ ∃ N : L2.St → Hp → Prop, (∀ σ' H', N σ' H' → ∃ m', m' < m ∧ W (i + 1) m' σ' H') ∧ ∀ x H', (Itl K a).yld i H x H' → g x σ H' fun σ2 H2 => u { D with nx := N, ct := N, bk := D.nx } σ2 H2)
theorem lst_loop {v : V} {H1 : Hp} (dv : Da K H1 v (.list ds)) (W : Nat → L2.St → Hp → Prop) (h0 : W 0 σ H1) (hl : ∀ i σ' H', W i σ' H' → Da K H' v (.list ds))
    (hs : ∀ i e x σ' H', ds[i]? = some e → W i σ' H' → Da K H' x e → g x σ' H' fun σ2 H2 => u { D with nx := W (i + 1), ct := W (i + 1), bk := D.nx } σ2 H2)
    (hd : ∀ σ' H', W ds.length σ' H' → D.nx σ' H') : LstLoop K v H1 g u D σ := by
  obtain ⟨a, xs, rfl, hx, hA⟩ := dp_lstI dv
  refine ⟨a, rfl, ⟨xs, hx⟩, fun i m σ' H' => m = ds.length - i ∧ i ≤ ds.length ∧ W i σ' H', ⟨ds.length, rfl, Nat.zero_le _, h0⟩, fun i m σ' H' hw => ?_⟩
  obtain ⟨rfl, le, w⟩ := hw
  obtain ⟨a', xs', e1, hx', hA'⟩ := dp_lstI (hl i σ' H' w)
  cases e1
  have len := dps_len hA'
  by_cases lt : i < ds.length
  · have lt' : i < xs'.length := by omega
    refine Or.inr ⟨⟨xs', xs'[i], hx', List.getElem?_eq_getElem lt'⟩, fun σ2 H2 => W (i + 1) σ2 H2, fun σ2 H2 w2 => ⟨ds.length - (i + 1), by omega, rfl, lt, w2⟩, fun x H2 y => ?_⟩
    obtain ⟨rfl, y⟩ := y
    obtain ⟨dd, e2, dx⟩ := dps_got hA' (y xs' hx')
    exact hs i dd x σ' _ e2 w dx
  · have : i = ds.length := by omega
    subst this
    exact Or.inl ⟨⟨xs', hx', by omega⟩, hd σ' H' w⟩
theorem sd_seqY {Pv : V → Hp → Prop} (h : EvY tl σ H Pv) (hp : ∀ v H1, Pv v H1 → LstLoop K v H1 g u D σ) : tFor (iSeq K tl) g u D σ H :=
  Or.inl (h _ fun v H1 pv => hp v H1 pv)
theorem qd_seqY {Pv : V → Hp → Prop} (h : EvY tl σ H Pv) (hp : ∀ v H1, Pv v H1 → LstLoop K v H1 g u { D with nx := z D } σ) : tSeq (tFor (iSeq K tl) g u) z D σ H :=
  sd_seqY (D := { D with nx := z D }) h hp
theorem sy_asg {k : Nat} {Pv : V → Hp → Prop} (h : EvY te σ H Pv) (n : ∀ v H1, Pv v H1 → D.nx (σ.set k (some v)) H1) : tAsg te (gName k) D σ H := h _ fun v H1 p => n v H1 p
theorem qy_asg {k : Nat} {Pv : V → Hp → Prop} (h : EvY te σ H Pv) (n : ∀ v H1, Pv v H1 → z D (σ.set k (some v)) H1) : tSeq (tAsg te (gName k)) z D σ H := sy_asg (D := { D with nx := z D }) h n
theorem ey_if {Pv : V → Hp → Prop} (h : EvT tt σ H p) (h1 : p = true → ∀ H1, Ex H H1 → EvY ta σ H1 Pv) (h2 : p = false → ∀ H1, Ex H H1 → EvY tb σ H1 Pv) : EvY (tIf tt ta tb) σ H Pv := fun Q q => h H (Ex.refl H) _ fun H1 e => by
  cases p with
  | true =>
    show ta σ H1 Q
    exact h1 rfl H1 e Q q
  | false =>
    show tb σ H1 Q
    exact h2 rfl H1 e Q q
/-- a call of a def that draws -/
theorem evy_call {sp : Sp} {E : XK} {Pv : V → Hp → Prop} (h : EvDs K tr σ H ds) (hs : ∀ vs H1, Ex H H1 → DaAll K H1 vs ds → ∀ Q : VK, (∀ v H2, Pv v H2 → Q v H2) → sp vs H1 Q E) : EvY (tCall sp [] E tr) σ H Pv := fun Q q =>
  h H (Ex.refl H) _ fun vs H1 e dv => by
    rw [List.append_nil]
    exact hs vs H1 e dv Q q
theorem ey_upd {H H2 : Hp} {l : Addr} {o : HO} (e : Ey H H2) (h : H l = none) : Ey H (upd H2 l o) := fun a u z n => by
  rw [upd_ne (ne_of_none z h)]
  exact e a u z n
/-- [te for _ in range(n)], each te drawing at most c times -/
theorem ey_lcN {vs : List Nat} {j : Nat} {n : Int} {ta : TA} {Dd L : Addr} {ns : List Int} {B c : Nat} (Pd : PyData → Prop) (h : EvDs K ta σ H [.int n]) (hn : -100000 ≤ n ∧ n ≤ 50000) (dk : Dk H Dd L ns B)
    (hw : ∀ x, wipe ((wipe σ vs).set j (some x)) vs = wipe σ vs)
    (ht : ∀ (i : Nat) H1, (i : Int) < n → Ey H H1 → Dk H1 Dd L ns (B + c * i) → EvY te ((wipe σ vs).set j (some (.int (i : Int)))) H1 (fun v H2 => Ey H1 H2 ∧ Dk H2 Dd L ns (B + c * i + c) ∧ ∃ d, Da K H2 v d ∧ flat d = true ∧ Pd d)) :
    EvY (tLc (iRng1 ta) (gName j) tYes te vs) σ H (fun v H2 => ∃ l xs ds, v = .ref l ∧ H l = none ∧ H2 l = some (.lst xs) ∧ DaAll K H2 xs ds ∧ Ey H H2 ∧ Dk H2 Dd L ns (B + c * n.toNat) ∧ ds.length = n.toNat ∧ ∀ d ∈ ds, flat d = true ∧ Pd d) := fun Q q => h H (Ex.refl H) _ fun ws H1 e1 dv => by
  cases dv with
  | cons h1 hx =>
    cases hx
    cases h1
    refine ⟨n, rfl, by omega, by omega, fun Dl hD => lc_range (lo := 0) (n := n.toNat) (fun i H' => ∃ acc ds, Ey H1 H' ∧ H1 Dl = none ∧ Dk H' Dd L ns (B + c * i) ∧ H' Dl = some (.lst acc) ∧ DaAll K H' acc ds ∧ flats ds = true ∧ ds.length = i ∧ ∀ d ∈ ds, flat d = true ∧ Pd d)
      ⟨[], [], Ey.of (Ex.new hD), hD, dk_ex (e1.trans (Ex.new hD)) (by rw [Nat.mul_zero]; exact dk), upd_same, .nil, by simp [flats], rfl, fun _ z => by cases z⟩ (fun i H' hi k => ?_) (fun H' k => ?_)⟩
    · obtain ⟨acc, ds, ey, nD, dk', hl, ha, fl, len, all⟩ := k
      have e2 : (0 : Int) + (i : Int) = (i : Int) := Int.zero_add _
      show gName j (.int ((0 : Int) + (i : Int))) _ _ _
      rw [e2]
      refine ⟨hw _, ?_⟩
      unfold tYes
      dsimp only
      rw [if_pos rfl]
      refine ht i H' (by omega) ((Ey.of e1).trans ey) dk' _ fun v H2 r => ?_
      obtain ⟨ey2, dk2, d, dd, fd, pd⟩ := r
      have hl2 := ey2 _ _ hl (fun z => z)
      have lenA := dps_len ha
      refine ⟨acc, hl2, sz_lt (by omega), acc ++ [v], ds ++ [d], ey_upd (ey.trans ey2) nD, nD, ?_, upd_same, ?_, ?_, by rw [List.length_append, len]; rfl, fun x hx => ?_⟩
      · have ne : Dl ≠ L := fun z => by
          obtain ⟨b0, _, dk0⟩ := dk_ex e1 dk
          have := dk0.ls
          rw [← z, nD] at this
          cases this
        rw [Nat.mul_succ, ← Nat.add_assoc]
        exact dk_upd dk2 hl2 ne
      · exact dpst (Et.upd hl2) (by rw [flats_app, fl]; simp [flats, fd]) (dps_app (dpsy ey2 ha) (.cons dd .nil))
      · rw [flats_app, fl]
        simp [flats, fd]
      · rcases List.mem_append.mp hx with z | z
        · exact all x z
        · rw [List.mem_singleton.mp z]
          exact ⟨fd, pd⟩
    · obtain ⟨acc, ds, ey, nD, dk', hl, ha, fl, len, all⟩ := k
      exact q _ H' ⟨Dl, acc, ds, rfl, fresh_back e1 nD, hl, ha, (Ey.of e1).trans ey, dk', len, all⟩
theorem ey_lcR {vs : List Nat} {j : Nat} {n : Int} {ta : TA} {Dd L : Addr} {ns : List Int} {B c : Nat} (Pd : PyData → Prop) (h : EvDs K ta σ H [.int n]) (hn : -100000 ≤ n ∧ n ≤ 50000) (dk : Dk H Dd L ns B)
    (hw : ∀ x, wipe ((wipe σ vs).set j (some x)) vs = wipe σ vs)
    (ht : ∀ (i : Nat) H1, (i : Int) < n → Ey H H1 → Dk H1 Dd L ns (B + c * i) → EvY te ((wipe σ vs).set j (some (.int (i : Int)))) H1 (fun v H2 => Ey H1 H2 ∧ Dk H2 Dd L ns (B + c * i + c) ∧ ∃ d, Da K H2 v d ∧ flat d = true ∧ Pd d)) :
    EvY (tLc (iRng1 ta) (gName j) tYes te vs) σ H (fun v H2 => ∃ ds, Ey H H2 ∧ Dk H2 Dd L ns (B + c * n.toNat) ∧ Da K H2 v (.list ds) ∧ ds.length = n.toNat ∧ ∀ d ∈ ds, flat d = true ∧ Pd d) := fun Q q =>
  ey_lcN Pd h hn dk hw ht Q fun v H2 r => by
    obtain ⟨l, xs, ds, rfl, nl, hl, ha, ey, dk', len, all⟩ := r
    exact q _ H2 ⟨ds, ey, dk', .lst (SqL.of hl) ha, len, all⟩
end
end Mm

namespace Mm
open PySem PySem.Spec PyProof.Rows L2 Evl
def intOf : PyData → Int
  | .int i => i
  | _ => 0
/-- the knots of the first n rows -/
def knotsTo (b : Int) : Nat → List PyData
  | 0 => []
  | n + 1 => knotsTo b n ++ ((upto (b + 1).toNat).filter (fun d => decide (((n : Int) + intOf d) % 2 = 0)) |>.map fun d => .tuple [.int (n : Int), d])
def knotsD (a b : Int) : List PyData := knotsTo b (a + 1).toNat
def RKnots : List PyData → PyData → Prop := fun ds d => ∃ a b, Sheet a b ∧ ds = [shd a b] ∧ d = .list (knotsD a b)
theorem knotsTo_len (b : Int) : ∀ i : Nat, i ≤ 100 → (knotsTo b i).length ≤ i * (b + 1).toNat
  | 0, _ => by simp [knotsTo]
  | i + 1, h => by
    have := knotsTo_len b i (by omega)
    have := List.length_filter_le (fun d => decide (((i : Int) + intOf d) % 2 = 0)) (upto (b + 1).toNat)
    rw [upto_len] at this
    rw [knotsTo, List.length_append, List.length_map, Nat.succ_mul]
    omega
theorem knotsTo_flat (b : Int) : ∀ i : Nat, flats (knotsTo b i) = true
  | 0 => by simp [knotsTo, flats]
  | i + 1 => by
    rw [knotsTo, flats_app, knotsTo_flat b i, Bool.true_and]
    refine flats_all fun d hd => ?_
    obtain ⟨e, he, rfl⟩ := List.mem_map.mp hd
    obtain ⟨j, _, rfl⟩ := upto_mem (List.mem_filter.mp he).1
    simp [flat, flats]
/-- a knot's place -/
def knd (r c : Int) : PyData := .tuple [.int r, .int c]
theorem knotsTo_mem {b : Int} : ∀ {i : Nat} {d : PyData}, d ∈ knotsTo b i → ∃ r c : Nat, d = knd r c ∧ r < i ∧ (c : Int) ≤ b ∧ ((r : Int) + c) % 2 = 0
  | 0, d, h => by simp [knotsTo] at h
  | i + 1, d, h => by
    rw [knotsTo] at h
    rcases List.mem_append.mp h with h | h
    · obtain ⟨r, c, e, h1, h2⟩ := knotsTo_mem h
      exact ⟨r, c, e, by omega, h2⟩
    · obtain ⟨e, he, rfl⟩ := List.mem_map.mp h
      obtain ⟨h1, h2⟩ := List.mem_filter.mp he
      obtain ⟨j, hj, rfl⟩ := upto_mem h1
      exact ⟨i, j, rfl, by omega, by omega, of_decide_eq_true h2⟩
theorem knots_mem {a b : Int} (sh : Sheet a b) {d : PyData} (h : d ∈ knotsD a b) : ∃ r c : Nat, d = knd r c ∧ (r : Int) ≤ a ∧ (c : Int) ≤ b ∧ ((r : Int) + c) % 2 = 0 := by
  obtain ⟨r, c, e, h1, h2, h3⟩ := knotsTo_mem h
  have := sh.d1
  exact ⟨r, c, e, by omega, h2, h3⟩
theorem knots_len {a b : Int} (sh : Sheet a b) : (knotsD a b).length ≤ 81 := by
  have s1 := sh.d1
  have s2 := sh.d8
  have s3 := sh.w1
  have s4 := sh.w8
  have h := knotsTo_len b (a + 1).toNat (by omega)
  have : (a + 1).toNat * (b + 1).toNat ≤ 9 * 9 := Nat.mul_le_mul (by omega) (by omega)
  exact Nat.le_trans h this
theorem knots_pos {a b : Int} (sh : Sheet a b) : 1 ≤ (knotsD a b).length := by
  have s1 := sh.d1
  have s3 := sh.w1
  have h : knd 0 0 ∈ knotsD a b := by
    have key : ∀ n : Nat, 1 ≤ n → knd 0 0 ∈ knotsTo b n := by
      intro n hn
      induction n with
      | zero => omega
      | succ n ih =>
        rw [knotsTo]
        by_cases h : n = 0
        · subst h
          refine List.mem_append_right _ (List.mem_map.mpr ⟨.int 0, List.mem_filter.mpr ⟨?_, by simp [intOf]⟩, rfl⟩)
          unfold upto
          exact List.mem_map.mpr ⟨0, List.mem_range.mpr (by omega), rfl⟩
        · exact List.mem_append_left _ (ih (by omega))
    exact key _ (by omega)
  exact List.length_pos_of_mem h
def iabs (x : Int) : Int := if x < 0 then -x else x
def imin (x y : Int) : Int := if y < x then y else x
def imax (x y : Int) : Int := if y > x then y else x
/-- the bar between two knots -/
def betw (b p1 p2 q1 q2 : Int) : PyData :=
  if ((!decide (iabs (p1 - q1) = 1)) || (!decide (iabs (p2 - q2) = 1))) = true then .none else .int (imin p1 q1 * b + imin p2 q2)
def RBetween : List PyData → PyData → Prop := fun ds d => ∃ a b p1 p2 q1 q2, Sheet a b ∧ ds = [shd a b, knd p1 p2, knd q1 q2] ∧ d = betw b p1 p2 q1 q2
theorem iabs_sub (x y : Int) : iabs (x - y) = iabs (y - x) := by
  unfold iabs
  split <;> split <;> omega
theorem imin_comm (x y : Int) : imin x y = imin y x := by
  unfold imin
  split <;> split <;> omega
theorem imax_comm (x y : Int) : imax x y = imax y x := by
  unfold imax
  split <;> split <;> omega
theorem imin_in {x y lo hi : Int} (h1 : lo ≤ x ∧ x ≤ hi) (h2 : lo ≤ y ∧ y ≤ hi) : lo ≤ imin x y ∧ imin x y ≤ hi := by
  unfold imin
  split <;> omega
theorem imax_in {x y lo hi : Int} (h1 : lo ≤ x ∧ x ≤ hi) (h2 : lo ≤ y ∧ y ≤ hi) : lo ≤ imax x y ∧ imax x y ≤ hi := by
  unfold imax
  split <;> omega
theorem betw_swap (b p1 p2 q1 q2 : Int) : betw b q1 q2 p1 p2 = betw b p1 p2 q1 q2 := by
  unfold betw
  rw [iabs_sub q1 p1, iabs_sub q2 p2, imin_comm q1 p1, imin_comm q2 p2]
theorem betw_tame {b p1 p2 q1 q2 : Int} (hb : 1 ≤ b ∧ b ≤ 8) (h1 : 0 ≤ p1 ∧ p1 ≤ 8) (h2 : 0 ≤ p2 ∧ p2 ≤ 8) (h3 : 0 ≤ q1 ∧ q1 ≤ 8) (h4 : 0 ≤ q2 ∧ q2 ≤ 8) : Tame 40 200000 (betw b p1 p2 q1 q2) := by
  unfold betw
  split
  · exact tame_none
  · refine tame_int ?_ (by decide)
    have a1 := imin_in h1 h3
    have a2 := imin_in h2 h4
    generalize imin p1 q1 = x at a1 ⊢
    generalize imin p2 q2 = y at a2 ⊢
    have m1 : 0 ≤ x * b := Int.mul_nonneg a1.1 (by omega)
    have m2 : x * b ≤ 8 * 8 := Int.mul_le_mul a1.2 hb.2 (by omega) (by decide)
    omega
end Mm

namespace Mm
open PySem PySem.Spec PyProof.Rows L2 Evl
/-! ### the rules with the written part by its name (a comprehension's block has its own context) -/
section
variable {X : Cx} {K : PySem.W.Frag}
theorem ixK (h : X.K = K) : IxR X (rIxA K) := h ▸ ixA
theorem op_eqK (h : X.K = K) (hu : X.A.units + 64 < cLine) : OpR X (compareOp .Eq) (rEqA K) := h ▸ op_eqA hu
theorem op_neK (h : X.K = K) (hu : X.A.units + 64 < cLine) : OpR X (compareOp .NotEq) (rNeA K) := h ▸ op_neA hu
theorem op_inK (h : X.K = K) : OpR X (compareOp .In) (rIn K false) := h ▸ op_in_seq
theorem op_niK (h : X.K = K) : OpR X (compareOp .NotIn) (rIn K true) := h ▸ op_notIn_seq
theorem fr_lenK (h : X.K = K) : CallR X (.builtin "len") (fLen K) := h ▸ fr_len
theorem fr_tupK (h : X.K = K) : CallR X (.type "tuple") (fTup K) := h ▸ fr_tup
theorem fr_lstK (h : X.K = K) : CallR X (.type "list") (fLst K) := h ▸ fr_lst
theorem fr_reprK {k : Nat} (h : X.K = K) (gu : X.A.guards = some []) (sm : ∃ mm, X.base.Ns sysModules mm) (hr : Room k X.A) : CallR X (.builtin "repr") (rRepr K) := h ▸ call_repr gu sm hr
theorem sl_listK (h : X.K = K) : SlR X (rSlL K) := h ▸ sl_list
theorem pi_seqK {tg l : Expr} {t : TE} (h : X.K = K) (p : PE X l t) : PI X tg l (iSeq K t) := h ▸ pi_seq p
theorem pg_tupK {es : List Expr} {k : Nat} {t : TGs} {n : Nat} {pos : Pos} (h : X.K = K) (hc : X.calm = true) (p : PGs X es t)
    (hn : (assignEach es X.env).length = n := by rfl) (hst : (assignEach es X.env).findIdx? (·.1) = none := by rfl) : PG X (.Tuple es k pos) (gTup K n t) := h ▸ pg_tup hc p hn hst
def tTrK (K : PySem.W.Frag) (ta : TE) : TT := fun σ H Q => ta σ H fun x H' => ∃ k, TruV K x H' k ∧ Q k H'
theorem pt_truthK {a : Expr} {ta : TE} (h : X.K = K) (ha : PE X a ta) (he : ∀ whole, isTrue a X.env whole = (do let v ← whole; standAt a.pos; holding [v] (truthy v))) : PT X a (tTrK K ta) := h ▸ pt_truth ha he
end
end Mm

namespace Mm
open PySem PySem.Spec PyProof.Rows L2 Evl

/-! ### what goes over data, item by item -/
def Walks (K : PySem.W.Frag) (J : It) (H : Hp) (ds : List PyData) : Prop := ∀ H1, Ex H H1 → ∀ i,
  (i < ds.length → J.go i H1 ∧ ∀ x H2, J.yld i H1 x H2 → H2 = H1 ∧ ∃ d, ds[i]? = some d ∧ Da K H1 x d) ∧ (i = ds.length → J.stop i H1)
def ItD (K : PySem.W.Frag) (wi : TI) (σ : L2.St) (H : Hp) (ds : List PyData) : Prop := ∀ H1, Ex H H1 → ∀ R : It → Hp → Prop, (∀ J H2, Ex H1 H2 → Walks K J H2 ds → R J H2) → wi σ H1 R
section
variable {K : PySem.W.Frag} {H H' : Hp} {σ : L2.St} {ta tb tc te tl : TE} {tt tu : TT} {tr : TA} {a b c d : PyData} {ds : List PyData} {D : Ends} {u z : TS} {g g1 : TG} {p q : Bool} {wi wi1 : TI} {tt1 : TT}
/-- the ints lo .. hi - 1 as data -/
def ups (lo : Int) (n : Nat) : List PyData := (List.range n).map fun i : Nat => .int (lo + (i : Int))
theorem ups_len (lo : Int) (n : Nat) : (ups lo n).length = n := by
  unfold ups
  rw [List.length_map, List.length_range]
theorem ups_get {lo : Int} {n i : Nat} (h : i < n) : (ups lo n)[i]? = some (.int (lo + (i : Int))) := by
  unfold ups
  rw [List.getElem?_map, List.getElem?_range h]
  rfl
theorem ups_zero (n : Nat) : ups 0 n = upto n := by
  unfold ups upto
  congr 1
  funext i
  rw [Int.zero_add]
theorem walks_rng (lo : Int) (n : Nat) : Walks K (Itr lo n) H (ups lo n) := fun H1 e i => ⟨fun h => ⟨by rw [ups_len] at h; exact h, fun x H2 y => by
    rw [ups_len] at h
    obtain ⟨rfl, rfl⟩ := y
    exact ⟨rfl, _, ups_get h, .int _⟩⟩, fun h => by
    rw [ups_len] at h
    exact (show n ≤ i by omega)⟩
theorem it_rng1 {n : Int} {ta : TA} (h : EvDs K ta σ H [.int n]) (hn : -100000 ≤ n ∧ n ≤ 100000) : ItD K (iRng1 ta) σ H (upto n.toNat) := fun H1 e R r => h H1 e _ fun vs H2 e2 dv => by
  cases dv with
  | cons h1 hx =>
    cases hx
    cases h1
    refine ⟨n, rfl, by omega, by omega, r _ H2 e2 ?_⟩
    rw [← ups_zero]
    exact walks_rng 0 n.toNat
theorem it_rng2 {lo n : Int} {ta : TA} (h : EvDs K ta σ H [.int lo, .int n]) (hl : -100000 ≤ lo ∧ lo ≤ 100000) (hn : -100000 ≤ n ∧ n ≤ 100000) : ItD K (iRng2 ta) σ H (ups lo (n - lo).toNat) := fun H1 e R r => h H1 e _ fun vs H2 e2 dv => by
  cases dv with
  | cons h1 hx =>
    cases hx with
    | cons h2 hx =>
      cases hx
      cases h1
      cases h2
      exact ⟨lo, n, rfl, ⟨by omega, by omega, by omega, by omega⟩, r _ H2 e2 (walks_rng lo _)⟩
theorem it_seq (h : EvD K tl σ H d) (hi : Items d ds) : ItD K (iSeq K tl) σ H ds := fun H1 e R r => by
  cases hi with
  | lst =>
    refine Or.inl (h H1 e _ fun v H2 e2 dv => ?_)
    obtain ⟨a, xs, rfl, hx, hA⟩ := dp_lstI dv
    refine ⟨a, rfl, ⟨xs, hx⟩, r _ H2 e2 fun H3 e3 i => ⟨fun h => ⟨⟨xs, xs[i]'(by rw [dps_len hA]; exact h), ex_l e3 hx, List.getElem?_eq_getElem _⟩, fun x H4 y => ?_⟩, fun h => ⟨xs, ex_l e3 hx, by rw [dps_len hA]; omega⟩⟩⟩
    obtain ⟨rfl, y⟩ := y
    obtain ⟨d, h1, h2⟩ := dps_got (dpsm e3 hA) (y xs (ex_l e3 hx))
    exact ⟨rfl, d, h1, h2⟩
  | tup =>
    refine Or.inr (h H1 e _ fun v H2 e2 dv => ?_)
    obtain ⟨a, xs, rfl, hx, hA⟩ := dp_tupI dv
    refine ⟨a, rfl, ⟨xs, hx⟩, r _ H2 e2 fun H3 e3 i => ⟨fun h => ⟨⟨xs, xs[i]'(by rw [dps_len hA]; exact h), ex_t e3 hx, List.getElem?_eq_getElem _⟩, fun x H4 y => ?_⟩, fun h => ⟨xs, ex_t e3 hx, by rw [dps_len hA]; omega⟩⟩⟩
    obtain ⟨rfl, y⟩ := y
    obtain ⟨d, h1, h2⟩ := dps_got (dpsm e3 hA) (y xs (ex_t e3 hx))
    exact ⟨rfl, d, h1, h2⟩
/-- [te for g in wi if tt] -/
def picked (f : PyData → Bool) (m : PyData → PyData) (ds : List PyData) : List PyData := (ds.filter f).map m
theorem picked_le (f : PyData → Bool) (m : PyData → PyData) (ds : List PyData) (i : Nat) : (picked f m (ds.take i)).length ≤ ds.length := by
  unfold picked
  rw [List.length_map]
  have h1 := List.length_filter_le f (ds.take i)
  rw [List.length_take] at h1
  omega
theorem en_lcI {vs : List Nat} (f : PyData → Bool) (m : PyData → PyData) (h : ItD K wi σ H ds) (hz : ds.length ≤ 50000)
    (ht : ∀ e ∈ ds, TurnD K g tt te vs σ H e (f e) (m e)) (hf : ∀ e ∈ ds, f e = true → flat (m e) = true) : EvN K (tLc wi g tt te vs) σ H (picked f m ds) := fun H0 e0 Q q =>
  h H0 e0 _ fun J H1 e1 wk Dl hD => by
    refine ⟨fun i k H' => k = ds.length - i ∧ i ≤ ds.length ∧ Got K H1 Dl (picked f m (ds.take i)) H', ⟨ds.length, rfl, Nat.zero_le _, got_new hD⟩, fun i k H' hw => ?_⟩
    obtain ⟨rfl, le, k⟩ := hw
    obtain ⟨w1, w2⟩ := wk H' k.ex i
    by_cases lt : i < ds.length
    · obtain ⟨go, y⟩ := w1 lt
      refine Or.inr ⟨go, fun H2 => Got K H1 Dl (picked f m (ds.take (i + 1))) H2, fun H2 k2 => ⟨ds.length - (i + 1), by omega, rfl, lt, k2⟩, fun x H2 hy => ?_⟩
      obtain ⟨rfl, e, he, dx⟩ := y x H2 hy
      have hm := List.mem_of_getElem? he
      have pl := picked_le f m ds i
      refine lc_turn (ht e hm) (e0.trans e1) dx k (hf e hm) (by omega) fun H3 k3 => ?_
      unfold picked
      rw [picked_take f m he]
      exact k3
    · have e : i = ds.length := by omega
      refine Or.inl ⟨w2 e, ?_⟩
      subst e
      rw [List.take_length] at k
      obtain ⟨b1, b2, ⟨acc, b3, b4⟩, b5⟩ := k
      exact q Dl acc H' (fresh_back e1 b1) (e1.trans b2) b3 b4
/-! ### two walks, one within the other -/
/-- what goes over data, told by a base of the heap and the tuples -/
def WalksE (K : PySem.W.Frag) (J : It) (H H2 : Hp) (ds : List PyData) : Prop := ∀ H3, Ex H H3 → Et H2 H3 → ∀ i,
  (i < ds.length → J.go i H3 ∧ ∀ x H4, J.yld i H3 x H4 → H4 = H3 ∧ ∃ d, ds[i]? = some d ∧ Da K H3 x d) ∧ (i = ds.length → J.stop i H3)
def ItE (K : PySem.W.Frag) (wi : TI) (σ : L2.St) (H : Hp) (ds : List PyData) : Prop := ∀ H1, Ex H H1 → ∀ R : It → Hp → Prop, (∀ J H2, Ex H1 H2 → WalksE K J H H2 ds → R J H2) → wi σ H1 R
theorem ie_rng1 {n : Int} {ta : TA} (h : EvDs K ta σ H [.int n]) (hn : -100000 ≤ n ∧ n ≤ 100000) : ItE K (iRng1 ta) σ H (upto n.toNat) := fun H1 e R r => h H1 e _ fun vs H2 e2 dv => by
  cases dv with
  | cons h1 hx =>
    cases hx
    cases h1
    refine ⟨n, rfl, by omega, by omega, r _ H2 e2 fun H3 _ _ => ?_⟩
    rw [← ups_zero]
    exact walks_rng (K := K) (H := H3) 0 n.toNat H3 (Ex.refl H3)
theorem ie_var {k : Nat} {v : V} (h : σ[k]? = some (some v)) (dv : Da K H v d) (hi : Items d ds) : ItE K (iSeq K (tVar k)) σ H ds := fun H1 e R r => by
  cases hi with
  | lst =>
    obtain ⟨a, xs, rfl, hx, hA⟩ := dp_lstI dv
    refine Or.inl ⟨_, h, a, rfl, ⟨xs, ex_l e hx⟩, r _ H1 (Ex.refl H1) fun H3 e3 _ i => ⟨fun h => ⟨⟨xs, xs[i]'(by rw [dps_len hA]; exact h), ex_l e3 hx, List.getElem?_eq_getElem _⟩, fun x H4 y => ?_⟩, fun h => ⟨xs, ex_l e3 hx, by rw [dps_len hA]; omega⟩⟩⟩
    obtain ⟨rfl, y⟩ := y
    obtain ⟨d, h1, h2⟩ := dps_got (dpsm e3 hA) (y xs (ex_l e3 hx))
    exact ⟨rfl, d, h1, h2⟩
  | tup =>
    obtain ⟨a, xs, rfl, hx, hA⟩ := dp_tupI dv
    refine Or.inr ⟨_, h, a, rfl, ⟨xs, ex_t e hx⟩, r _ H1 (Ex.refl H1) fun H3 e3 _ i => ⟨fun h => ⟨⟨xs, xs[i]'(by rw [dps_len hA]; exact h), ex_t e3 hx, List.getElem?_eq_getElem _⟩, fun x H4 y => ?_⟩, fun h => ⟨xs, ex_t e3 hx, by rw [dps_len hA]; omega⟩⟩⟩
    obtain ⟨rfl, y⟩ := y
    obtain ⟨d, h1, h2⟩ := dps_got (dpsm e3 hA) (y xs (ex_t e3 hx))
    exact ⟨rfl, d, h1, h2⟩
theorem ie_tup (h : EvD K tl σ H (.tuple ds)) (hf : flats ds = true) : ItE K (iSeq K tl) σ H ds := fun H1 e R r =>
  Or.inr (h H1 e _ fun v H2 e2 dv => by
    obtain ⟨a, xs, rfl, hx, hA⟩ := dp_tupI dv
    refine ⟨a, rfl, ⟨xs, hx⟩, r _ H2 e2 fun H3 _ e3 i => ⟨fun h => ⟨⟨xs, xs[i]'(by rw [dps_len hA]; exact h), et_t e3 hx, List.getElem?_eq_getElem _⟩, fun x H4 y => ?_⟩, fun h => ⟨xs, et_t e3 hx, by rw [dps_len hA]; omega⟩⟩⟩
    obtain ⟨rfl, y⟩ := y
    obtain ⟨d, h1, h2⟩ := dps_got (dpst e3 hf hA) (y xs (et_t e3 hx))
    exact ⟨rfl, d, h1, h2⟩)
/-- the heap but one place -/
def less (H : Hp) (l : Addr) : Hp := fun a => if a = l then none else H a
theorem less_ex (H : Hp) (l : Addr) : Ex (less H l) H := fun a o h => by
  unfold less at h
  split at h
  · cases h
  · exact h
theorem ex_less {H0 H : Hp} {l : Addr} (e : Ex H0 H) (n : H0 l = none) : Ex H0 (less H l) := fun a o h => by
  unfold less
  rw [if_neg (ne_of_none h n)]
  exact e a o h
theorem et_less {H : Hp} {l : Addr} {xs : List V} (h : H l = some (.lst xs)) : Et H (less H l) := fun a o e k => by
  have n : a ≠ l := fun z => by
    subst z
    rw [h] at e
    cases e
    rcases k with ⟨_, z | ⟨_, z⟩⟩ <;> cases z
  unfold less
  rw [if_neg n]
  exact e
theorem less_none (H : Hp) (l : Addr) : less H l l = none := by
  unfold less
  rw [if_pos rfl]
/-- [te for g in wi for g1 in wi1 if tt1] -/
def TurnO (K : PySem.W.Frag) (g : TG) (tt : TT) (wi1 : TI) (g1 : TG) (tt1 : TT) (te : TE) (vs vs1 : List Nat) (σ : L2.St) (H : Hp) (e : PyData) (es : List PyData) (f : PyData → Bool) (m : PyData → PyData) : Prop :=
  ∀ x H1, Ex H H1 → Da K H1 x e → ∃ σ2, wipe σ2 vs = wipe σ vs ∧ (∀ H2, Ex H1 H2 → ∀ Q : L2.St → Hp → Prop, Q σ2 H2 → g x (wipe σ vs) H2 Q) ∧ EvT tt σ2 H1 true ∧ ItE K wi1 σ2 H1 es ∧ ∀ e1 ∈ es, TurnD K g1 tt1 te vs1 σ2 H1 e1 (f e1) (m e1)
def all2 (es : PyData → List PyData) (f : PyData → PyData → Bool) (m : PyData → PyData → PyData) (ds : List PyData) : List PyData := ds.flatMap fun e => picked (f e) (m e) (es e)
theorem all2_take {es : PyData → List PyData} {f : PyData → PyData → Bool} {m : PyData → PyData → PyData} {ds : List PyData} {i : Nat} {e : PyData} (h : ds[i]? = some e) :
    all2 es f m (ds.take (i + 1)) = all2 es f m (ds.take i) ++ picked (f e) (m e) (es e) := by
  unfold all2
  rw [List.take_add_one, h]
  show ((ds.take i ++ [e]).flatMap _) = _
  rw [List.flatMap_append]
  simp
theorem en_lc2I {vs vs1 : List Nat} (es : PyData → List PyData) (f : PyData → PyData → Bool) (m : PyData → PyData → PyData) (h : ItD K wi σ H ds) (fd : flats ds = true) (hz : ∀ i, (all2 es f m (ds.take i)).length ≤ 40000) (hz1 : ∀ e ∈ ds, (es e).length ≤ 40000)
    (ht : ∀ e ∈ ds, TurnO K g tt wi1 g1 tt1 te vs vs1 σ H e (es e) (f e) (m e)) (hf : ∀ e ∈ ds, ∀ e1 ∈ es e, f e e1 = true → flat (m e e1) = true) : EvN K (tLc2 wi g tt wi1 g1 tt1 te vs vs1) σ H (all2 es f m ds) := fun H0 e0 Q q =>
  h H0 e0 _ fun J H1 e1 wk Dl hD => by
    refine ⟨fun i k H' => k = ds.length - i ∧ i ≤ ds.length ∧ Got K H1 Dl (all2 es f m (ds.take i)) H', ⟨ds.length, rfl, Nat.zero_le _, got_new hD⟩, fun i k H' hw => ?_⟩
    obtain ⟨rfl, le, k⟩ := hw
    obtain ⟨w1, w2⟩ := wk H' k.ex i
    by_cases lt : i < ds.length
    · obtain ⟨go, y⟩ := w1 lt
      refine Or.inr ⟨go, fun H2 => Got K H1 Dl (all2 es f m (ds.take (i + 1))) H2, fun H2 k2 => ⟨ds.length - (i + 1), by omega, rfl, lt, k2⟩, fun x H2 hy => ?_⟩
      obtain ⟨rfl, e, he, dx⟩ := y x H2 hy
      have hm := List.mem_of_getElem? he
      obtain ⟨acc0, hl0, ha0⟩ := k.so
      have eB : Ex H1 (less H2 Dl) := ex_less k.ex hD
      obtain ⟨σ2, ww, hg, h1, h2, h3⟩ := ht e hm x (less H2 Dl) ((e0.trans e1).trans eB) (dpt (et_less hl0) (flats_mem fd hm) dx)
      refine hg H2 (less_ex H2 Dl) _ ⟨ww, h1 H2 (less_ex H2 Dl) _ fun H3 e3 => ?_⟩
      rw [if_pos rfl]
      refine h2 H3 ((less_ex H2 Dl).trans e3) _ fun J1 H4 e4 wk1 => ?_
      have len0 := hz i
      have len1 := hz1 e hm
      refine ⟨fun j k1 H5 => k1 = (es e).length - j ∧ j ≤ (es e).length ∧ Got K H1 Dl (all2 es f m (ds.take i) ++ picked (f e) (m e) ((es e).take j)) H5 ∧ Ex (less H2 Dl) H5 ∧ Et H4 H5, ⟨(es e).length, rfl, Nat.zero_le _, ?_, ((less_ex H2 Dl).trans e3).trans e4, Et.refl H4⟩, fun j k1 H5 hw => ?_⟩
      · have z : picked (f e) (m e) ((es e).take 0) = [] := rfl
        rw [z, List.append_nil]
        exact ⟨k.nw, (k.ex.trans e3).trans e4, ⟨acc0, e4 _ _ (e3 _ _ hl0), dpsm (e3.trans e4) ha0⟩, k.fl⟩
      · obtain ⟨rfl, le1, k5, x5, t5⟩ := hw
        obtain ⟨u1, u2⟩ := wk1 H5 x5 t5 j
        by_cases lt1 : j < (es e).length
        · obtain ⟨go1, y1⟩ := u1 lt1
          refine Or.inr ⟨go1, fun H6 => Got K H1 Dl (all2 es f m (ds.take i) ++ picked (f e) (m e) ((es e).take (j + 1))) H6 ∧ Ex (less H2 Dl) H6 ∧ Et H4 H6, fun H6 k6 => ⟨(es e).length - (j + 1), by omega, rfl, lt1, k6⟩, fun x1 H6 hy1 => ?_⟩
          obtain ⟨rfl, d1, hd1, dx1⟩ := y1 x1 H6 hy1
          have hm1 := List.mem_of_getElem? hd1
          obtain ⟨σ3, ww3, hg3, v1, v2⟩ := h3 d1 hm1 x1 H6 x5 dx1
          refine hg3 _ ⟨ww3, v1 H6 (Ex.refl H6) _ fun H7 e7 => ?_⟩
          have pl := picked_le (f e) (m e) (es e) j
          have tk : picked (f e) (m e) ((es e).take (j + 1)) = if f e d1 = true then picked (f e) (m e) ((es e).take j) ++ [m e d1] else picked (f e) (m e) ((es e).take j) := picked_take (f e) (m e) hd1
          obtain ⟨acc5, hl5, ha5⟩ := k5.so
          cases hv : f e d1 with
          | true =>
            rw [if_pos rfl]
            refine v2 hv H7 e7 _ fun yv H8 e8 dy => ?_
            obtain ⟨acc, a1, a2, a3⟩ := got_more k5 (e7.trans e8) dy (hf e hm d1 hm1 hv) (by rw [List.length_append]; omega)
            refine ⟨acc, a1, a2, ?_, Ex.mut ((x5.trans e7).trans e8) (less_none H2 Dl), (t5.trans (Et.ex (e7.trans e8))).trans (Et.upd a1)⟩
            rw [tk, if_pos hv, ← List.append_assoc]
            exact a3
          | false =>
            rw [if_neg (by decide)]
            refine ⟨?_, x5.trans e7, t5.trans (Et.ex e7)⟩
            rw [tk, if_neg (by rw [hv]; decide)]
            exact ⟨k5.nw, k5.ex.trans e7, ⟨acc5, e7 _ _ hl5, dpsm e7 ha5⟩, k5.fl⟩
        · have z : j = (es e).length := by omega
          refine Or.inl ⟨u2 z, ?_⟩
          subst z
          rw [List.take_length] at k5
          rw [all2_take he]
          exact k5
    · have e : i = ds.length := by omega
      refine Or.inl ⟨w2 e, ?_⟩
      subst e
      rw [List.take_length] at k
      obtain ⟨b1, b2, ⟨acc, b3, b4⟩, b5⟩ := k
      exact q Dl acc H' (fresh_back e1 b1) (e1.trans b2) b3 b4
theorem turnO_name {vs vs1 : List Nat} {j : Nat} {e : PyData} {es : List PyData} {f : PyData → Bool} {m : PyData → PyData} (hw : ∀ x, wipe ((wipe σ vs).set j (some x)) vs = wipe σ vs)
    (hi : ∀ x H1, Ex H H1 → Da K H1 x e → ItE K wi1 ((wipe σ vs).set j (some x)) H1 es) (ht : ∀ x H1, Ex H H1 → Da K H1 x e → ∀ e1 ∈ es, TurnD K g1 tt1 te vs1 ((wipe σ vs).set j (some x)) H1 e1 (f e1) (m e1)) :
    TurnO K (gName j) tYes wi1 g1 tt1 te vs vs1 σ H e es f m :=
  fun x H1 e1 dx => ⟨(wipe σ vs).set j (some x), hw x, fun H2 _ Q q => q, et_yes, hi x H1 e1 dx, ht x H1 e1 dx⟩
end
end Mm

namespace Mm
open PySem PySem.Spec PyProof.Rows L2 Evl
section
variable {K : PySem.W.Frag} {H H' : Hp} {σ : L2.St} {ta tb tc te tl : TE} {tt tu : TT} {tr : TA} {a b c d : PyData} {ds es : List PyData} {D : Ends} {u z ty : TS} {g g1 : TG} {p q : Bool}
theorem q_skip (h : EvT tt σ H p) (hp : p = false) (k : ∀ H1, Ex H H1 → z D σ H1) : tSeq (tIfS tt ty tNext) z D σ H :=
  q_when h (fun c _ _ => by rw [hp] at c; cases c) (fun _ H1 e1 => k H1 e1)
theorem s_skip (h : EvT tt σ H p) (hp : p = false) (k : ∀ H1, Ex H H1 → D.nx σ H1) : tIfS tt ty tNext D σ H :=
  s_when h (fun c _ _ => by rw [hp] at c; cases c) (fun _ H1 e1 => k H1 e1)
theorem neS_same {x y : Str} (h : x = y) : (!decide (x = y)) = false := by
  rw [decide_eq_true h]
  rfl
theorem en_listRg {n : Int} (h : EvD K ta σ H (.int n)) (hn : 0 ≤ n ∧ n ≤ 100000) : EvN K (tLstRg (tRg1 ta)) σ H (upto n.toNat) := fun H1 e Q q =>
  h H1 e _ fun v H2 e2 dv => ⟨n, dp_intI dv, RgOk.of_le (by decide) (by omega) (by decide) (by omega), fun l nl => by
    have x : DaAll K (upd H2 l (.lst (rgV 0 n))) (rgV 0 n) (upto n.toNat) := by
      have key : ∀ (m : Nat) (f : Nat → Int), DaAll K (upd H2 l (.lst (rgV 0 n))) ((List.range m).map fun i => V.int (f i)) ((List.range m).map fun i => PyData.int (f i)) := by
        intro m f
        have := dps_ints (K := K) (H := upd H2 l (.lst (rgV 0 n))) ((List.range m).map f)
        rw [List.map_map, List.map_map] at this
        exact this
      have := key (n - 0).toNat (fun i => 0 + (i : Int))
      unfold rgV
      unfold rgV at this
      rw [← ups_zero]
      unfold ups
      simp only [Int.sub_zero] at this ⊢
      exact this
    exact q l (rgV 0 n) _ (fresh_back e2 nl) (e2.trans (Ex.new nl)) upd_same x⟩
theorem picked_cons (f : PyData → Bool) (m : PyData → PyData) (e : PyData) (ds : List PyData) : picked f m (e :: ds) = (if f e = true then [m e] else []) ++ picked f m ds := by
  unfold picked
  cases h : f e with
  | true =>
    rw [List.filter_cons, if_pos h, if_pos rfl]
    rfl
  | false =>
    rw [List.filter_cons, if_neg (by rw [h]; decide), if_neg (by decide)]
    rfl
theorem picked_app (f : PyData → Bool) (m : PyData → PyData) (a b : List PyData) : picked f m (a ++ b) = picked f m a ++ picked f m b := by
  unfold picked
  rw [List.filter_append, List.map_append]
theorem fm_take {ds : List PyData} {i : Nat} {e : PyData} (F : PyData → List PyData) (h : ds[i]? = some e) : (ds.take (i + 1)).flatMap F = (ds.take i).flatMap F ++ F e := by
  rw [List.take_add_one, h]
  show ((ds.take i ++ [e]).flatMap _) = _
  rw [List.flatMap_append]
  simp
end

/-! ### sheets -/
theorem tame_knd {r c : Int} (h1 : r.natAbs < 2 ^ 24) (h2 : c.natAbs < 2 ^ 24) : Tame 1 50 (knd r c) :=
  (tame_tuple (tameL_cons (tame_int h1 (Nat.le_refl 24)) (tameL_cons (tame_int h2 (Nat.le_refl 24)) (tameL_nil (n := 0) (w := 0))))).mono (Nat.le_refl _) (by decide)
theorem flat_knd {r c : Int} : flat (knd r c) = true := by simp [knd, flat, flats]
/-- a pair of ints -/
def prI : PyData → Int × Int
  | .tuple [.int r, .int c] => (r, c)
  | _ => (0, 0)
def pairs (n m : Nat) : List PyData := all2 (fun _ => upto m) (fun _ _ => true) (fun r c => .tuple [r, c]) (upto n)
theorem picked_true (m : PyData → PyData) (ds : List PyData) : picked (fun _ => true) m ds = ds.map m := by
  unfold picked
  rw [List.filter_eq_self.mpr (fun _ _ => rfl)]
theorem upto_succ (n : Nat) : upto (n + 1) = upto n ++ [.int (n : Int)] := by
  unfold upto
  rw [List.range_succ, List.map_append]
  rfl
theorem pairs_knots (b : Int) : ∀ n : Nat, picked (fun d => decide (((prI d).1 + (prI d).2) % 2 = 0)) (fun d => knd (prI d).1 (prI d).2) (pairs n (b + 1).toNat) = knotsTo b n
  | 0 => rfl
  | n + 1 => by
    have ih := pairs_knots b n
    unfold pairs all2 at ih ⊢
    rw [upto_succ, List.flatMap_append, picked_app, ih, knotsTo]
    congr 1
    rw [List.flatMap_cons, List.flatMap_nil, List.append_nil, picked_true]
    unfold picked
    rw [List.filter_map, List.map_map]
    have h1 : ∀ e ∈ upto (b + 1).toNat, ((fun d => decide (((prI d).1 + (prI d).2) % 2 = 0)) ∘ fun c => PyData.tuple [.int (n : Int), c]) e = decide (((n : Int) + intOf e) % 2 = 0) := by
      intro e he
      obtain ⟨j, _, rfl⟩ := upto_mem he
      rfl
    rw [List.filter_congr h1]
    refine List.map_congr_left fun e he => ?_
    obtain ⟨j, _, rfl⟩ := upto_mem (List.mem_filter.mp he).1
    rfl
theorem pairs_mem {n m : Nat} {d : PyData} (h : d ∈ pairs n m) : ∃ r c : Nat, d = knd r c ∧ r < n ∧ c < m := by
  unfold pairs all2 at h
  obtain ⟨e, he, h⟩ := List.mem_flatMap.mp h
  rw [picked_true] at h
  obtain ⟨x, hx, rfl⟩ := List.mem_map.mp h
  obtain ⟨r, hr, rfl⟩ := upto_mem he
  obtain ⟨c, hc, rfl⟩ := upto_mem hx
  exact ⟨r, c, rfl, hr, hc⟩
theorem all2_len {es : PyData → List PyData} {f : PyData → PyData → Bool} {m : PyData → PyData → PyData} {ds : List PyData} {k : Nat} (h : ∀ e ∈ ds, (es e).length ≤ k) : (all2 es f m ds).length ≤ ds.length * k := by
  induction ds with
  | nil => simp [all2]
  | cons d ds ih =>
    unfold all2 at ih ⊢
    rw [List.flatMap_cons, List.length_append, List.length_cons, Nat.succ_mul]
    have a := ih fun e he => h e (List.mem_cons_of_mem _ he)
    have b := picked_le (f d) (m d) (es d) (es d).length
    rw [List.take_length] at b
    have c := h d List.mem_cons_self
    omega
theorem all2_lenT {es : PyData → List PyData} {f : PyData → PyData → Bool} {m : PyData → PyData → PyData} {ds : List PyData} {k : Nat} (h : ∀ e ∈ ds, (es e).length ≤ k) (i : Nat) : (all2 es f m (ds.take i)).length ≤ ds.length * k := by
  refine Nat.le_trans (all2_len fun e he => h e (List.mem_of_mem_take he)) (Nat.mul_le_mul_right _ ?_)
  rw [List.length_take]
  omega
theorem flats_upto (n : Nat) : flats (upto n) = true := flats_all fun d hd => by
  obtain ⟨j, _, rfl⟩ := upto_mem hd
  simp [flat]
/-- the ends of a bar -/
def endsD (b bar : Int) : PyData :=
  if decide ((bar / b + bar % b) % 2 = 0) = true then .tuple [knd (bar / b) (bar % b), knd (bar / b + 1) (bar % b + 1)] else .tuple [knd (bar / b) (bar % b + 1), knd (bar / b + 1) (bar % b)]
def REnds : List PyData → PyData → Prop := fun ds d => ∃ a b bar, Sheet a b ∧ ds = [shd a b, .int bar] ∧ d = endsD b bar
def RKnotsP : List PyData → PyData → Prop := fun ds d => ∃ a b, Sheet a b ∧ ds = [shd a b] ∧ d = .tuple (knotsD a b)
theorem flat_ends (b bar : Int) : flat (endsD b bar) = true := by
  unfold endsD
  split <;> simp [knd, flat, flats]
theorem tame_ends {a b bar : Int} (sh : Sheet a b) (h0 : 0 ≤ bar) (h1 : bar ≤ 64) : Tame 2 110 (endsD b bar) := by
  have s3 := sh.w1
  have s4 := sh.w8
  have q0 : 0 ≤ bar / b := Int.ediv_nonneg h0 (by omega)
  have q1 : bar / b ≤ bar := Int.ediv_le_self _ h0
  have r0 := Int.emod_nonneg bar (show b ≠ 0 by omega)
  have r1 := Int.emod_lt_of_pos bar (show 0 < b by omega)
  unfold endsD
  have k : ∀ x y : Int, 0 ≤ x → x ≤ 100 → 0 ≤ y → y ≤ 100 → Tame 1 50 (knd x y) := fun x y h1 h2 h3 h4 => tame_knd (by omega) (by omega)
  split
  · exact (tame_tuple (tameL_cons (k _ _ q0 (by omega) r0 (by omega)) (tameL_cons (k _ _ (by omega) (by omega) (by omega) (by omega)) (tameL_nil (n := 1) (w := 0))))).mono (Nat.le_refl _) (by decide)
  · exact (tame_tuple (tameL_cons (k _ _ q0 (by omega) (by omega) (by omega)) (tameL_cons (k _ _ (by omega) (by omega) (by omega) (by omega)) (tameL_nil (n := 1) (w := 0))))).mono (Nat.le_refl _) (by decide)
/-- the bar in a field, if the field is there -/
def fieldIn (a b y x : Int) : Bool := (decide (0 ≤ y) && decide (y < a)) && (decide (0 ≤ x) && decide (x < b))
def cellD (a b y x : Int) : List PyData := if fieldIn a b y x = true then [.int (y * b + x)] else []
def rowD (a b y c : Int) : List PyData := cellD a b y (c - 1) ++ cellD a b y c
def atD (a b r c : Int) : List PyData := rowD a b (r - 1) c ++ rowD a b r c
def RBars (f : List PyData → PyData) : List PyData → PyData → Prop := fun ds d => ∃ a b r c, Sheet a b ∧ ds = [shd a b, knd r c] ∧ d = f (atD a b r c)
theorem cell_len (a b y x : Int) : (cellD a b y x).length ≤ 1 := by
  unfold cellD
  split <;> simp
theorem at_len (a b r c : Int) : (atD a b r c).length ≤ 4 := by
  unfold atD rowD
  have h1 := cell_len a b (r - 1) (c - 1)
  have h2 := cell_len a b (r - 1) c
  have h3 := cell_len a b r (c - 1)
  have h4 := cell_len a b r c
  simp only [List.length_append]
  omega
theorem cell_mem {a b y x : Int} {d : PyData} (h : d ∈ cellD a b y x) : d = .int (y * b + x) ∧ 0 ≤ y ∧ y < a ∧ 0 ≤ x ∧ x < b := by
  unfold cellD fieldIn at h
  split at h
  · rename_i c
    simp only [Bool.and_eq_true, decide_eq_true_eq] at c
    exact ⟨List.mem_singleton.mp h, c.1.1, c.1.2, c.2.1, c.2.2⟩
  · cases h
theorem at_mem {a b r c : Int} {d : PyData} (h : d ∈ atD a b r c) : ∃ y x, d = .int (y * b + x) ∧ 0 ≤ y ∧ y < a ∧ 0 ≤ x ∧ x < b := by
  unfold atD rowD at h
  rcases List.mem_append.mp h with h | h <;> rcases List.mem_append.mp h with h | h <;> exact ⟨_, _, cell_mem h⟩
theorem bar_in {a b y x : Int} (sh : Sheet a b) (h : 0 ≤ y ∧ y < a ∧ 0 ≤ x ∧ x < b) : 0 ≤ y * b + x ∧ y * b + x < a * b ∧ a * b ≤ 64 := by
  have s1 := sh.d1
  have s2 := sh.d8
  have s3 := sh.w1
  have s4 := sh.w8
  have m0 : 0 ≤ y * b := Int.mul_nonneg h.1 (by omega)
  have m1 : y * b ≤ (a - 1) * b := Int.mul_le_mul_of_nonneg_right (by omega) (by omega)
  have m2 : (a - 1) * b = a * b - b := by rw [Int.sub_mul, Int.one_mul]
  have m3 : a * b ≤ 8 * 8 := Int.mul_le_mul s2 s4 (by omega) (by decide)
  omega
theorem tame_at {a b r c : Int} (sh : Sheet a b) : TameL 0 200 (atD a b r c) := by
  have h : TameL 0 ((24 + 1) * (atD a b r c).length) (atD a b r c) := tameL_all fun d hd => by
    obtain ⟨y, x, rfl, k⟩ := at_mem hd
    obtain ⟨k1, k2, k3⟩ := bar_in sh k
    exact tame_int (by omega) (Nat.le_refl _)
  have := at_len a b r c
  exact h.mono (Nat.le_refl _) (by omega)
theorem flats_at (a b r c : Int) : flats (atD a b r c) = true := flats_all fun d hd => by
  obtain ⟨y, x, rfl, _⟩ := at_mem hd
  simp [flat]
theorem tame_knots {a b : Int} (sh : Sheet a b) : TameL 1 5000 (knotsD a b) := by
  have h : TameL 1 ((50 + 1) * (knotsD a b).length) (knotsD a b) := tameL_all fun d hd => by
    obtain ⟨r, c, rfl, h1, h2, _⟩ := knots_mem sh hd
    have := sh.d8
    have := sh.w8
    exact tame_knd (by omega) (by omega)
  have := knots_len sh
  exact h.mono (Nat.le_refl _) (by omega)
theorem tame_shd {a b : Int} (sh : Sheet a b) : Tame 1 50 (shd a b) := by
  have := sh.d8
  have := sh.w8
  have := sh.d1
  have := sh.w1
  exact tame_knd (r := a) (c := b) (by omega) (by omega)
end Mm

namespace Mm
open PySem PySem.Spec PyProof.Rows L2 Evl

/-! ### in, over data -/
def rInA (K : PySem.W.Frag) (neg : Bool) : R2 := fun x y H Q => ∃ d e ds n w m u, Da K H x d ∧ Da K H y e ∧ Items e ds ∧ Tame n w d ∧ TameL m u ds ∧ n ≤ 64 ∧ Q (.bl (if neg = true then !(ds.any fun z => PyData.eqv z d) else ds.any fun z => PyData.eqv z d)) H
section
variable {X : Cx} {K : PySem.W.Frag}
theorem op_inA {k : Nat} (h : X.K = K) (hr : Room k X.A) : OpR X (compareOp .In) (rInA K false) := by
  subst h
  intro pins s σ H x y v u Q I rx ry ⟨d, e, ds, n, w, m, t, dx, dy, it, hd, hs, hn, q⟩
  have un := hr.un
  have dd := hd.dp
  obtain ⟨as, r1⟩ := L2.Dp.reads I d x v (da_dp hd.ly dx) rx
  have ely : PyData.canLay0 e = true := by
    cases it <;> simp only [PyData.canLay0, hs.ly]
  obtain ⟨bs, r2⟩ := L2.Dp.reads I e y u (da_dp ely dy) ry
  have room : X.A.units + 1 + min (PyData.depthAll ds) d.depth < cLine := by
    have := Nat.min_le_right (PyData.depthAll ds) d.depth
    omega
  cases it with
  | lst => exact SeqAt.in_list_reads r2 r1 hs.ly hd.ly room ⟨.bl _, H, I, rfl, q⟩
  | tup => exact SeqAt.in_tuple_reads r2 r1 hs.ly hd.ly room ⟨.bl _, H, I, rfl, q⟩
theorem op_niA {k : Nat} (h : X.K = K) (hr : Room k X.A) : OpR X (compareOp .NotIn) (rInA K true) := by
  subst h
  intro pins s σ H x y v u Q I rx ry ⟨d, e, ds, n, w, m, t, dx, dy, it, hd, hs, hn, q⟩
  have un := hr.un
  have dd := hd.dp
  obtain ⟨as, r1⟩ := L2.Dp.reads I d x v (da_dp hd.ly dx) rx
  have ely : PyData.canLay0 e = true := by
    cases it <;> simp only [PyData.canLay0, hs.ly]
  obtain ⟨bs, r2⟩ := L2.Dp.reads I e y u (da_dp ely dy) ry
  have room : X.A.units + 1 + min (PyData.depthAll ds) d.depth < cLine := by
    have := Nat.min_le_right (PyData.depthAll ds) d.depth
    omega
  cases it with
  | lst => exact SeqAt.notIn_list_reads r2 r1 hs.ly hd.ly room ⟨.bl _, H, I, rfl, q⟩
  | tup => exact SeqAt.notIn_tuple_reads r2 r1 hs.ly hd.ly room ⟨.bl _, H, I, rfl, q⟩
variable {d e : PyData} {ds : List PyData} {n w m u : Nat}
theorem opD_in (it : Items e ds) (hd : Tame n w d) (hs : TameL m u ds) (hn : n ≤ 64) : OpD K (rInA K false) d e (.bool (ds.any fun z => PyData.eqv z d)) := fun H1 x y hx hy Q q =>
  ⟨d, e, ds, n, w, m, u, hx, hy, it, hd, hs, hn, by rw [if_neg (by decide)]; exact q _ H1 (Ex.refl H1) (.bl _)⟩
theorem opD_ni (it : Items e ds) (hd : Tame n w d) (hs : TameL m u ds) (hn : n ≤ 64) : OpD K (rInA K true) d e (.bool (!(ds.any fun z => PyData.eqv z d))) := fun H1 x y hx hy Q q =>
  ⟨d, e, ds, n, w, m, u, hx, hy, it, hd, hs, hn, by rw [if_pos rfl]; exact q _ H1 (Ex.refl H1) (.bl _)⟩
end
theorem eqv_knd (a b c d : Int) : PyData.eqv (knd a b) (knd c d) = (decide (a = c) && decide (b = d)) := by
  simp only [knd, PyData.eqv, PyData.eqvAll, Bool.and_true]
  rw [show (a == c) = decide (a = c) from rfl, show (b == d) = decide (b = d) from rfl]
theorem eqv_int (a b : Int) : PyData.eqv (.int a) (.int b) = decide (a = b) := by
  simp only [PyData.eqv]
  rfl

/-! ### loops over what a name holds -/
section
variable {K : PySem.W.Frag} {H H' : Hp} {σ : L2.St} {d : PyData} {ds : List PyData} {D : Ends} {u z : TS} {g : TG}
theorem sd_seqV {k : Nat} {v : V} (h : σ[k]? = some (some v)) (dv : Da K H v d) (it : Items d ds) (W : Nat → L2.St → Hp → Prop) (h0 : W 0 σ H) (hl : ∀ i σ' H', W i σ' H' → Da K H' v d)
    (hs : ∀ i e x σ' H', ds[i]? = some e → W i σ' H' → Da K H' x e → g x σ' H' fun σ2 H2 => u { D with nx := W (i + 1), ct := W (i + 1), bk := D.nx } σ2 H2)
    (hd : ∀ σ' H', W ds.length σ' H' → D.nx σ' H') : tFor (iSeq K (tVar k)) g u D σ H := by
  cases it with
  | lst => exact Or.inl ⟨v, h, lst_loop dv W h0 hl hs hd⟩
  | tup =>
    obtain ⟨a, xs, rfl, hx, hA⟩ := dp_tupI dv
    refine Or.inr ⟨_, h, a, rfl, ⟨xs, hx⟩, fun i m σ' H' => m = ds.length - i ∧ i ≤ ds.length ∧ W i σ' H', ⟨ds.length, rfl, Nat.zero_le _, h0⟩, fun i m σ' H' hw => ?_⟩
    obtain ⟨rfl, le, w⟩ := hw
    obtain ⟨a', xs', e1, hx', hA'⟩ := dp_tupI (hl i σ' H' w)
    cases e1
    have len := dps_len hA'
    by_cases lt : i < ds.length
    · have lt' : i < xs'.length := by omega
      refine Or.inr ⟨⟨xs', xs'[i], hx', List.getElem?_eq_getElem lt'⟩, fun σ2 H2 => W (i + 1) σ2 H2, fun σ2 H2 w2 => ⟨ds.length - (i + 1), by omega, rfl, lt, w2⟩, fun x H2 y => ?_⟩
      obtain ⟨rfl, y⟩ := y
      obtain ⟨dd, e2, dx⟩ := dps_got hA' (y xs' hx')
      exact hs i dd x σ' _ e2 w dx
    · have : i = ds.length := by omega
      subst this
      exact Or.inl ⟨⟨xs', hx', by omega⟩, hd σ' H' w⟩
theorem qd_seqV {k : Nat} {v : V} (h : σ[k]? = some (some v)) (dv : Da K H v d) (it : Items d ds) (W : Nat → L2.St → Hp → Prop) (h0 : W 0 σ H) (hl : ∀ i σ' H', W i σ' H' → Da K H' v d)
    (hs : ∀ i e x σ' H', ds[i]? = some e → W i σ' H' → Da K H' x e → g x σ' H' fun σ2 H2 => u { D with nx := W (i + 1), ct := W (i + 1), bk := z D } σ2 H2)
    (hd : ∀ σ' H', W ds.length σ' H' → z D σ' H') : tSeq (tFor (iSeq K (tVar k)) g u) z D σ H :=
  sd_seqV (D := { D with nx := z D }) h dv it W h0 hl hs hd
end
theorem gt_pair {K : PySem.W.Frag} {H : Hp} {σ : L2.St} {a b : PyData} {x : V} {i j N : Nat} {Q : L2.St → Hp → Prop} (hN : N = 2) (h : Da K H x (.tuple [a, b])) (q : ∀ y z, Da K H y a → Da K H z b → Q ((σ.set i (some y)).set j (some z)) H) :
    gTup K N (gCons (gName i) (gCons (gName j) gNil)) x σ H Q := by
  obtain ⟨t, xs, rfl, ht, hx⟩ := dp_tupI h
  cases hx with
  | cons h1 hx =>
    cases hx with
    | cons h2 hx =>
      cases hx
      exact ⟨t, _, rfl, ht, hN.symm, _, _, rfl, _, _, rfl, rfl, q _ _ h1 h2⟩
/-! ### defs that tell a new list -/
def SpN (K : PySem.W.Frag) (R : List PyData → List PyData → Prop) : Sp := fun vs H Q _ => ∃ ds es, DaAll K H vs ds ∧ R ds es ∧ ∀ l xs H2, H l = none → Ex H H2 → H2 l = some (.lst xs) → DaAll K H2 xs es → Q (.ref l) H2
section
variable {K : PySem.W.Frag} {H H' : Hp} {σ : L2.St} {ta tb tc te tl : TE} {tt tu : TT} {tr : TA} {a b c d : PyData} {ds es : List PyData} {D : Ends} {u z ty : TS} {g g1 : TG} {p q : Bool}
theorem en_call {R : List PyData → List PyData → Prop} {E : XK} (h : EvDs K tr σ H ds) (hR : R ds es) : EvN K (tCall (SpN K R) [] E tr) σ H es := fun H1 e Q q =>
  h H1 e _ fun xs H2 e2 dxs => ⟨ds, es, by rw [List.append_nil]; exact dxs, hR, fun l ys H3 nl e3 hl hy => q l ys H3 (fresh_back e2 nl) (e2.trans e3) hl hy⟩
theorem n_to_d {P : Program} {w : World} {mg : Str → Option Value} {base : Heap} {k : Nat} {x : Str} {R : List PyData → List PyData → Prop} {R' : List PyData → PyData → Prop} (c : Cal P w K mg base k x (SpN K R))
    (h : ∀ ds d, R' ds d → ∃ es, d = .list es ∧ R ds es) : Cal P w K mg base k x (SpD K R') := cal_imp c fun vs H Q E r => by
  obtain ⟨ds, d, h1, h2, q⟩ := r
  obtain ⟨es, rfl, hR⟩ := h ds d h2
  exact ⟨ds, es, h1, hR, fun l xs H2 nl e hl hx => q _ H2 e (.lst (SqL.of hl) hx)⟩
theorem evy_n (h : EvN K te σ H ds) : EvY te σ H (fun v H1 => ∃ l xs, v = .ref l ∧ H l = none ∧ Ex H H1 ∧ H1 l = some (.lst xs) ∧ DaAll K H1 xs ds) := fun Q q => h H (Ex.refl H) Q fun l xs H2 nl e hl hx => q _ H2 ⟨l, xs, rfl, nl, e, hl, hx⟩
theorem qd_asgN {k : Nat} (h : EvN K te σ H ds) (n : ∀ l xs H1, H l = none → Ex H H1 → H1 l = some (.lst xs) → DaAll K H1 xs ds → z D (σ.set k (some (.ref l))) H1) : tSeq (tAsg te (gName k)) z D σ H :=
  h H (Ex.refl H) _ fun l xs H1 nl e hl hx => n l xs H1 nl e hl hx
theorem et_lst {H H' : Hp} {l : Addr} {xs : List V} {o : HO} (h : H l = some (.lst xs)) : Et H (upd H l o) := Et.upd h
end
def RKnotsN : List PyData → List PyData → Prop := fun ds es => ∃ a b, Sheet a b ∧ ds = [shd a b] ∧ es = knotsD a b
def RBarsN : List PyData → List PyData → Prop := fun ds es => ∃ a b r c, Sheet a b ∧ ds = [shd a b, knd r c] ∧ es = atD a b r c
theorem knots_d {P : Program} {w : World} {K : PySem.W.Frag} {mg : Str → Option Value} {base : Heap} {k : Nat} {x : Str} (c : Cal P w K mg base k x (SpN K RKnotsN)) : Cal P w K mg base k x (SpD K RKnots) :=
  n_to_d c fun ds d ⟨a, b, sh, e1, e2⟩ => ⟨_, e2, a, b, sh, e1, rfl⟩
theorem bars_d {P : Program} {w : World} {K : PySem.W.Frag} {mg : Str → Option Value} {base : Heap} {k : Nat} {x : Str} (c : Cal P w K mg base k x (SpN K RBarsN)) : Cal P w K mg base k x (SpD K (RBars .list)) :=
  n_to_d c fun ds d ⟨a, b, r, c, sh, e1, e2⟩ => ⟨_, e2, a, b, r, c, sh, e1, rfl⟩
/-- all pairs of some -/
def pairsOf (ds : List PyData) : List PyData := ds.flatMap fun x => ds.map fun y => .tuple [x, y]
def pairsOf' (all ds : List PyData) : List PyData := ds.flatMap fun x => all.map fun y => .tuple [x, y]
theorem pairs_len (all : List PyData) : ∀ ds : List PyData, (pairsOf' all ds).length = ds.length * all.length
  | [] => by simp [pairsOf']
  | d :: ds => by
    have ih := pairs_len all ds
    unfold pairsOf' at ih ⊢
    rw [List.flatMap_cons, List.length_append, ih, List.length_map, List.length_cons, Nat.succ_mul]
    omega
theorem pairs_take (all : List PyData) {ds : List PyData} {i : Nat} {e : PyData} (h : ds[i]? = some e) : pairsOf' all (ds.take (i + 1)) = pairsOf' all (ds.take i) ++ all.map fun y => .tuple [e, y] :=
  fm_take (fun x => all.map fun y => .tuple [x, y]) h
def RPairs : List PyData → List PyData → Prop := fun as es => ∃ d ds, Items d ds ∧ flats ds = true ∧ ds.length ≤ 100 ∧ as = [d] ∧ es = pairsOf ds

/-! ### opposite bars -/
abbrev Pt := Int × Int
def pk (p : Pt) : PyData := knd p.1 p.2
/-- the two ends of the bar in the field at r, c -/
def endsP (r c : Int) : Pt × Pt := if (r + c) % 2 = 0 then ((r, c), (r + 1, c + 1)) else ((r, c + 1), (r + 1, c))
theorem endsD_P (b bar : Int) : endsD b bar = .tuple [pk (endsP (bar / b) (bar % b)).1, pk (endsP (bar / b) (bar % b)).2] := by
  unfold endsD endsP
  by_cases h : (bar / b + bar % b) % 2 = 0
  · rw [if_pos (decide_eq_true h), if_pos h]
    rfl
  · rw [if_neg (by rw [decide_eq_false h]; decide), if_neg h]
    rfl
theorem ends_ne (r c : Int) : (endsP r c).1 ≠ (endsP r c).2 := by
  unfold endsP
  split <;> exact fun h => by
    have := congrArg Prod.fst h
    simp at this
    omega
/-- by the program: of the lesser one and the greater one -/
def oppP (e f : Pt × Pt) : Bool := decide (e.2 = f.1) && decide (e.2.2 - e.1.2 = f.2.2 - f.1.2)
/-- the end that is not k -/
def farP (k : Pt) (e : Pt × Pt) : Pt := if e.1 = k then e.2 else e.1
def hitP (k : Pt) (e f : Pt × Pt) : Bool := decide (f.1 = k ∨ f.2 = k) && (decide ((farP k e).1 + (farP k f).1 = 2 * k.1) && decide ((farP k e).2 + (farP k f).2 = 2 * k.2))
/-- by the law: some end of the one -/
def oppL (e f : Pt × Pt) : Bool := hitP e.1 e f || hitP e.2 e f
theorem opp_small : ((List.range 8).all fun r => (List.range 8).all fun c => (List.range 8).all fun s => (List.range 8).all fun d =>
    !(decide (r < s) || (decide (r = s) && decide (c < d))) || ((oppP (endsP r c) (endsP s d) == oppL (endsP r c) (endsP s d)) && (oppP (endsP r c) (endsP s d) == oppL (endsP s d) (endsP r c)))) = true := by decide +kernel
/-- the ends of a bar by its number -/
def endsB (b bar : Int) : Pt × Pt := endsP (bar / b) (bar % b)
theorem opp_lt {r c s d : Int} (h1 : 0 ≤ r ∧ r < 8) (h2 : 0 ≤ c ∧ c < 8) (h3 : 0 ≤ s ∧ s < 8) (h4 : 0 ≤ d ∧ d < 8) (lt : r < s ∨ (r = s ∧ c < d)) :
    oppP (endsP r c) (endsP s d) = oppL (endsP r c) (endsP s d) ∧ oppP (endsP r c) (endsP s d) = oppL (endsP s d) (endsP r c) := by
  obtain ⟨r, rfl⟩ := Int.eq_ofNat_of_zero_le h1.1
  obtain ⟨c, rfl⟩ := Int.eq_ofNat_of_zero_le h2.1
  obtain ⟨s, rfl⟩ := Int.eq_ofNat_of_zero_le h3.1
  obtain ⟨d, rfl⟩ := Int.eq_ofNat_of_zero_le h4.1
  have k1 := List.all_eq_true.mp opp_small r (List.mem_range.mpr (by omega))
  have k2 := List.all_eq_true.mp k1 c (List.mem_range.mpr (by omega))
  have k3 := List.all_eq_true.mp k2 s (List.mem_range.mpr (by omega))
  have k4 := List.all_eq_true.mp k3 d (List.mem_range.mpr (by omega))
  have y : (decide (r < s) || (decide (r = s) && decide (c < d))) = true := by
    rcases lt with l | ⟨l, l'⟩
    · rw [decide_eq_true (show r < s by omega)]
      rfl
    · rw [decide_eq_true (show r = s by omega), decide_eq_true (show c < d by omega)]
      simp
  rw [y] at k4
  simp only [Bool.not_true, Bool.false_or, Bool.and_eq_true, beq_iff_eq] at k4
  exact k4
theorem bar_place {a b x : Int} (sh : Sheet a b) (h0 : 0 ≤ x) (h1 : x < a * b) : (0 ≤ x / b ∧ x / b < 8) ∧ (0 ≤ x % b ∧ x % b < 8) := by
  have s2 := sh.d8
  have s3 := sh.w1
  have s4 := sh.w8
  have q := Int.ediv_lt_of_lt_mul (show 0 < b by omega) h1
  have r0 := Int.emod_nonneg x (show b ≠ 0 by omega)
  have r1 := Int.emod_lt_of_pos x (show 0 < b by omega)
  exact ⟨⟨Int.ediv_nonneg h0 (by omega), by omega⟩, ⟨r0, by omega⟩⟩
theorem bar_less {b x y : Int} (hb : 0 < b) (h : x < y) : x / b < y / b ∨ (x / b = y / b ∧ x % b < y % b) := by
  have le : x / b ≤ y / b := Int.ediv_le_ediv hb (by omega)
  have e1 := Int.mul_ediv_add_emod x b
  have e2 := Int.mul_ediv_add_emod y b
  by_cases z : x / b = y / b
  · refine Or.inr ⟨z, ?_⟩
    rw [z] at e1
    omega
  · exact Or.inl (by omega)
theorem opp_bars {a b x y : Int} (sh : Sheet a b) (x0 : 0 ≤ x) (x1 : x < a * b) (y0 : 0 ≤ y) (y1 : y < a * b) (ne : x ≠ y) : oppP (endsB b (imin x y)) (endsB b (imax x y)) = oppL (endsB b x) (endsB b y) := by
  have s3 := sh.w1
  obtain ⟨p1, p2⟩ := bar_place sh x0 x1
  obtain ⟨q1, q2⟩ := bar_place sh y0 y1
  unfold imin imax endsB
  by_cases lt : y < x
  · rw [if_pos lt, if_neg (by omega)]
    exact (opp_lt q1 q2 p1 p2 (bar_less (by omega) lt)).2
  · rw [if_neg lt, if_pos (by omega)]
    exact (opp_lt p1 p2 q1 q2 (bar_less (by omega) (by omega))).1
def ROppP : List PyData → PyData → Prop := fun ds d => ∃ a b x y, Sheet a b ∧ 0 ≤ x ∧ x < a * b ∧ 0 ≤ y ∧ y < a * b ∧ ds = [shd a b, .int x, .int y] ∧ d = .bool (oppP (endsB b (imin x y)) (endsB b (imax x y)))
def ROppL : List PyData → PyData → Prop := fun ds d => ∃ a b x y, Sheet a b ∧ 0 ≤ x ∧ x < a * b ∧ 0 ≤ y ∧ y < a * b ∧ ds = [shd a b, .int x, .int y] ∧ d = .bool (oppL (endsB b x) (endsB b y))
theorem eqv_pk (p q : Pt) : PyData.eqv (pk p) (pk q) = decide (p = q) := by
  unfold pk
  rw [eqv_knd]
  by_cases h : p = q
  · subst h
    simp
  · rw [decide_eq_false h]
    by_cases h1 : p.1 = q.1
    · have h2 : ¬ p.2 = q.2 := fun h2 => h (Prod.ext h1 h2)
      rw [decide_eq_false h2, Bool.and_false]
    · rw [decide_eq_false h1, Bool.false_and]
theorem tame_endsB {a b x : Int} (sh : Sheet a b) (h0 : 0 ≤ x) (h1 : x < a * b) : Tame 1 50 (pk (endsB b x).1) ∧ Tame 1 50 (pk (endsB b x).2) := by
  obtain ⟨⟨r0, r8⟩, ⟨c0, c8⟩⟩ := bar_place sh h0 h1
  unfold endsB endsP pk
  split <;> exact ⟨tame_knd (by simp only; omega) (by simp only; omega), tame_knd (by simp only; omega) (by simp only; omega)⟩
end Mm

set_option Elab.async false
set_option linter.all false
set_option maxRecDepth 100000
set_option maxHeartbeats 4000000
namespace Mm
open PySem PySem.Spec PyProof.Rows L2 Evl

/-! ### set(t), t a tuple of tuples of ints -/
abbrev oSet (w : World) : Obj := { cls := .type "set", dict := none, data := .set #[] 0 (.fresh 0 0 (!w.params.followText "set-order")) }
section
variable {P : Program} {w : World} {A : Around} {E : Value → Shared → Prop} {s : Shared}
theorem set_of_tuple {l : Addr} {items : Array Value} (ks : List (Addr × List Int)) {Q : Value → Shared → Prop} (calm : A.handled = none) (tup : s.heap.IsTuple l items)
    (refs : items.toList = ks.map fun p => Value.ref p.1) (intt : ∀ p ∈ ks, IsT P w s.heap p.2 p.1) (few : ks.length < 64) (room : A.units + 3 < cLine)
    (fin : ∀ (g : Heap) (tk : Nat) L es ep t, SetTR P w g s.heap.objs.size L es ep t → L2.Got ks ks.length L → (∀ b o, s.heap.get? b = some o → g.get? b = some o) → Q (.ref s.heap.objs.size) { s with heap := g, toks := tk }) :
    wpAny (model P w) A (call (.type "set") [.ref l]) Q E s := by
  have sz : items.size = ks.length := by
    have z := congrArg List.length refs
    rwa [Array.length_toList, List.length_map] at z
  obtain ⟨cM, tM, eM⟩ := F.called_set.mro
  have mM := F.called_set.made
  have bM := F.called_set.sub
  apply wpAny_call
  apply codeAny_of_tree
  show wpAny _ _ (callAny (.type "set") _) _ _ _
  refine wpAny_pure ⟨Code.quiet_builtin _ (by decide +kernel), codeAny_builtin F.entry_type_call ?_⟩
  rw [Around.under_plain (weight_type_call_type "set" [.ref l] []) rfl]
  have nT := F.called_set.notType
  have cC := F.called_set.canCreate
  have tC1 := F.typeCall_set_1 (.ref l)
  repeat (any_goals (first | assumption | wp_step))
  refine codeAny_mono (code_set_led1 (.ref l) (E := E) (Q₁ := fun ob s1 => ob = .ref s.heap.objs.size ∧ s1 = { s with heap := s.heap.push (oSet w) }) ⟨rfl, rfl⟩) fun r1 s1 hr1 => ?_
  match r1, hr1 with
  | .error e, z => exact z
  | .ok .next, z => exact z.elim
  | .ok .brk, z => exact z.elim
  | .ok .cont, z => exact z.elim
  | .ok (.ret ob), ⟨e1, e2⟩ =>
    subst e1
    subst e2
    have gS : (s.heap.push (oSet w)).get? s.heap.objs.size = some (oSet w) := Heap.get?_push_size _ rfl
    have tS : Shared.TypeIs { s with heap := s.heap.push (oSet w) } (.ref s.heap.objs.size) "set" := ⟨_, gS, rfl⟩
    have iL := F.called_set.init.lookup
    have iB := F.called_set.init.bind (.ref s.heap.objs.size)
    repeat (any_goals (first | assumption | wp_step))
    refine codeAny_mono (codeAny_call_builtin (R := wants (fun r s2 => r = .none ∧ ∃ g tk L es ep t, s2 = { s with heap := g, toks := tk } ∧ SetTR P w g s.heap.objs.size L es ep t ∧ L2.Got ks ks.length L ∧
      (∀ b o, s.heap.get? b = some o → g.get? b = some o)) E) F.called_set.init.plain F.entry_set_init (check_set_init_1 tS ?_)) fun r2 s2 hr2 => ?_
    · obtain ⟨oT, gT, cT, nT2, dT⟩ := tup
      obtain ⟨u1, u2, u3, u4⟩ := oT
      simp only at cT dT
      subst cT
      subst dT
      have gT2 : (s.heap.push (oSet w)).get? l = some { cls := .type "tuple", dict := u2, data := .seq items nT2, slots := u4 } := Heap.get?_push_of_some _ gT
      have s1 := F.sub_tuple_set
      have s2 := F.sub_tuple_frozenset
      have ne : (Value.type "tuple" == Value.type "dict") = false := by decide
      have tup1 : (s.heap.push (oSet w)).IsTuple l items := ⟨_, gT2, rfl, nT2, rfl⟩
      unfold Builtin.«set.__init__» noKeywords Builtin.Frozenset.updateFrom
      generalize ePI : pyIter = PI
      wp_walk
      subst ePI
      apply wpAny_pyIter_tuple tup1
      apply wpAny_bind
      apply wpAny_runValue
      have lt := Heap.lt_size gT
      have calm3 : A.in1.in1.in1.handled = none := by simp [calm]
      have sz1 : (s.heap.push (oSet w)).objs.size = s.heap.objs.size + 1 := Heap.size_push ..
      have neI : l ≠ (s.heap.push (oSet w)).objs.size := by
        rw [Heap.size_push]
        exact fun z => Nat.lt_irrefl _ (z ▸ (Nat.lt_succ_of_lt lt))
      have notIn : s.heap.objs.size ∉ [(s.heap.push (oSet w)).objs.size, l] := by
        rw [Heap.size_push]
        simp only [List.mem_cons, List.not_mem_nil, or_false, not_or]
        exact ⟨fun z => Nat.lt_irrefl _ (Nat.lt_of_lt_of_eq (Nat.lt_succ_self _) z.symm), fun z => Nat.lt_irrefl _ (Nat.lt_of_le_of_lt (Nat.le_of_eq z) lt)⟩
      have vals : ∀ (i : Nat) (v : Value), items[i]? = some v → ∃ p, ks[i]? = some p ∧ v = .ref p.1 := by
        intro i v hv
        have z : items.toList[i]? = some v := by
          rw [Array.getElem?_toList]
          exact hv
        rw [refs, List.getElem?_map] at z
        obtain ⟨p, hp, e⟩ := Option.map_eq_some_iff.mp z
        exact ⟨p, hp, e.symm⟩
      have off : ∀ b, s.heap.objs.size ≤ b → s.heap.get? b = none := by
        intro b hb
        match z : s.heap.get? b with
        | none => rfl
        | some o => exact (Nat.lt_irrefl _ (Nat.lt_of_le_of_lt hb (Heap.lt_size z))).elim
      refine set_update_tups ((Walks.tuple calm3 _ l neI items).toS) s.heap.objs.size notIn ks sz few vals s.heap intt (off _ (Nat.le_refl _))
        (fun b hb => off b (by rw [List.mem_singleton.mp hb, Heap.size_push]; omega)) room (items.size - 0) 0 _ (by omega) (Nat.zero_le _)
        ⟨⟨_, Heap.get?_push_size _ rfl, rfl, rfl⟩, (tup1.push _)⟩ (fun b o z => Heap.get?_push_of_some _ (Heap.get?_push_of_some _ z)) ?start ?stop
      case start =>
        exact ⟨[], #[], 0, _, setTR_fresh (Heap.get?_push_of_some _ gS), L2.Got.zero ks⟩
      case stop =>
        intro s3 L es ep t mv hS g hkp
        obtain ⟨h3, g3, d3, t3, o3⟩ := s3
        obtain rfl : g3 = s.gens := mv.gens
        obtain rfl : d3 = s.drawn := mv.drawn
        obtain rfl : o3 = s.os := mv.os
        show wpAny _ _ _ _ _ _
        apply wpAny_pure
        show wpAny _ _ (ret Value.none) _ _ _
        rw [sz] at g
        exact wpAny_pure ⟨rfl, h3, t3, L, es, ep, t, rfl, hS, g, hkp⟩
    · match r2, hr2 with
      | .error e, z => exact z
      | .ok .next, z => exact z.elim
      | .ok .brk, z => exact z.elim
      | .ok .cont, z => exact z.elim
      | .ok (.ret r), ⟨e3, g, tk, L, es, ep, t, e4, hS, gg, kp⟩ =>
        subst e3
        subst e4
        repeat (any_goals (first | assumption | wp_step))
        exact fin _ _ _ _ _ _ hS gg kp
end
section
variable {X : Cx}
def rSetTup (K : PySem.W.Frag) (P : Program) (w : World) : List V → Hp → VK → Prop := fun xs H Q => ∃ (l : Addr) (ks : List (Addr × List Int)), xs = [V.ref l] ∧ SqT K H l (ks.map fun p => V.ref p.1) ∧ (∀ p ∈ ks, SqT K H p.1 (p.2.map V.int)) ∧ ks.length < 64 ∧
  ∀ a L, H a = none → (∀ p ∈ L, p ∈ ks) → (∀ p ∈ ks, p.2 ∈ L.map (·.2)) → Q (.ref a) (upd H a (SetTO P w a L))
theorem cr_setTup (calm : X.calm = true) (hu : X.A.units + 64 < cLine) : CallR X (.type "set") (rSetTup X.K X.prog X.w) := by
  intro pins s σ H xs us Q I r h
  obtain ⟨l, ks, rfl, hl, hk, hf, q⟩ := h
  rw [Vals.ref1 r]
  obtain ⟨its, rv, ht, hz⟩ := I.tuple hl
  have nw : H s.heap.objs.size = none := I.hok.fresh (Nat.le_refl _)
  refine set_of_tuple (P := X.prog) (w := X.w) ks (I.ok.hd calm) ht (by simpa using refs_of_vals rv) (fun p hp => I.isT (hk p hp)) hf (by omega) fun g tk L es ep t R gt kp => ?_
  refine ⟨.ref s.heap.objs.size, _, I.laid (t' := tk) kp (Nat.le_refl _) (setTO_new R.t0), rfl, q _ L nw (fun p hp => List.mem_of_mem_take (gt.sub p hp)) fun p hp => gt.all p ?_⟩
  rw [List.take_length]
  exact hp
end
end Mm

set_option Elab.async false
set_option linter.all false
set_option maxRecDepth 100000
set_option maxHeartbeats 4000000
namespace Mm
open PySem PySem.Spec PyProof.Rows L2 Evl

theorem same_sorted : ∀ (a b : List Int), a.Pairwise (· < ·) → b.Pairwise (· < ·) → (∀ x, x ∈ a ↔ x ∈ b) → a = b
  | [], [], _, _, _ => rfl
  | [], y :: b, _, _, h => absurd ((h y).mpr List.mem_cons_self) (fun z => nomatch z)
  | x :: a, [], _, _, h => absurd ((h x).mp List.mem_cons_self) (fun z => nomatch z)
  | x :: a, y :: b, ha, hb, h => by
    obtain ⟨a1, a2⟩ := List.pairwise_cons.mp ha
    obtain ⟨b1, b2⟩ := List.pairwise_cons.mp hb
    have e : x = y := by
      rcases List.mem_cons.mp ((h x).mp List.mem_cons_self) with z | z
      · exact z
      · rcases List.mem_cons.mp ((h y).mpr List.mem_cons_self) with z' | z'
        · exact z'.symm
        · have := b1 x z
          have := a1 y z'
          omega
    subst e
    refine congrArg (x :: ·) (same_sorted a b a2 b2 fun z => ⟨fun hz => ?_, fun hz => ?_⟩)
    · rcases List.mem_cons.mp ((h z).mp (List.mem_cons_of_mem _ hz)) with q | q
      · have := a1 z hz
        omega
      · exact q
    · rcases List.mem_cons.mp ((h z).mpr (List.mem_cons_of_mem _ hz)) with q | q
      · have := b1 z hz
        omega
      · exact q
/-- places below 64 -/
def InP (p : Pt) : Prop := (0 ≤ p.1 ∧ p.1 < 64) ∧ (0 ≤ p.2 ∧ p.2 < 64)
def cdP (p : Pt) : Int := p.1 * 64 + p.2
def toL (p : Pt) : List Int := [p.1, p.2]
def dcL (n : Int) : List Int := [n / 64, n % 64]
theorem dc_cd {p : Pt} (h : InP p) : dcL (cdP p) = toL p := by
  obtain ⟨⟨h1, h2⟩, h3, h4⟩ := h
  unfold dcL cdP toL
  have e1 : (p.1 * 64 + p.2) / 64 = p.1 := by omega
  have e2 : (p.1 * 64 + p.2) % 64 = p.2 := by omega
  rw [e1, e2]
theorem code_toL (p : Pt) : TS.code 64 (toL p) = cdP p := code_pair p.1 p.2
section
variable {K : PySem.W.Frag} {H H' : Hp}
theorem ks_of : ∀ {ps : List Pt} {xs : List V}, DaAll K H xs (ps.map pk) → ∃ ks : List (Addr × List Int), xs = ks.map (fun p => V.ref p.1) ∧ (∀ p ∈ ks, SqT K H p.1 (p.2.map V.int)) ∧ ks.map (·.2) = ps.map toL
  | [], _, .nil => ⟨[], rfl, (fun _ h => nomatch h), rfl⟩
  | p :: ps, _, .cons h r => by
    obtain ⟨ks, rfl, h2, h3⟩ := ks_of r
    obtain ⟨t, ys, rfl, ht, hy⟩ := dp_tupI h
    cases hy with
    | cons a hy =>
      cases hy with
      | cons b hy =>
        cases hy
        cases dp_intI a
        cases dp_intI b
        refine ⟨(t, toL p) :: ks, rfl, fun q hq => ?_, by rw [List.map_cons, h3]; rfl⟩
        rcases List.mem_cons.mp hq with z | z
        · rw [z]
          exact ht
        · exact h2 q z
theorem dps_of_ks : ∀ (L : List (Addr × List Int)) (ps : List Pt), (∀ p ∈ L, SqT K H p.1 (p.2.map V.int)) → L.map (·.2) = ps.map toL → DaAll K H (L.map fun q => V.ref q.1) (ps.map pk)
  | [], [], _, _ => .nil
  | [], _ :: _, _, h => nomatch h
  | _ :: _, [], _, h => nomatch h
  | q :: L, p :: ps, h1, h2 => by
    obtain ⟨e1, e2⟩ := List.cons.inj h2
    refine .cons (.tup (h1 q List.mem_cons_self) ?_) (dps_of_ks L ps (fun x hx => h1 x (List.mem_cons_of_mem _ hx)) e2)
    have e1 : q.2 = toL p := e1
    rw [e1]
    exact .cons (.int _) (.cons (.int _) .nil)
def rSorted (K : PySem.W.Frag) (P : Program) (w : World) := rSortedT K P w
theorem en_sortset {P : Program} {w : World} {σ : L2.St} {te : TE} {ps : List Pt} (h : EvD K te σ H (.tuple (ps.map pk))) (hp : ∀ p ∈ ps, InP p) (hl : ps.length < 64) (hs : (ps.map cdP).Pairwise (· < ·)) :
    EvN K (tCB (rSortedT K P w) (tCons (tCB (rSetTup K P w) (tCons te tNil)) tNil)) σ H (ps.map pk) := fun H1 e Q q =>
  h H1 e _ fun v H2 e2 dv => by
    obtain ⟨t, xs, rfl, ht, hA⟩ := dp_tupI dv
    obtain ⟨ks, rfl, hk, hm⟩ := ks_of hA
    have kl : ks.length = ps.length := by
      have := congrArg List.length hm
      rwa [List.length_map, List.length_map] at this
    refine ⟨t, ks, rfl, ht, hk, by omega, fun a L nl sub all => ?_⟩
    have eN : Ex H2 (upd H2 a (SetTO P w a L)) := Ex.new nl
    have mem2 : ∀ x, x ∈ L.map (·.2) ↔ x ∈ ps.map toL := fun x => ⟨fun hx => by
      obtain ⟨p, hp', rfl⟩ := List.mem_map.mp hx
      rw [← hm]
      exact List.mem_map.mpr ⟨p, sub p hp', rfl⟩, fun hx => by
      rw [← hm] at hx
      obtain ⟨p, hp', rfl⟩ := List.mem_map.mp hx
      exact all p hp'⟩
    have inL : ∀ p ∈ L, ∃ r, InP r ∧ p.2 = toL r := fun p hp' => by
      obtain ⟨r, hr, e⟩ := List.mem_map.mp ((mem2 p.2).mp (List.mem_map.mpr ⟨p, hp', rfl⟩))
      exact ⟨r, hp r hr, e.symm⟩
    refine ⟨a, L, 2, 64, rfl, upd_same, fun p hp' => ex_t eN (hk p (sub p hp')), by decide, fun p hp' => ?_, fun L' l pm nd few pw nl2 => ?_⟩
    · obtain ⟨r, hr, e⟩ := inL p hp'
      rw [e]
      refine ⟨rfl, fun x hx => ?_⟩
      obtain ⟨⟨h1, h2⟩, h3, h4⟩ := hr
      unfold toL at hx
      simp only [List.mem_cons, List.mem_nil_iff, or_false] at hx
      rcases hx with rfl | rfl
      · exact ⟨h1, h2⟩
      · exact ⟨h3, h4⟩
    · have mem' : ∀ x, x ∈ L'.map (·.2) ↔ x ∈ ps.map toL := fun x => (pm.map (·.2)).mem_iff.trans (mem2 x)
      have inL' : ∀ p ∈ L', ∃ r, InP r ∧ p.2 = toL r := fun p hp' => inL p (pm.mem_iff.mp hp')
      have dec : ∀ p ∈ L', dcL (TS.code 64 p.2) = p.2 := fun p hp' => by
        obtain ⟨r, hr, e⟩ := inL' p hp'
        rw [e, code_toL, dc_cd hr]
      have srt : (L'.map fun p => TS.code 64 p.2).Pairwise (· < ·) := by
        rw [List.pairwise_map]
        have both : L'.Pairwise (fun p r => TS.code 64 p.2 ≤ TS.code 64 r.2 ∧ p.2 ≠ r.2) := List.Pairwise.and pw (List.pairwise_map.mp nd)
        refine List.Pairwise.imp_of_mem (fun {p r} hp' hr' z => ?_) both
        have ne : TS.code 64 p.2 ≠ TS.code 64 r.2 := fun q => z.2 (by rw [← dec p hp', q, dec r hr'])
        have := z.1
        omega
      have eq : (L'.map fun p => TS.code 64 p.2) = ps.map cdP := by
        refine same_sorted _ _ srt hs fun x => ⟨fun hx => ?_, fun hx => ?_⟩
        · obtain ⟨p, hp', rfl⟩ := List.mem_map.mp hx
          obtain ⟨r, hr, e⟩ := List.mem_map.mp ((mem' p.2).mp (List.mem_map.mpr ⟨p, hp', rfl⟩))
          exact List.mem_map.mpr ⟨r, hr, by rw [← e, code_toL]⟩
        · obtain ⟨r, hr, rfl⟩ := List.mem_map.mp hx
          obtain ⟨p, hp', e⟩ := List.mem_map.mp ((mem' (toL r)).mpr (List.mem_map.mpr ⟨r, hr, rfl⟩))
          exact List.mem_map.mpr ⟨p, hp', by rw [e, code_toL]⟩
      have e3 : L'.map (·.2) = ps.map toL := by
        have a1 : L'.map (·.2) = (L'.map fun p => TS.code 64 p.2).map dcL := by
          rw [List.map_map]
          exact List.map_congr_left fun p hp' => (dec p hp').symm
        rw [a1, eq, List.map_map]
        exact List.map_congr_left fun p hp' => dc_cd (hp p hp')
      have eN2 : Ex (upd H2 a (SetTO P w a L)) (upd (upd H2 a (SetTO P w a L)) l (.lst (L'.map fun q => V.ref q.1))) := Ex.new nl2
      refine q l _ _ (fresh_back (e2.trans eN) nl2) ((e2.trans eN).trans eN2) upd_same (dps_of_ks L' ps (fun p hp' => ex_t (eN.trans eN2) (hk p (sub p (pm.mem_iff.mp hp')))) e3)
end
section
variable {X : Cx} {K : PySem.W.Frag}
theorem fr_sortedK {P : Program} {w : World} (h : X.K = K) (hP : X.prog = P) (hw : X.w = w) (hc : X.calm = true) : CallR X (.builtin "sorted") (rSortedT K P w) := by
  subst h hP hw
  exact cr_sortedT hc
theorem fr_setTupK {P : Program} {w : World} {k : Nat} (h : X.K = K) (hP : X.prog = P) (hw : X.w = w) (hc : X.calm = true) (hr : Room k X.A) : CallR X (.type "set") (rSetTup K P w) := by
  subst h hP hw
  exact cr_setTup hc hr.units
end
end Mm

set_option Elab.async false
set_option linter.all false
set_option maxRecDepth 100000
set_option maxHeartbeats 4000000
namespace Mm
open PySem PySem.Spec PyProof.Rows L2 Evl

/-! ### the sheets, all of them -/
def knotsR (b : Nat) (r : Nat) : List Pt := ((List.range (b + 1)).filter fun c : Nat => decide (((r : Int) + (c : Int)) % 2 = 0)).map fun c : Nat => ((r : Int), (c : Int))
def knotsP (a b : Nat) : List Pt := (List.range (a + 1)).flatMap (knotsR b)
theorem knotsTo_P (b : Nat) : ∀ n : Nat, knotsTo (b : Int) n = ((List.range n).flatMap (knotsR b)).map pk
  | 0 => rfl
  | n + 1 => by
    rw [knotsTo, knotsTo_P b n, List.range_succ, List.flatMap_append, List.map_append]
    congr 1
    rw [List.flatMap_cons, List.flatMap_nil, List.append_nil]
    unfold knotsR upto
    rw [show ((b : Int) + 1).toNat = b + 1 by omega, List.filter_map, List.map_map, List.map_map]
    rfl
theorem knotsD_P (a b : Nat) : knotsD (a : Int) (b : Int) = (knotsP a b).map pk := by
  unfold knotsD knotsP
  rw [show ((a : Int) + 1).toNat = a + 1 by omega]
  exact knotsTo_P b (a + 1)
def cellZ (a b y x : Int) : List Int := if fieldIn a b y x = true then [y * b + x] else []
def atZ (a b r c : Int) : List Int := (cellZ a b (r - 1) (c - 1) ++ cellZ a b (r - 1) c) ++ (cellZ a b r (c - 1) ++ cellZ a b r c)
theorem cellD_Z (a b y x : Int) : cellD a b y x = (cellZ a b y x).map .int := by
  unfold cellD cellZ
  split <;> rfl
theorem atD_Z (a b r c : Int) : atD a b r c = (atZ a b r c).map .int := by
  unfold atD rowD atZ
  simp only [cellD_Z, List.map_append]
def incr : List Int → Bool
  | x :: y :: r => decide (x < y) && incr (y :: r)
  | _ => true
def chkBar (a b : Nat) (i : Nat) : Bool :=
  let e := endsB b i
  decide (e.2.1 = e.1.1 + 1) && (decide (e.1 ∈ knotsP a b) && decide (e.2 ∈ knotsP a b)) && (decide (iabs (e.1.1 - e.2.1) = 1) && decide (iabs (e.1.2 - e.2.2) = 1) && decide (imin e.1.1 e.2.1 * b + imin e.1.2 e.2.2 = i)) &&
    (decide ((i : Int) ∈ atZ a b e.1.1 e.1.2) && decide ((i : Int) ∈ atZ a b e.2.1 e.2.2))
def pairsZ (z : List Int) : List (Int × Int) := z.flatMap fun x => z.map fun y => (x, y)
def oppN (b : Int) (p : Int × Int) : Bool := oppP (endsB b (imin p.1 p.2)) (endsB b (imax p.1 p.2))
def chkKnot (a b : Nat) (k : Pt) : Bool :=
  let z := atZ a b k.1 k.2
  (z.all fun x => decide ((endsB b x).1 = k ∨ (endsB b x).2 = k)) && (decide (z.length = 1) || decide (z.length = 2) || decide (z.length = 4)) &&
    decide ((((pairsZ z).filter fun p => decide (p.1 < p.2)).filter (oppN b)).length = if z.length = 4 then 2 else 0)
def chk (a b : Nat) : Bool :=
  incr ((knotsP a b).map cdP) && decide ((knotsP a b).length < 64) && ((List.range (a * b)).all (chkBar a b)) && ((knotsP a b).all (chkKnot a b)) && decide (((knotsP a b).map fun k => (atZ a b k.1 k.2).length).sum = 2 * a * b)
theorem chk_1 : ((List.range 8).all fun a => chk (a + 1) 8) = true := by decide +kernel
end Mm

set_option Elab.async false
set_option linter.all false
set_option maxRecDepth 100000
set_option maxHeartbeats 4000000
namespace Mm
open PySem PySem.Spec PyProof.Rows L2 Evl

theorem chk_all : ((List.range 8).all fun a => (List.range 8).all fun b => chk (a + 1) (b + 1)) = true := by decide +kernel
theorem chk_of {a b : Int} (sh : Sheet a b) : ∃ m n : Nat, a = (m : Int) ∧ b = (n : Int) ∧ chk m n = true := by
  have s1 := sh.d1
  have s2 := sh.d8
  have s3 := sh.w1
  have s4 := sh.w8
  refine ⟨a.toNat, b.toNat, by omega, by omega, ?_⟩
  have k1 := List.all_eq_true.mp chk_all (a.toNat - 1) (List.mem_range.mpr (by omega))
  have k2 := List.all_eq_true.mp k1 (b.toNat - 1) (List.mem_range.mpr (by omega))
  rwa [show a.toNat - 1 + 1 = a.toNat by omega, show b.toNat - 1 + 1 = b.toNat by omega] at k2
theorem incr_pw : ∀ l : List Int, incr l = true → l.Pairwise (· < ·)
  | [], _ => .nil
  | [x], _ => List.pairwise_singleton _ _
  | x :: y :: r, h => by
    have h' : decide (x < y) = true ∧ incr (y :: r) = true := by
      unfold incr at h
      exact Bool.and_eq_true_iff.mp h
    have ih := incr_pw (y :: r) h'.2
    have lt := of_decide_eq_true h'.1
    refine List.pairwise_cons.mpr ⟨fun z hz => ?_, ih⟩
    rcases List.mem_cons.mp hz with e | e
    · rw [e]
      exact lt
    · have := (List.pairwise_cons.mp ih).1 z e
      omega

/-! ### isinstance -/
def tyD : PyData → String
  | .none => "NoneType"
  | .bool _ => "bool"
  | .int _ => "int"
  | .str _ => "str"
  | .list _ => "list"
  | .tuple _ => "tuple"
  | .dict _ => "dict"
theorem tyx_of {K : PySem.W.Frag} {H : Hp} {v : V} {d : PyData} (h : Da K H v d) : TyX K H v (.type (tyD d)) := by
  cases h with
  | non => exact .base .non
  | bl b => exact .base (.bl b)
  | int i => exact .base (.int i)
  | str x => exact .base (.str x)
  | lst h _ =>
    rcases h with (h | ⟨o, h⟩) | ⟨o, its, n, h, c, _⟩
    · exact .base (.lst h)
    · exact .base (.frz h)
    · exact .kList h c
  | tup h _ =>
    rcases h with (h | ⟨o, h⟩) | ⟨o, its, n, h, c, _⟩
    · exact .base (.tup h)
    · exact .fTuple h
    · exact .kTuple h c
  | dic h _ => exact .base (.dK h)
/-- isinstance(x, int) and so on -/
def isD (T : String) (d : PyData) : Bool := match d with
  | .bool _ => T == "bool" || T == "int"
  | _ => T == tyD d
def isTys : List String := ["int", "bool", "tuple", "list", "str", "dict"]
theorem kit_all : (isTys.all fun T => ["NoneType", "bool", "int", "str", "list", "tuple", "dict"].all fun t => kitB t T == some (if t == "bool" then T == "bool" || T == "int" else T == t)) = true := by decide +kernel
theorem kit_isD {K : PySem.W.Frag} {T : String} (hT : T ∈ isTys) (d : PyData) : PySem.W.kitOne K (.type (tyD d)) (.type T) = some (isD T d) := by
  have k := List.all_eq_true.mp kit_all T hT
  have kk : ∀ t ∈ ["NoneType", "bool", "int", "str", "list", "tuple", "dict"], kitB t T = some (if t == "bool" then T == "bool" || T == "int" else T == t) := fun t ht => beq_iff_eq.mp (List.all_eq_true.mp k t ht)
  refine kit_ty ?_
  cases d <;> (simp only [tyD, isD]; rw [kk _ (by simp)]; rfl)
section
variable {X : Cx} {K : PySem.W.Frag} {H : Hp} {σ : L2.St} {te : TE} {d : PyData} {T : String}
theorem fr_isiK (h : X.K = K) : CallR X (.builtin "isinstance") (rIsi K) := h ▸ call_isi
theorem ed_isi (h : EvD K te σ H d) (hT : T ∈ isTys) : EvD K (tCB (rIsi K) (tCons te (tCons (tC (.ty T)) tNil))) σ H (.bool (isD T d)) := fun H1 e Q q =>
  h H1 e _ fun v H2 e2 dv => ⟨v, .ty T, _, _, isD T d, rfl, .ty T, tyx_of dv, kit_isD hT d, q _ H2 e2 (.bl _)⟩
/-- is None, is not None -/
def isN : PyData → Bool
  | .none => true
  | _ => false
theorem op_isA : OpR X (compareOp .Is) rIsN := op_isN
theorem op_nnA : OpR X (compareOp .IsNot) rNotN := op_notN
theorem isN_of {v : V} (h : Da K H v d) : decide (v = .non) = isN d := by
  cases h <;> simp [isN]
theorem opD_is : OpD K rIsN d .none (.bool (isN d)) := fun H1 x y hx hy Q q => ⟨dp_noneI hy, by rw [isN_of hx]; exact q _ H1 (Ex.refl H1) (.bl _)⟩
theorem opD_nn : OpD K rNotN d .none (.bool (!isN d)) := fun H1 x y hx hy Q q => ⟨dp_noneI hy, by rw [isN_of hx]; exact q _ H1 (Ex.refl H1) (.bl _)⟩
end
/-- an int within bounds -/
def inB (lo hi : Int) : PyData → Bool
  | .int i => decide (lo ≤ i) && decide (i ≤ hi)
  | _ => false
def RInt : List PyData → PyData → Prop := fun ds d => ∃ x lo hi, ds = [x, .int lo, .int hi] ∧ d = .bool (inB lo hi x)
/-- what keeps a value from being a sheet -/
def shE : PyData → PyData
  | .tuple [x, y] => if inB 1 8 x = true then if inB 1 8 y = true then .none else .str "wide" else .str "deep"
  | _ => .str "sheet"
theorem shE_two (x y : PyData) : shE (.tuple [x, y]) = if inB 1 8 x = true then if inB 1 8 y = true then .none else .str "wide" else .str "deep" := rfl
def RShE : List PyData → PyData → Prop := fun ds d => ∃ x, ds = [x] ∧ d = shE x
end Mm

set_option Elab.async false
set_option linter.all false
set_option maxRecDepth 100000
set_option maxHeartbeats 4000000
namespace Mm
open PySem PySem.Spec PyProof.Rows L2 Evl

/-! ### what is new since a heap -/
def cut (H0 H : Hp) : Hp := fun a => match H0 a with
  | none => H a
  | some (.ext _) => H a
  | some _ => none
theorem cut_some {H0 H : Hp} {a : Addr} {o : HO} (h : cut H0 H a = some o) : H a = some o ∧ ∀ u, H0 a = some u → Own u := by
  unfold cut at h
  split at h
  · rename_i e
    exact ⟨h, fun u hu => by rw [e] at hu; cases hu⟩
  · rename_i e
    exact ⟨h, fun u hu => by
      rw [e] at hu
      cases hu
      trivial⟩
  · cases h
theorem cut_of {H0 H : Hp} {a : Addr} (h : ∀ u, H0 a = some u → Own u) : cut H0 H a = H a := by
  unfold cut
  split
  · rfl
  · rfl
  · rename_i o n e
    have := h _ e
    cases o <;> first | exact absurd rfl (n _) | cases this
theorem cut_ex (H0 H : Hp) : Ex (cut H0 H) H := fun a o h => (cut_some h).1
theorem cut_ey {H0 H H' : Hp} (e : Ey H H') : Ey (cut H0 H) (cut H0 H') := fun a o h n => by
  obtain ⟨h1, h2⟩ := cut_some h
  rw [cut_of h2]
  exact e a o h1 n
theorem cut_le {H0 H1 H : Hp} (h : ∀ a o, H0 a = some o → ¬ Own o → ∃ u, H1 a = some u ∧ ¬ Own u) : Ex (cut H1 H) (cut H0 H) := fun a o e => by
  obtain ⟨h1, h2⟩ := cut_some e
  rw [cut_of fun u hu => ?_]
  · exact h1
  · apply Classical.byContradiction
    intro nu
    obtain ⟨u', e1, n1⟩ := h a u hu nu
    exact n1 (h2 u' e1)
theorem cut_leY {H0 H1 H : Hp} (e : Ey H0 H1) : Ex (cut H1 H) (cut H0 H) := cut_le fun a o h n => ⟨o, e a o h n, n⟩
theorem cut_at {H Hn H' : Hp} {p : Addr} (e : Ey H Hn) (n : Hn p = none) : cut H H' p = H' p := cut_of fun u hu => by
  apply Classical.byContradiction
  intro nu
  have := e p u hu nu
  rw [n] at this
  cases this
theorem cut_upd {H0 H : Hp} {l : Addr} {xs : List V} {o : HO} (h : H0 l = some (.lst xs)) : cut H0 (upd H l o) = cut H0 H := by
  funext a
  by_cases e : a = l
  · subst e
    unfold cut
    rw [h]
  · unfold cut
    rw [upd_ne e]
/-! ### leaves -/
def leafy : PyData → Bool
  | .none | .bool _ | .int _ | .str _ => true
  | _ => false
theorem leaf_da {K : PySem.W.Frag} {H H' : Hp} {v : V} {d : PyData} (l : leafy d = true) (h : Da K H v d) : Da K H' v d := by
  cases h with
  | non => exact .non
  | bl b => exact .bl b
  | int i => exact .int i
  | str x => exact .str x
  | lst _ _ => cases l
  | tup _ _ => cases l
  | dic _ _ => cases l
theorem dps_mem {K : PySem.W.Frag} {H : Hp} : ∀ {xs : List V} {ds : List PyData} {x : V}, DaAll K H xs ds → x ∈ xs → ∃ d ∈ ds, Da K H x d
  | _, _, _, .nil, h => nomatch h
  | _, _, x, .cons h r, m => by
    rcases List.mem_cons.mp m with z | z
    · exact ⟨_, List.mem_cons_self, by rw [z]; exact h⟩
    · obtain ⟨d, hd, dd⟩ := dps_mem r z
      exact ⟨d, List.mem_cons_of_mem _ hd, dd⟩
/-! ### repr of all -/
structure TRL (n w : Nat) (ds : List PyData) : Prop where
  sh : PyData.showableAll ds = true
  dp : PyData.depthAll ds ≤ n
  lf : PyData.leavesShortAll 60 ds = true
  wt : PyData.weightAll ds ≤ w
theorem trl_nil {n w : Nat} : TRL n w [] := by
  refine ⟨?_, ?_, ?_, ?_⟩ <;> simp [PyData.showableAll, PyData.depthAll, PyData.weightAll, PyData.leavesShortAll]
theorem trl_cons {n a b : Nat} {d : PyData} {ds : List PyData} (h : TameR n a d) (r : TRL n b ds) : TRL n (a + 1 + b) (d :: ds) := by
  refine ⟨?_, ?_, ?_, ?_⟩
  · simp only [PyData.showableAll, h.sh, r.sh, Bool.and_self]
  · have := h.dp
    have := r.dp
    simp only [PyData.depthAll]
    omega
  · simp only [PyData.leavesShortAll, h.lf, r.lf, Bool.and_self]
  · have := h.wt
    have := r.wt
    simp only [PyData.weightAll]
    omega
theorem trl_all {n a : Nat} : ∀ {ds : List PyData}, (∀ d ∈ ds, TameR n a d) → TRL n ((a + 1) * ds.length) ds
  | [], _ => trl_nil
  | d :: ds, h => by
    have r := trl_cons (h d List.mem_cons_self) (trl_all fun e he => h e (List.mem_cons_of_mem _ he))
    refine ⟨r.sh, r.dp, r.lf, Nat.le_trans r.wt ?_⟩
    rw [List.length_cons, Nat.mul_add, Nat.mul_one]
    omega
theorem TameR.mono {n a m b : Nat} {d : PyData} (h : TameR n a d) (hn : n ≤ m) (hb : a ≤ b) : TameR m b d := ⟨h.sh, Nat.le_trans h.dp hn, h.lf, Nat.le_trans h.wt hb⟩
theorem tr_list {n w : Nat} {ds : List PyData} (h : TRL n w ds) : TameR (n + 1) w (.list ds) := by
  refine ⟨?_, ?_, ?_, ?_⟩
  · simp only [PyData.showable, h.sh]
  · have := h.dp
    simp only [PyData.depth]
    omega
  · simp only [PyData.leavesShort, h.lf]
  · have := h.wt
    simp only [PyData.weight]
    omega
theorem tr_tuple {n w : Nat} {ds : List PyData} (h : TRL n w ds) : TameR (n + 1) w (.tuple ds) := by
  refine ⟨?_, ?_, ?_, ?_⟩
  · simp only [PyData.showable, h.sh]
  · have := h.dp
    simp only [PyData.depth]
    omega
  · simp only [PyData.leavesShort, h.lf]
  · have := h.wt
    simp only [PyData.weight]
    omega
/-- numbered from j on -/
def numD : Nat → List PyData → List (PyData × PyData)
  | _, [] => []
  | j, d :: ds => (.int (j : Int), d) :: numD (j + 1) ds
def numV : Nat → List V → List (Key × V)
  | _, [] => []
  | j, d :: ds => (.inl (j : Int), d) :: numV (j + 1) ds
theorem num_da {K : PySem.W.Frag} {H : Hp} : ∀ {xs : List V} {ds : List PyData} (j : Nat), DaAll K H xs ds → DaKv K H (numV j xs) (numD j ds)
  | _, _, _, .nil => .nil
  | _, _, j, .cons h r => .cons h (num_da (j + 1) r)
structure TRK (n w : Nat) (ds : List (PyData × PyData)) : Prop where
  sh : PyData.showableKv ds = true
  dp : PyData.depthKv ds ≤ n
  lf : PyData.leavesShortKv 60 ds = true
  wt : PyData.weightKv ds ≤ w
theorem trk_num {n a : Nat} : ∀ {ds : List PyData} (j : Nat), j + ds.length ≤ 1000 → (∀ d ∈ ds, TameR n a d) → TRK n ((a + 26) * ds.length) (numD j ds)
  | [], _, _, _ => by refine ⟨?_, ?_, ?_, ?_⟩ <;> simp [numD, PyData.showableKv, PyData.depthKv, PyData.weightKv, PyData.leavesShortKv]
  | d :: ds, j, hj, h => by
    rw [List.length_cons] at hj
    have r := trk_num (j + 1) (by omega) fun e he => h e (List.mem_cons_of_mem _ he)
    have h0 := h d List.mem_cons_self
    have t : Tame 0 24 (.int (j : Int)) := tame_int (by omega) (Nat.le_refl _)
    refine ⟨?_, ?_, ?_, ?_⟩
    · simp only [numD, PyData.showableKv, t.sh, h0.sh, r.sh, Bool.and_self]
    · have := h0.dp
      have := r.dp
      have := t.dp
      simp only [numD, PyData.depthKv]
      omega
    · simp only [numD, PyData.leavesShortKv, t.lf, h0.lf, r.lf, Bool.and_self]
    · have := h0.wt
      have := r.wt
      have := t.wt
      simp only [numD, PyData.weightKv]
      rw [List.length_cons, Nat.mul_add, Nat.mul_one]
      omega
theorem tr_dict {n w : Nat} {ds : List (PyData × PyData)} (h : TRK n w ds) : TameR (n + 1) w (.dict ds) := by
  refine ⟨?_, ?_, ?_, ?_⟩
  · simp only [PyData.showable, h.sh]
  · have := h.dp
    simp only [PyData.depth]
    omega
  · simp only [PyData.leavesShort, h.lf]
  · have := h.wt
    simp only [PyData.weight]
    omega
theorem tr_leaf {d : PyData} (n : Nat) (h : leafy d = true) (hi : ∀ i, d = .int i → i.natAbs < 10 ^ 45) (hs : ∀ x, d = .str x → (PyData.leavesShort 60 (.str x) = true ∧ x.cps.size ≤ 150)) : TameR n 160 d := by
  cases d with
  | none => exact tame_none.r
  | bool b => exact tame_bool.r
  | int i =>
    have k := hi i rfl
    have lt : i.natAbs < 2 ^ 150 := Nat.lt_of_lt_of_le k (by decide)
    have l : i.natAbs.log2 < 150 ∨ i.natAbs = 0 := by
      by_cases z : i.natAbs = 0
      · exact Or.inr z
      · exact Or.inl ((Nat.log2_lt z).mpr lt)
    refine ⟨?_, ?_, ?_, ?_⟩
    · simp only [PyData.showable]
      rcases l with l | l
      · exact decide_eq_true (by omega)
      · rw [l]
        decide
    · simp [PyData.depth]
    · exact leaf_int (Nat.lt_of_lt_of_le k (by decide))
    · simp only [PyData.weight]
      split
      · omega
      · rcases l with l | l
        · omega
        · rw [l]
          have : Nat.log2 0 = 0 := by decide
          omega
  | str x =>
    obtain ⟨a, b⟩ := hs x rfl
    refine ⟨by simp [PyData.showable], by simp [PyData.depth], a, ?_⟩
    simp only [PyData.weight]
    omega
  | list _ => cases h
  | tuple _ => cases h
  | dict _ => cases h
/-! ### rules -/
def rDictP (K : PySem.W.Frag) : List V → Hp → VK → Prop := fun xs H Q => ∃ (a : Addr) (ps : List Addr) (kvs : List (Key × V)), xs = [.ref a] ∧ SqL K H a (ps.map V.ref) ∧ Paired (fun p kv => SqT K H p [kV kv.1, kv.2]) ps kvs ∧
    ∀ p, H p = none → Q (.ref p) (upd H p (.dK (mergeK [] kvs)))
theorem fr_dictK {X : Cx} {K : PySem.W.Frag} (h : X.K = K) (hc : X.calm = true) : CallR X (.type "dict") (rDictP K) := by
  subst h
  exact call_dictP hc
theorem op_catK {X : Cx} {K : PySem.W.Frag} (h : X.K = K) : OpR X (binaryOp .Add) (rCatA K) := h ▸ op_catA
theorem sl_tupK {X : Cx} {K : PySem.W.Frag} (h : X.K = K) : SlR X (rSlA K) := h ▸ sl_tupA
theorem merge_num : ∀ xs : List V, xs.length ≤ 3 → mergeK [] (numV 0 xs) = numV 0 xs
  | [], _ => rfl
  | [_], _ => rfl
  | [_, _], _ => rfl
  | [_, _, _], _ => rfl
  | _ :: _ :: _ :: _ :: _, h => by simp at h
section
variable {K : PySem.W.Frag} {H H' : Hp} {σ : L2.St} {ta tb tc te tl : TE} {tt tu : TT} {tr : TA} {a b c d : PyData} {ds es : List PyData} {D : Ends} {u z ty : TS} {g g1 : TG} {p q : Bool}
theorem qy_when {t : TT} {Pb : Bool → Hp → Prop} (h : ∀ Q : Bool → Hp → Prop, (∀ b H1, Pb b H1 → Q b H1) → t σ H Q) (h1 : ∀ H1, Pb true H1 → u { D with nx := z D } σ H1) (h2 : ∀ H1, Pb false H1 → z D σ H1) : tSeq (tIfS t u tNext) z D σ H :=
  h _ fun b H1 p => by
    cases b with
    | true =>
      show u { D with nx := z D } σ H1
      exact h1 H1 p
    | false =>
      show z D σ H1
      exact h2 H1 p
theorem ty_or {t u : TT} {a : Bool} {Pb : Bool → Hp → Prop} (h1 : EvT t σ H a) (hy : a = true → ∀ H1, Ex H H1 → Pb true H1) (hn : a = false → ∀ H1, Ex H H1 → ∀ Q : Bool → Hp → Prop, (∀ b H2, Pb b H2 → Q b H2) → u σ H1 Q) :
    ∀ Q : Bool → Hp → Prop, (∀ b H1, Pb b H1 → Q b H1) → tOr t u σ H Q := fun Q q => h1 H (Ex.refl H) _ fun H2 e2 => by
  cases a with
  | true =>
    show Q true H2
    exact q _ _ (hy rfl H2 e2)
  | false =>
    show u σ H2 Q
    exact hn rfl H2 e2 Q q
theorem opD_rep2 {x : V} {l : Addr} (h : H l = some (.lst [x])) {Q : VK} (q : ∀ p, H p = none → Q (.ref p) (upd H p (.lst [x, x]))) : rRep (.ref l) (.int 2) H Q :=
  ⟨l, 2, [x], rfl, rfl, h, by decide, by decide, by show 1 * 2 ≤ sizeLine; decide, q⟩
end
/-- one of a list, by its place -/
def spOneV (K : PySem.W.Frag) : Sp := fun vs H Q _ => ∃ (D L : Addr) (ns : List Int) (B : Nat) (l : Addr) (xs : List V), vs = [.ref D, .ref l] ∧ Dk H D L ns B ∧ B < 1000000000 ∧ SqL K H l xs ∧ 1 ≤ xs.length ∧ xs.length ≤ 100000 ∧
  ∀ x H', Ey H H' → Dk H' D L ns (B + 1) → x ∈ xs → Q x H'
def costA : Nat → Nat
  | 0 => 2
  | n + 1 => 3 * costA n + 3
def wideA : Nat → Nat
  | 0 => 160
  | n + 1 => 3 * (wideA n + 26)
def spAny (K : PySem.W.Frag) (m : Nat) : Sp := fun vs H Q _ => ∃ (D L : Addr) (ns : List Int) (B n : Nat), n ≤ m ∧ vs = [.ref D, .int (n : Int)] ∧ Dk H D L ns B ∧ B + costA n < 900000000 ∧
  ∀ x d H', Ey H H' → Dk H' D L ns (B + costA n) → Da K (cut H H') x d → TameR n (wideA n) d → Q x H'
end Mm

set_option Elab.async false
set_option linter.all false
set_option maxRecDepth 100000
set_option maxHeartbeats 4000000
namespace Mm
open PySem PySem.Spec PyProof.Rows L2 Evl

/-! ### xs.extend(t), t a tuple -/
open PySem.AutoSeq1 in
theorem ext_tup (l : Addr) (items : Array Value) (n : Nat) (b : Addr) (items2 : Array Value) (n2 : Nat) (dd : Option Addr) (sl : Array (Option Value)) (hs0 : ¬(!items.isEmpty && Builtin.List.listTooLong (items.size + items2.size)) = true) (hs1 : items.size ≤ sizeLine) (hs2 : items.size + items2.size ≤ sizeLine + 1) :
    Meets (Builtin.«list.extend» ⟨[.ref l, .ref b], []⟩) (fun _ R s => s.heap.get? l = some { cls := .type "list", dict := none, data := .seq items n, slots := #[] } ∧ s.heap.get? b = some { cls := .type "tuple", dict := dd, data := .seq items2 n2, slots := sl } ∧ R (.ok (.ret Value.none)) { s with heap := s.heap.update l (Obj.mapSeq fun x => x ++ items2), toks := s.toks }) :=
  .of_wp fun prog w A R s h => by
    obtain ⟨hp, g, d, tk, os⟩ := s; obtain ⟨hl, hb, h⟩ := h; have f1 := idx_int; have f2 := AutoSeq1.sub_tuple_tuple; have f3 := AutoSeq1.sub_list_list; have f4 := AutoSeq1.sub_tuple_list; have f5 := AutoSeq1.sub_list_tuple
    have hz' : (items ++ items2).size ≤ sizeLine + 1 := by rw [Array.size_append]; exact hs2
    wp_walk using (wpAny_updateSeq hl rfl (hz := hs1) (_hz' := hz')), wpAny_loadPart' hl, wpAny_loadPart' hb; exact ⟨_, rfl, h⟩
def rExtT (K : PySem.W.Frag) : V → List V → Hp → VK → Prop := fun x vs H Q => ∃ l b xs zs, x = .ref l ∧ vs = [.ref b] ∧ H l = some (.lst xs) ∧ SqT K H b zs ∧ xs.length + zs.length ≤ sizeLine ∧ Q .non (upd H l (.lst (xs ++ zs)))
theorem mt_extT {X : Cx} : MtM X "list.extend" (rExtT X.K) := by
  intro pins s σ H x vs v us Q I rx rv h
  obtain ⟨l, b, xs, zs, rfl, rfl, hH, hB, hz, q⟩ := h
  cases rx
  obtain ⟨u, rfl, ru⟩ := rv.one
  cases ru
  obtain ⟨z, its, n, r, hl, e⟩ := I.lstM hH
  obtain ⟨its2, r2, ht, hz2⟩ := I.tuple hB
  obtain ⟨⟨cls, dd, data, sl⟩, ho, hc, n2, hd⟩ := id ht
  simp only at hc hd
  subst hc hd
  have hl2 := r2.length
  have hsz : its.toArray.size + its2.toArray.size ≤ sizeLine := by rw [List.size_toArray, List.size_toArray]; omega
  have hlong : ¬ (!its.toArray.isEmpty && Builtin.List.listTooLong (its.toArray.size + its2.toArray.size)) = true := by
    rw [notLongL hsz, Bool.and_false]
    exact Bool.false_ne_true
  refine call_meets F.slot_list_extend ⟨_, e, rfl⟩ F.entry_list_extend (F.args_list_extend_2 _ _)
    (ext_tup l its.toArray n b its2.toArray n2 dd sl hlong (by rw [List.size_toArray]; omega) (by omega)) ⟨e, ho, ?_⟩
  refine ⟨.non, _, I.lset (its' := its ++ its2) hH e (by simp) (r.append r2) ?_, rfl, q⟩
  rw [List.length_append]
  omega
theorem mt_extTK {X : Cx} {K : PySem.W.Frag} (h : X.K = K) : MtM X "list.extend" (rExtT K) := h ▸ mt_extT
theorem fr_sortedIK {X : Cx} {K : PySem.W.Frag} (h : X.K = K) : CallR X (.builtin "sorted") (rSortedI K) := h ▸ cr_sortedI
/-! ### draws -/
section
variable {K : PySem.W.Frag} {H H' : Hp} {σ : L2.St} {ta tb tc te tl : TE} {tt tu : TT} {tr : TA} {a b c d : PyData} {ds es : List PyData} {D : Ends} {u z ty : TS} {g g1 : TG} {p q : Bool}
theorem ey_updN {H H2 : Hp} {l : Addr} {o : HO} (e : Ey H H2) (h : ∀ u, H l = some u → Own u) : Ey H (upd H2 l o) := fun a u z n => by
  by_cases x : a = l
  · subst x
    exact absurd (h u z) n
  · rw [upd_ne x]
    exact e a u z n
theorem own_at {H Hn : Hp} {p : Addr} (e : Ey H Hn) (n : Hn p = none) : ∀ u, H p = some u → Own u := fun u hu => by
  apply Classical.byContradiction
  intro nu
  have := e p u hu nu
  rw [n] at this
  cases this
theorem dk_new {H : Hp} {D L l : Addr} {ns : List Int} {B : Nat} (h : Dk H D L ns B) (n : H l = none) : l ≠ L := fun z => by
  obtain ⟨b0, _, dk0⟩ := h
  have := dk0.ls
  rw [← z, n] at this
  cases this
/-- the numbers below n for which a test that draws says so -/
theorem ey_lcS {vs : List Nat} {j : Nat} {n : Int} {ta : TA} {Dd L : Addr} {ns : List Int} {B : Nat} (h : EvDs K ta σ H [.int n]) (hn : 0 ≤ n ∧ n ≤ 50000) (dk : Dk H Dd L ns B)
    (hw : ∀ x, wipe ((wipe σ vs).set j (some x)) vs = wipe σ vs) (hj : ∀ x, ((wipe σ vs).set j (some x))[j]? = some (some x))
    (ht : ∀ (i : Nat) H1, (i : Int) < n → Ey H H1 → Dk H1 Dd L ns (B + i) → ∀ Q : Bool → Hp → Prop, (∀ b H2, Ey H1 H2 → Dk H2 Dd L ns (B + i + 1) → Q b H2) → tt ((wipe σ vs).set j (some (.int (i : Int)))) H1 Q) :
    EvY (tLc (iRng1 ta) (gName j) tt (tVar j) vs) σ H (fun v H2 => ∃ (l : Addr) (zs : List Int), v = .ref l ∧ Ey H H2 ∧ Dk H2 Dd L ns (B + n.toNat) ∧ H2 l = some (.lst (zs.map V.int)) ∧ zs.Pairwise (· < ·) ∧ ∀ z ∈ zs, 0 ≤ z ∧ z < n) := fun Q q => h H (Ex.refl H) _ fun ws H1 e1 dv => by
  cases dv with
  | cons h1 hx =>
    cases hx
    cases h1
    refine ⟨n, rfl, by omega, by omega, fun Dl hD => lc_range (lo := 0) (n := n.toNat) (fun i H' => ∃ zs : List Int, Ey H1 H' ∧ Dk H' Dd L ns (B + i) ∧ H' Dl = some (.lst (zs.map V.int)) ∧ zs.Pairwise (· < ·) ∧ zs.length ≤ i ∧ ∀ z ∈ zs, 0 ≤ z ∧ z < (i : Int))
      ⟨[], Ey.of (Ex.new hD), dk_ex (e1.trans (Ex.new hD)) dk, upd_same, .nil, Nat.le_refl _, fun _ z => nomatch z⟩ (fun i H' hi k => ?_) (fun H' k => ?_)⟩
    · obtain ⟨zs, ey, dk', hl, pw, len, all⟩ := k
      have e2 : (0 : Int) + (i : Int) = (i : Int) := Int.zero_add _
      show gName j (.int ((0 : Int) + (i : Int))) _ _ _
      rw [e2]
      refine ⟨hw _, ?_⟩
      refine ht i H' (by omega) ((Ey.of e1).trans ey) dk' _ fun b H2 ey2 dk2 => ?_
      have hl2 := ey2 _ _ hl (fun z => z)
      cases b with
      | false =>
        rw [if_neg (by decide)]
        exact ⟨zs, ey.trans ey2, dk2, hl2, pw, by omega, fun z hz => by
          have := all z hz
          omega⟩
      | true =>
        rw [if_pos rfl]
        refine ⟨_, hj _, _, hl2, sz_lt (by rw [List.length_map]; omega), zs ++ [(i : Int)], ey_upd (ey.trans ey2) hD, dk_upd dk2 hl2 (dk_new (dk_ex e1 dk) hD), ?_, ?_, by rw [List.length_append]; simp; omega, fun z hz => ?_⟩
        · rw [upd_same, List.map_append]
          rfl
        · exact List.pairwise_append.mpr ⟨pw, List.pairwise_singleton _ _, fun x hx y hy => by
            rw [List.mem_singleton.mp hy]
            exact (all x hx).2⟩
        · rcases List.mem_append.mp hz with y | y
          · have := all z y
            omega
          · rw [List.mem_singleton.mp y]
            omega
    · obtain ⟨zs, ey, dk', hl, pw, len, all⟩ := k
      exact q _ H' ⟨Dl, zs, rfl, (Ey.of e1).trans ey, dk', hl, pw, fun z hz => by
        have := all z hz
        omega⟩
theorem sd_rngY {j : Nat} {ta : TA} {Pn : Int → Hp → Prop} (h : ∀ Q : List V → Hp → Prop, (∀ n H1, Pn n H1 → Q [.int n] H1) → ta σ H Q)
    (hs : ∀ n H1, Pn n H1 → 0 ≤ n ∧ n ≤ 100000 ∧ ∃ W : Nat → L2.St → Hp → Prop, W 0 σ H1 ∧ (∀ (i : Nat) σ' H', (i : Int) < n → W i σ' H' → u { D with nx := W (i + 1), ct := W (i + 1), bk := D.nx } (σ'.set j (some (.int (i : Int)))) H') ∧ ∀ σ' H', W n.toNat σ' H' → D.nx σ' H') : tFor (iRng1 ta) (gName j) u D σ H :=
  h _ fun n H1 pn => by
    obtain ⟨n0, n1, W, h0, hs, hd⟩ := hs n H1 pn
    refine ⟨n, rfl, by omega, by omega, for_range (lo := 0) (n := n.toNat) W h0 (fun i σ' H' hi p => ?_) hd⟩
    have e0 : (0 : Int) + (i : Int) = (i : Int) := Int.zero_add _
    show u { D with nx := W (i + 1), ct := W (i + 1), bk := D.nx } (σ'.set j (some (.int ((0 : Int) + (i : Int))))) H'
    rw [e0]
    exact hs i σ' H' (by omega) p
theorem qd_rngY {j : Nat} {ta : TA} {Pn : Int → Hp → Prop} (h : ∀ Q : List V → Hp → Prop, (∀ n H1, Pn n H1 → Q [.int n] H1) → ta σ H Q)
    (hs : ∀ n H1, Pn n H1 → 0 ≤ n ∧ n ≤ 100000 ∧ ∃ W : Nat → L2.St → Hp → Prop, W 0 σ H1 ∧ (∀ (i : Nat) σ' H', (i : Int) < n → W i σ' H' → u { D with nx := W (i + 1), ct := W (i + 1), bk := z D } (σ'.set j (some (.int (i : Int)))) H') ∧ ∀ σ' H', W n.toNat σ' H' → z D σ' H') : tSeq (tFor (iRng1 ta) (gName j) u) z D σ H :=
  sd_rngY (D := { D with nx := z D }) h hs
end
/-! ### tears -/
/-- a tear of a sheet -/
structure Tear (a b : Int) (zs : List Int) : Prop where
  up : zs.Pairwise (· < ·)
  inn : ∀ z ∈ zs, 0 ≤ z ∧ z < a * b
def spTear (K : PySem.W.Frag) : Sp := fun vs H Q _ => ∃ (D L : Addr) (ns : List Int) (B : Nat) (x : V) (a b : Int), vs = [.ref D, x] ∧ Dk H D L ns B ∧ B < 800000000 ∧ Sheet a b ∧ Da K H x (shd a b) ∧
  ∀ y zs H', Ey H H' → Dk H' D L ns (B + 100) → Tear a b zs → Da K H' y (.tuple (zs.map .int)) → Q y H'
def nearP (b x : Int) (ps : List Pt) : Bool := decide ((endsB b x).1 ∈ ps) || decide ((endsB b x).2 ∈ ps)
def RNear : List PyData → PyData → Prop := fun ds d => ∃ a b x sp ps, Sheet a b ∧ 0 ≤ x ∧ x < a * b ∧ Items sp (ps.map pk) ∧ (∀ p ∈ ps, InP p) ∧ ps.length ≤ 1000 ∧ ds = [shd a b, .int x, sp] ∧ d = .bool (nearP b x ps)
theorem any_pk (ps : List Pt) (p : Pt) : ((ps.map pk).any fun z => PyData.eqv z (pk p)) = decide (p ∈ ps) := by
  induction ps with
  | nil => simp
  | cons q ps ih =>
    rw [List.map_cons, List.any_cons, ih, eqv_pk]
    by_cases h : q = p
    · subst h
      simp
    · have h' : ¬ p = q := fun z => h z.symm
      simp [h, h']
theorem any_int (zs : List Int) (x : Int) : ((zs.map PyData.int).any fun z => PyData.eqv z (.int x)) = decide (x ∈ zs) := by
  induction zs with
  | nil => simp
  | cons q ps ih =>
    rw [List.map_cons, List.any_cons, ih, eqv_int]
    by_cases h : q = x
    · subst h
      simp
    · have h' : ¬ x = q := fun z => h z.symm
      simp [h, h']
theorem tame_pks {ps : List Pt} (h : ∀ p ∈ ps, InP p) : TameL 1 (51 * ps.length) (ps.map pk) := by
  have := tameL_all (n := 1) (a := 50) (ds := ps.map pk) fun d hd => by
    obtain ⟨p, hp, rfl⟩ := List.mem_map.mp hd
    obtain ⟨⟨h1, h2⟩, h3, h4⟩ := h p hp
    exact tame_knd (by omega) (by omega)
  rwa [List.length_map] at this
theorem tame_zs {zs : List Int} {n : Int} (hn : n ≤ 10000) (h : ∀ z ∈ zs, 0 ≤ z ∧ z < n) : TameL 0 (25 * zs.length) (zs.map .int) := by
  have := tameL_all (n := 0) (a := 24) (ds := zs.map PyData.int) fun d hd => by
    obtain ⟨p, hp, rfl⟩ := List.mem_map.mp hd
    have := h p hp
    exact tame_int (by omega) (Nat.le_refl _)
  rwa [List.length_map] at this
theorem ends_inP {a b x : Int} (sh : Sheet a b) (h0 : 0 ≤ x) (h1 : x < a * b) : InP (endsB b x).1 ∧ InP (endsB b x).2 := by
  obtain ⟨p1, p2⟩ := bar_place sh h0 h1
  unfold endsB endsP InP
  split <;> exact ⟨⟨⟨by simp only; omega, by simp only; omega⟩, by simp only; omega, by simp only; omega⟩, ⟨by simp only; omega, by simp only; omega⟩, by simp only; omega, by simp only; omega⟩
theorem sheet_ab {a b : Int} (sh : Sheet a b) : 1 ≤ a * b ∧ a * b ≤ 64 := by
  have s1 := sh.d1
  have s2 := sh.d8
  have s3 := sh.w1
  have s4 := sh.w8
  refine ⟨?_, ?_⟩
  · have := Int.mul_le_mul s1 s3 (by decide) (by omega)
    omega
  · have m3 : a * b ≤ 8 * 8 := Int.mul_le_mul s2 s4 (by omega) (by decide)
    omega
end Mm
namespace Mm
open PySem PySem.Spec PyProof.Rows L2 Evl
section
variable {K : PySem.W.Frag} {H H' : Hp} {σ : L2.St} {ta tb tc te tl : TE} {ds es : List PyData}
theorem ed_tupRg {n : Int} (h : EvD K ta σ H (.int n)) (hn : 0 ≤ n ∧ n ≤ 100000) : EvD K (tTupRg (tRg1 ta)) σ H (.tuple (upto n.toNat)) := fun H1 e Q q =>
  h H1 e _ fun v H2 e2 dv => ⟨n, dp_intI dv, RgOk.of_le (by decide) (by omega) (by decide) (by omega), fun l nl => by
    have x : DaAll K (upd H2 l (.tup (rgV 0 n))) (rgV 0 n) (upto n.toNat) := by
      have key : ∀ (m : Nat) (f : Nat → Int), DaAll K (upd H2 l (.tup (rgV 0 n))) ((List.range m).map fun i => V.int (f i)) ((List.range m).map fun i => PyData.int (f i)) := by
        intro m f
        have := dps_ints (K := K) (H := upd H2 l (.tup (rgV 0 n))) ((List.range m).map f)
        rw [List.map_map, List.map_map] at this
        exact this
      have := key (n - 0).toNat (fun i => 0 + (i : Int))
      unfold rgV
      unfold rgV at this
      rw [← ups_zero]
      unfold ups
      simp only [Int.sub_zero] at this ⊢
      exact this
    exact q _ _ (e2.trans (Ex.new nl)) (.tup (SqT.of upd_same) x)⟩
theorem en_lstT (h : EvD K te σ H (.tuple ds)) : EvN K (tCB (fLst K) (tCons te tNil)) σ H ds := fun H1 e Q q => h H1 e _ fun v H2 e2 dv => by
  obtain ⟨a, ys, rfl, hl, ha⟩ := dp_tupI dv
  exact ⟨a, ys, rfl, Or.inr hl, fun l hp => q l ys _ (fresh_back e2 hp) (e2.trans (Ex.new hp)) upd_same (dpsm (Ex.new hp) ha)⟩
theorem sd_retTY {D : Ends} {Pv : V → Hp → Prop} (h : EvY te σ H Pv) (n : ∀ v H1, Pv v H1 → fTup K [v] H1 D.rt) : tRet (tCB (fTup K) (tCons te tNil)) D σ H := h _ fun v H1 p => n v H1 p
theorem atI_last {α : Type} (l : List α) (x : α) : atI (l ++ [x]) (-1) = some x := by
  unfold atI
  have e : ixN (l ++ [x]).length (-1) = some l.length := by
    unfold ixN
    rw [List.length_append, List.length_singleton]
    split
    · omega
    · split
      · congr 1
        omega
      · omega
  rw [e]
  show (l ++ [x])[l.length]? = some x
  simp
theorem upto_ints (n : Nat) : upto n = ((List.range n).map fun i : Nat => (i : Int)).map PyData.int := by
  unfold upto
  rw [List.map_map]
  rfl
theorem upto_filter (n : Nat) (f : PyData → Bool) : (((upto n).filter f).map fun d => d) = (((List.range n).filter fun i : Nat => f (.int (i : Int))).map fun i : Nat => (i : Int)).map PyData.int := by
  rw [List.map_id']
  unfold upto
  rw [List.filter_map, List.map_map]
  rfl
theorem range_pw (n : Nat) : ((List.range n).map fun i : Nat => (i : Int)).Pairwise (· < ·) := by
  rw [List.pairwise_map]
  exact List.pairwise_lt_range.imp fun h => by omega
end
end Mm

set_option Elab.async false
set_option linter.all false
set_option maxRecDepth 100000
set_option maxHeartbeats 4000000
namespace Mm
open PySem PySem.Spec PyProof.Rows L2 Evl

/-! ### what lacks at knots -/
def knotsZ (a b : Int) : List Pt := knotsP a.toNat b.toNat
theorem knotsD_Z {a b : Int} (sh : Sheet a b) : knotsD a b = (knotsZ a b).map pk := by
  have s1 := sh.d1
  have s3 := sh.w1
  have k := knotsD_P a.toNat b.toNat
  rw [show ((a.toNat : Nat) : Int) = a by omega, show ((b.toNat : Nat) : Int) = b by omega] at k
  exact k
theorem knotsZ_in {a b : Int} (sh : Sheet a b) {p : Pt} (h : p ∈ knotsZ a b) : 0 ≤ p.1 ∧ p.1 ≤ 8 ∧ 0 ≤ p.2 ∧ p.2 ≤ 8 := by
  have : pk p ∈ knotsD a b := by
    rw [knotsD_Z sh]
    exact List.mem_map.mpr ⟨p, h, rfl⟩
  obtain ⟨r, c, e, h1, h2, _⟩ := knots_mem sh this
  have s2 := sh.d8
  have s4 := sh.w8
  unfold pk knd at e
  injection e with e
  injection e with e1 e
  injection e1 with e1
  injection e with e2 e
  injection e2 with e2
  omega
theorem knotsZ_inP {a b : Int} (sh : Sheet a b) {p : Pt} (h : p ∈ knotsZ a b) : InP p := by
  have := knotsZ_in sh h
  exact ⟨⟨by omega, by omega⟩, by omega, by omega⟩
theorem knotsZ_len {a b : Int} (sh : Sheet a b) : (knotsZ a b).length ≤ 81 := by
  have := knots_len sh
  rwa [knotsD_Z sh, List.length_map] at this
theorem atZ_in {a b r c x : Int} (sh : Sheet a b) (h : x ∈ atZ a b r c) : 0 ≤ x ∧ x < a * b := by
  have : PyData.int x ∈ atD a b r c := by
    rw [atD_Z]
    exact List.mem_map.mpr ⟨x, h, rfl⟩
  obtain ⟨y, z, e, k⟩ := at_mem this
  injection e with e
  rw [e]
  have := bar_in sh k
  exact ⟨this.1, this.2.1⟩
theorem atZ_len (a b r c : Int) : (atZ a b r c).length ≤ 4 := by
  have := at_len a b r c
  rwa [atD_Z, List.length_map] at this
theorem picked_ints (f : PyData → Bool) (zs : List Int) (F : Int → Bool) (h : ∀ z ∈ zs, f (.int z) = F z) : picked f (fun d => d) (zs.map .int) = (zs.filter F).map .int := by
  unfold picked
  rw [List.filter_map, List.map_map, show zs.filter (f ∘ PyData.int) = zs.filter F from List.filter_congr fun z hz => h z hz]
  rfl
theorem picked_pks (f : PyData → Bool) (m : PyData → PyData) (ps : List Pt) (F : Pt → Bool) (h : ∀ p ∈ ps, f (pk p) = F p) : picked f m (ps.map pk) = (ps.filter F).map fun p => m (pk p) := by
  unfold picked
  rw [List.filter_map, List.map_map, show ps.filter (f ∘ pk) = ps.filter F from List.filter_congr fun p hp => h p hp]
  rfl
def lackN (a b : Int) (zs : List Int) (p : Pt) : Nat := ((atZ a b p.1 p.2).filter fun z => decide (z ∈ zs)).length
theorem lackN_le (a b : Int) (zs : List Int) (p : Pt) : lackN a b zs p ≤ 4 := Nat.le_trans (List.length_filter_le _ _) (atZ_len a b p.1 p.2)
def oddK (a b : Int) (zs : List Int) : List Pt := (knotsZ a b).filter fun p => decide (((lackN a b zs p : Nat) : Int) % 2 = 1)
def lostK (a b : Int) (zs : List Int) : List Pt := (knotsZ a b).filter fun p => ((atZ a b p.1 p.2).filter fun z => !decide (z ∈ zs)).isEmpty
def tearD (zs : List Int) : PyData := .tuple (zs.map .int)
def RLacks : List PyData → PyData → Prop := fun ds d => ∃ a b zs p, Sheet a b ∧ Tear a b zs ∧ p ∈ knotsZ a b ∧ ds = [shd a b, tearD zs, pk p] ∧ d = .int ((lackN a b zs p : Nat) : Int)
def ROdd : List PyData → PyData → Prop := fun ds d => ∃ a b zs, Sheet a b ∧ Tear a b zs ∧ ds = [shd a b, tearD zs] ∧ d = .tuple ((oddK a b zs).map pk)
def RLost : List PyData → PyData → Prop := fun ds d => ∃ a b zs, Sheet a b ∧ Tear a b zs ∧ ds = [shd a b, tearD zs] ∧ d = .tuple ((lostK a b zs).map pk)
theorem tame_tearL {a b : Int} {zs : List Int} (sh : Sheet a b) (t : Tear a b zs) : TameL 0 (25 * zs.length) (zs.map .int) := tame_zs (n := a * b) (by have := sheet_ab sh; omega) t.inn
/-- strictly ascending numbers below n are at most n -/
theorem up_len : ∀ {zs : List Int} {lo n : Int}, zs.Pairwise (· < ·) → (∀ z ∈ zs, lo ≤ z ∧ z < n) → (zs.length : Int) ≤ n - lo ∨ zs = []
  | [], _, _, _, _ => Or.inr rfl
  | z :: zs, lo, n, p, h => by
    obtain ⟨p1, p2⟩ := List.pairwise_cons.mp p
    have hz := h z List.mem_cons_self
    refine Or.inl ?_
    rcases up_len (lo := z + 1) (n := n) p2 (fun y hy => ⟨by have := p1 y hy; omega, (h y (List.mem_cons_of_mem _ hy)).2⟩) with k | k
    · rw [List.length_cons]
      omega
    · rw [k]
      simp
      omega
theorem tear_len {a b : Int} {zs : List Int} (sh : Sheet a b) (t : Tear a b zs) : zs.length ≤ 64 := by
  have := sheet_ab sh
  rcases up_len (lo := 0) t.up t.inn with k | k
  · omega
  · rw [k]
    simp
theorem tame_tear {a b : Int} {zs : List Int} (sh : Sheet a b) (t : Tear a b zs) : Tame 1 1600 (tearD zs) := by
  have := tear_len sh t
  exact (tame_tuple (tame_tearL sh t)).mono (Nat.le_refl _) (by omega)
theorem flat_tear (zs : List Int) : flat (tearD zs) = true := by
  have : flats (zs.map PyData.int) = true := flats_all fun d hd => by
    obtain ⟨z, _, rfl⟩ := List.mem_map.mp hd
    simp [flat]
  simp only [tearD, flat]
  exact this
theorem tame_knts {a b : Int} (sh : Sheet a b) (f : Pt → Bool) : Tame 2 5000 (.tuple (((knotsZ a b).filter f).map pk)) := by
  have l := knotsZ_len sh
  have l2 := List.length_filter_le f (knotsZ a b)
  have t := tame_pks (ps := (knotsZ a b).filter f) fun p hp => knotsZ_inP sh (List.mem_filter.mp hp).1
  exact (tame_tuple t).mono (Nat.le_refl _) (by omega)
end Mm

namespace Mm
open PySem PySem.Spec PyProof.Rows L2 Evl

/-! ### what hangs together, told but once -/
theorem same_keyed {α : Type} (key : α → Int) : ∀ (a b : List α), a.Pairwise (fun x y => key x < key y) → b.Pairwise (fun x y => key x < key y) → (∀ x, x ∈ a ↔ x ∈ b) → a = b
  | [], [], _, _, _ => rfl
  | [], y :: b, _, _, h => absurd ((h y).mpr List.mem_cons_self) (fun z => nomatch z)
  | x :: a, [], _, _, h => absurd ((h x).mp List.mem_cons_self) (fun z => nomatch z)
  | x :: a, y :: b, ha, hb, h => by
    obtain ⟨a1, a2⟩ := List.pairwise_cons.mp ha
    obtain ⟨b1, b2⟩ := List.pairwise_cons.mp hb
    have e : x = y := by
      rcases List.mem_cons.mp ((h x).mp List.mem_cons_self) with z | z
      · exact z
      · rcases List.mem_cons.mp ((h y).mpr List.mem_cons_self) with z' | z'
        · exact z'.symm
        · have := b1 x z
          have := a1 y z'
          omega
    subst e
    refine congrArg (x :: ·) (same_keyed key a b a2 b2 fun z => ⟨fun hz => ?_, fun hz => ?_⟩)
    · rcases List.mem_cons.mp ((h z).mp (List.mem_cons_of_mem _ hz)) with q | q
      · have := a1 z hz
        rw [q] at this
        omega
      · exact q
    · rcases List.mem_cons.mp ((h z).mpr (List.mem_cons_of_mem _ hz)) with q | q
      · have := b1 z hz
        rw [q] at this
        omega
      · exact q
/-- one can be reached from another one over near ones among some -/
inductive Reach (near : Int → Int → Prop) (zs : List Int) (x : Int) : Int → Prop
  | here : Reach near zs x x
  | step {y z : Int} (r : Reach near zs x y) (n : near y z) (h : z ∈ zs) : Reach near zs x z
theorem Reach.trans {near : Int → Int → Prop} {zs : List Int} {x y z : Int} (h : Reach near zs x y) (r : Reach near zs y z) : Reach near zs x z := by
  induction r with
  | here => exact h
  | step _ n m ih => exact .step ih n m
theorem Reach.inn {near : Int → Int → Prop} {zs : List Int} {x y : Int} (h : x ∈ zs) (r : Reach near zs x y) : y ∈ zs := by
  cases r with
  | here => exact h
  | step _ _ m => exact m
theorem Reach.back {near : Int → Int → Prop} {zs : List Int} {x y : Int} (s : ∀ a b, near a b → near b a) (h : x ∈ zs) (r : Reach near zs x y) : Reach near zs y x := by
  induction r with
  | here => exact .here
  | @step u v r n m ih => exact (Reach.step .here (s _ _ n) (r.inn h)).trans ih
/-- the lots that hang together, each ascending, by their first ones -/
structure Comps (near : Int → Int → Prop) (zs : List Int) (cs : List (List Int)) : Prop where
  mem : ∀ x, x ∈ zs ↔ ∃ c ∈ cs, x ∈ c
  ne : ∀ c ∈ cs, c ≠ []
  up : ∀ c ∈ cs, c.Pairwise (· < ·)
  closed : ∀ c ∈ cs, ∀ x ∈ c, ∀ y ∈ zs, near x y → y ∈ c
  conn : ∀ c ∈ cs, ∀ x ∈ c, ∀ y ∈ c, Reach near zs x y
  ord : cs.Pairwise (fun c d => c.headD 0 < d.headD 0)
theorem Comps.all {near : Int → Int → Prop} {zs : List Int} {cs : List (List Int)} (h : Comps near zs cs) {c : List Int} (hc : c ∈ cs) {x : Int} (hx : x ∈ c) (y : Int) : y ∈ c ↔ Reach near zs x y := by
  refine ⟨fun hy => h.conn c hc x hx y hy, fun r => ?_⟩
  induction r with
  | here => exact hx
  | step _ n m ih => exact h.closed c hc _ ih _ m n
theorem Comps.sub {near : Int → Int → Prop} {zs : List Int} {as bs : List (List Int)} (ha : Comps near zs as) (hb : Comps near zs bs) {c : List Int} (hc : c ∈ as) : c ∈ bs := by
  obtain ⟨x, hx⟩ := List.exists_mem_of_ne_nil c (ha.ne c hc)
  obtain ⟨d, hd, xd⟩ := (hb.mem x).mp ((ha.mem x).mpr ⟨c, hc, hx⟩)
  have e : c = d := same_sorted c d (ha.up c hc) (hb.up d hd) fun y => (ha.all hc hx y).trans (hb.all hd xd y).symm
  rw [e]
  exact hd
theorem Comps.eq {near : Int → Int → Prop} {zs : List Int} {as bs : List (List Int)} (ha : Comps near zs as) (hb : Comps near zs bs) : as = bs :=
  same_keyed (fun c => c.headD 0) as bs ha.ord hb.ord fun c => ⟨fun h => ha.sub hb h, fun h => hb.sub ha h⟩
/-- one lot growing: taken, waiting, left; the three make up what was left ahead -/
structure Inner (near : Int → Int → Prop) (zs ls : List Int) (x : Int) (hs ws rs : List Int) : Prop where
  reach : ∀ y ∈ hs ++ ws, Reach near zs x y
  here : x ∈ hs ++ ws
  split : ((hs ++ ws) ++ rs).Perm ls
  none : ∀ h ∈ hs, ∀ y ∈ rs, ¬ near h y
  up : rs.Pairwise (· < ·)
theorem up_nodup {l : List Int} (h : l.Pairwise (· < ·)) : l.Nodup := h.imp fun {a b} z => by omega
theorem inner_start {near : Int → Int → Prop} {zs : List Int} {x : Int} {rest : List Int} (h : (x :: rest).Pairwise (· < ·)) : Inner near zs (x :: rest) x [] [x] rest :=
  ⟨fun y hy => by
    rw [show y = x by simpa using hy]
    exact .here, by simp, List.Perm.refl _, fun _ z => (nomatch z), (List.pairwise_cons.mp h).2⟩
theorem inner_step {near : Int → Int → Prop} {zs ls : List Int} {x : Int} {hs ws rs : List Int} {h : Int} (g : Inner near zs ls x hs (ws ++ [h]) rs) (hl : ∀ y ∈ ls, y ∈ zs) (nr : Int → Bool) (hn : ∀ y ∈ rs, nr y = true ↔ near h y) :
    Inner near zs ls x (hs ++ [h]) (ws ++ rs.filter nr) (rs.filter fun y => !nr y) := by
  have rl : ∀ y ∈ rs, y ∈ zs := fun y hy => hl y (g.split.mem_iff.mp (List.mem_append_right _ hy))
  have rh : Reach near zs x h := g.reach h (by simp)
  refine ⟨fun y hy => ?_, ?_, ?_, fun k hk y hy => ?_, g.up.filter _⟩
  · rcases List.mem_append.mp hy with k | k
    · rcases List.mem_append.mp k with k | k
      · exact g.reach y (List.mem_append_left _ k)
      · rw [List.mem_singleton.mp k]
        exact rh
    · rcases List.mem_append.mp k with k | k
      · exact g.reach y (by simp [k])
      · obtain ⟨k1, k2⟩ := List.mem_filter.mp k
        exact rh.step ((hn y k1).mp k2) (rl y k1)
  · have := g.here
    simp only [List.mem_append, List.mem_singleton] at this ⊢
    rcases this with k | k | k
    · exact Or.inl (Or.inl k)
    · exact Or.inr (Or.inl k)
    · exact Or.inl (Or.inr k)
  · refine List.Perm.trans ?_ g.split
    have p1 : (rs.filter nr ++ rs.filter fun y => !nr y).Perm rs := List.filter_append_perm nr rs
    have p2 : (((hs ++ [h]) ++ (ws ++ rs.filter nr)) ++ rs.filter fun y => !nr y).Perm (((hs ++ [h]) ++ ws) ++ rs) := by
      rw [← List.append_assoc (hs ++ [h]) ws, List.append_assoc ((hs ++ [h]) ++ ws)]
      exact List.Perm.append_left _ p1
    refine p2.trans (List.Perm.append_right rs ?_)
    rw [List.append_assoc]
    exact List.Perm.append_left hs List.perm_append_comm
  · obtain ⟨y1, y2⟩ := List.mem_filter.mp hy
    rcases List.mem_append.mp hk with k1 | k1
    · exact g.none k k1 y y1
    · rw [List.mem_singleton.mp k1]
      intro z
      rw [(hn y y1).mpr z] at y2
      cases y2
/-- what is left without those that wait now -/
theorem left_eq {near : Int → Int → Prop} {zs ls : List Int} {x : Int} {hs ws rs : List Int} {h : Int} (g : Inner near zs ls x hs (ws ++ [h]) rs) (hd : ls.Nodup) (nr : Int → Bool) :
    (rs.filter fun y => !decide (y ∈ ws ++ rs.filter nr)) = rs.filter fun y => !nr y := by
  refine List.filter_congr fun y hy => ?_
  have nd : ((hs ++ (ws ++ [h])) ++ rs).Nodup := g.split.nodup_iff.mpr hd
  have nw : y ∉ ws := fun k => (List.nodup_append.mp nd).2.2 y (by simp [k]) y hy rfl
  have e : decide (y ∈ ws ++ rs.filter nr) = nr y := by
    cases k : nr y with
    | true => exact decide_eq_true (List.mem_append_right _ (List.mem_filter.mpr ⟨hy, k⟩))
    | false =>
      refine decide_eq_false fun z => ?_
      rcases List.mem_append.mp z with z | z
      · exact nw z
      · rw [(List.mem_filter.mp z).2] at k
        cases k
  rw [e]
/-- the lots found so far, and what is left -/
structure Outer (near : Int → Int → Prop) (zs : List Int) (cs : List (List Int)) (ls : List Int) : Prop where
  mem : ∀ x, x ∈ zs ↔ (x ∈ ls ∨ ∃ c ∈ cs, x ∈ c)
  ne : ∀ c ∈ cs, c ≠ []
  up : ∀ c ∈ cs, c.Pairwise (· < ·)
  closed : ∀ c ∈ cs, ∀ x ∈ c, ∀ y ∈ zs, near x y → y ∈ c
  conn : ∀ c ∈ cs, ∀ x ∈ c, ∀ y ∈ c, Reach near zs x y
  ord : cs.Pairwise (fun c d => c.headD 0 < d.headD 0)
  least : ∀ c ∈ cs, ∀ y ∈ ls, c.headD 0 < y
  lsup : ls.Pairwise (· < ·)
  sep : ∀ c ∈ cs, ∀ x ∈ c, x ∉ ls
theorem outer_start {near : Int → Int → Prop} {zs : List Int} (h : zs.Pairwise (· < ·)) : Outer near zs [] zs :=
  ⟨fun x => ⟨fun k => Or.inl k, fun k => by
    rcases k with k | ⟨c, k, _⟩
    · exact k
    · cases k⟩, fun _ z => (nomatch z), fun _ z => (nomatch z), fun _ z => (nomatch z), fun _ z => (nomatch z), .nil, fun _ z => (nomatch z), h, fun _ z => (nomatch z)⟩
theorem outer_done {near : Int → Int → Prop} {zs : List Int} {cs : List (List Int)} (g : Outer near zs cs []) : Comps near zs cs :=
  ⟨fun x => ⟨fun k => by
    rcases (g.mem x).mp k with k | k
    · cases k
    · exact k, fun k => (g.mem x).mpr (Or.inr k)⟩, g.ne, g.up, g.closed, g.conn, g.ord⟩
theorem head_least {x : Int} {c : List Int} (hc : c.Pairwise (· < ·)) (hx : x ∈ c) (hm : ∀ y ∈ c, x ≤ y) : c.headD 0 = x := by
  cases c with
  | nil => cases hx
  | cons y c =>
    show y = x
    rcases List.mem_cons.mp hx with k | k
    · exact k.symm
    · have := (List.pairwise_cons.mp hc).1 x k
      have := hm y List.mem_cons_self
      omega
theorem outer_step {near : Int → Int → Prop} {zs : List Int} {cs : List (List Int)} {x : Int} {rest hs rs c : List Int} (sy : ∀ a b, near a b → near b a) (g : Outer near zs cs (x :: rest)) (i : Inner near zs (x :: rest) x hs [] rs) (pm : c.Perm hs) (up : c.Pairwise (· < ·)) :
    Outer near zs (cs ++ [c]) rs := by
  have sp : (hs ++ rs).Perm (x :: rest) := by
    have := i.split
    rwa [List.append_nil] at this
  have nd : (hs ++ rs).Nodup := sp.nodup_iff.mpr (up_nodup g.lsup)
  have reach : ∀ y ∈ c, Reach near zs x y := fun y hy => i.reach y (List.mem_append_left _ (pm.mem_iff.mp hy))
  have xc : x ∈ c := by
    have := i.here
    rw [List.append_nil] at this
    exact pm.mem_iff.mpr this
  have cl : ∀ y ∈ c, y ∈ x :: rest := fun y hy => sp.mem_iff.mp (List.mem_append_left _ (pm.mem_iff.mp hy))
  have rl : ∀ y ∈ rs, y ∈ x :: rest := fun y hy => sp.mem_iff.mp (List.mem_append_right _ hy)
  have xle : ∀ y ∈ x :: rest, x ≤ y := fun y hy => by
    rcases List.mem_cons.mp hy with k | k
    · omega
    · have := (List.pairwise_cons.mp g.lsup).1 y k
      omega
  have hd : c.headD 0 = x := head_least up xc fun y hy => xle y (cl y hy)
  have apart : ∀ y ∈ c, y ∉ rs := fun y hy k => (List.nodup_append.mp nd).2.2 y (pm.mem_iff.mp hy) y k rfl
  have xz : x ∈ zs := (g.mem x).mpr (Or.inl List.mem_cons_self)
  have mem1 : ∀ {d}, d ∈ cs ++ [c] → d ∈ cs ∨ d = c := fun k => by
    rcases List.mem_append.mp k with k | k
    · exact Or.inl k
    · exact Or.inr (List.mem_singleton.mp k)
  refine ⟨fun y => ⟨fun k => ?_, fun k => ?_⟩, fun d k => ?_, fun d k => ?_, fun d k y hy z hz n => ?_, fun d k y hy z hz => ?_, ?_, fun d k y hy => ?_, i.up, fun d k y hy z => ?_⟩
  · rcases (g.mem y).mp k with k | ⟨d, k1, k2⟩
    · rcases List.mem_append.mp (sp.mem_iff.mpr k) with k | k
      · exact Or.inr ⟨c, by simp, pm.mem_iff.mpr k⟩
      · exact Or.inl k
    · exact Or.inr ⟨d, List.mem_append_left _ k1, k2⟩
  · rcases k with k | ⟨d, k1, k2⟩
    · exact (g.mem y).mpr (Or.inl (rl y k))
    · rcases mem1 k1 with k1 | rfl
      · exact (g.mem y).mpr (Or.inr ⟨d, k1, k2⟩)
      · exact (g.mem y).mpr (Or.inl (cl y k2))
  · rcases mem1 k with k | rfl
    · exact g.ne d k
    · exact fun z => by
        rw [z] at xc
        cases xc
  · rcases mem1 k with k | rfl
    · exact g.up d k
    · exact up
  · rcases mem1 k with k | rfl
    · exact g.closed d k y hy z hz n
    · rcases (g.mem z).mp hz with q | ⟨e, q1, q2⟩
      · rcases List.mem_append.mp (sp.mem_iff.mpr q) with q | q
        · exact pm.mem_iff.mpr q
        · exact absurd n (i.none y (pm.mem_iff.mp hy) z q)
      · have yz : y ∈ zs := (g.mem y).mpr (Or.inl (cl y hy))
        exact absurd (cl y hy) (g.sep e q1 y (g.closed e q1 z q2 y yz (sy _ _ n)))
  · rcases mem1 k with k | rfl
    · exact g.conn d k y hy z hz
    · exact ((reach y hy).back sy xz).trans (reach z hz)
  · refine List.pairwise_append.mpr ⟨g.ord, List.pairwise_singleton _ _, fun d k e he => ?_⟩
    rw [List.mem_singleton.mp he, hd]
    exact g.least d k x List.mem_cons_self
  · rcases mem1 k with k | rfl
    · exact g.least d k y (rl y hy)
    · rw [hd]
      have k1 := xle y (rl y hy)
      have k2 : y ≠ x := fun e => apart x xc (e ▸ hy)
      omega
  · rcases mem1 k with k | rfl
    · exact g.sep d k y hy (rl y z)
    · exact apart y hy z
end Mm
namespace Mm
open PySem PySem.Spec PyProof.Rows L2 Evl
theorem inner_ex {near : Int → Int → Prop} {zs ls : List Int} {x : Int} (dn : ∀ a b, Decidable (near a b)) (hl : ∀ y ∈ ls, y ∈ zs) : ∀ (n : Nat) (hs ws rs : List Int), ws.length + rs.length ≤ n → Inner near zs ls x hs ws rs → ∃ hs' rs', Inner near zs ls x hs' [] rs'
  | n, hs, ws, rs, le, g => by
    rcases List.eq_nil_or_concat ws with rfl | ⟨w0, h, rfl⟩
    · exact ⟨hs, rs, g⟩
    · rw [List.concat_eq_append] at g le
      rw [List.length_append, List.length_singleton] at le
      cases n with
      | zero => omega
      | succ n =>
        have st := inner_step g hl (fun y => @decide (near h y) (dn h y)) fun y _ => decide_eq_true_iff
        refine inner_ex dn hl n _ _ _ ?_ st
        have p := (List.filter_append_perm (fun y => @decide (near h y) (dn h y)) rs).length_eq
        rw [List.length_append] at p ⊢
        omega
theorem sorted_of (hs : List Int) (nd : hs.Nodup) : ∃ c : List Int, c.Perm hs ∧ c.Pairwise (· < ·) := by
  refine ⟨hs.mergeSort (fun a b => decide (a ≤ b)), List.mergeSort_perm _ _, ?_⟩
  have s := List.pairwise_mergeSort (le := fun a b : Int => decide (a ≤ b)) (fun a b c h1 h2 => by simp at *; omega) (fun a b => by simp; omega) hs
  have n := (List.mergeSort_perm hs (fun a b => decide (a ≤ b))).nodup_iff.mpr nd
  exact (List.Pairwise.and s n).imp fun h => by
    have h1 : _ ≤ _ := of_decide_eq_true h.1
    have h2 := h.2
    omega
theorem outer_ex {near : Int → Int → Prop} {zs : List Int} (dn : ∀ a b, Decidable (near a b)) (sy : ∀ a b, near a b → near b a) : ∀ (n : Nat) (cs : List (List Int)) (ls : List Int), ls.length ≤ n → Outer near zs cs ls → ∃ cs', Comps near zs cs'
  | n, cs, [], _, g => ⟨cs, outer_done g⟩
  | 0, cs, x :: rest, le, g => by simp at le
  | n + 1, cs, x :: rest, le, g => by
    have hl : ∀ y ∈ x :: rest, y ∈ zs := fun y hy => (g.mem y).mpr (Or.inl hy)
    obtain ⟨hs, rs, i⟩ := inner_ex dn hl _ [] [x] rest (Nat.le_refl _) (inner_start g.lsup)
    have sp : (hs ++ rs).Perm (x :: rest) := by
      have := i.split
      rwa [List.append_nil] at this
    have nd := sp.nodup_iff.mpr (up_nodup g.lsup)
    obtain ⟨c, pm, up⟩ := sorted_of hs (List.nodup_append.mp nd).1
    refine outer_ex dn sy n _ rs ?_ (outer_step sy g i pm up)
    have l := sp.length_eq
    have hp : 1 ≤ hs.length := by
      have := i.here
      rw [List.append_nil] at this
      exact List.length_pos_of_mem this
    rw [List.length_append, List.length_cons] at l
    rw [List.length_cons] at le
    omega
theorem comps_ex {near : Int → Int → Prop} {zs : List Int} (dn : ∀ a b, Decidable (near a b)) (sy : ∀ a b, near a b → near b a) (h : zs.Pairwise (· < ·)) : ∃ cs, Comps near zs cs := outer_ex dn sy zs.length [] zs (Nat.le_refl _) (outer_start h)
/-- two bars have a knot in common -/
def nearR (b x y : Int) : Prop := nearP b y [(endsB b x).1, (endsB b x).2] = true
instance (b x y : Int) : Decidable (nearR b x y) := inferInstanceAs (Decidable (_ = true))
theorem nearR_sym (b : Int) : ∀ x y, nearR b x y → nearR b y x := fun x y h => by
  unfold nearR nearP at h ⊢
  simp only [List.mem_cons, List.mem_nil_iff, or_false, Bool.or_eq_true, decide_eq_true_eq] at h ⊢
  rcases h with (h | h) | (h | h)
  · exact Or.inl (Or.inl h.symm)
  · exact Or.inr (Or.inl h.symm)
  · exact Or.inl (Or.inr h.symm)
  · exact Or.inr (Or.inr h.symm)
/-- the holes of a tear -/
noncomputable def holesZ (b : Int) (zs : List Int) : List (List Int) := by
  classical exact if h : ∃ cs, Comps (nearR b) zs cs then h.choose else []
theorem holesZ_comps {a b : Int} {zs : List Int} (t : Tear a b zs) : Comps (nearR b) zs (holesZ b zs) := by
  have h : ∃ cs, Comps (nearR b) zs cs := comps_ex (fun _ _ => inferInstance) (nearR_sym b) t.up
  unfold holesZ
  rw [dif_pos h]
  exact h.choose_spec
theorem holesZ_eq {a b : Int} {zs : List Int} {cs : List (List Int)} (t : Tear a b zs) (h : Comps (nearR b) zs cs) : cs = holesZ b zs := h.eq (holesZ_comps t)
def RHoles : List PyData → PyData → Prop := fun ds d => ∃ a b zs, Sheet a b ∧ Tear a b zs ∧ ds = [shd a b, tearD zs] ∧ d = .tuple ((holesZ b zs).map tearD)
end Mm

namespace Mm
open PySem PySem.Spec PyProof.Rows L2 Evl
section
variable {K : PySem.W.Frag} {H H' : Hp} {σ : L2.St} {te : TE} {ds : List PyData} {D : Ends} {z : TS}
theorem qd_extV {l : Addr} {xs : List V} {k : Nat} (hk : σ[k]? = some (some (.ref l))) (hl : H l = some (.lst xs)) (h : EvN K te σ H ds) (hz : xs.length + ds.length ≤ 100000)
    (n : ∀ vs H1, Ex H H1 → DaAll K H1 vs ds → z D σ (upd H1 l (.lst (xs ++ vs)))) : tSeq (tDrop (tBM K "list" rExtend (tVar k) (tCons te tNil))) z D σ H := sd_extV (D := { D with nx := z D }) hk hl h hz n
theorem sd_asgN {k : Nat} (h : EvN K te σ H ds) (n : ∀ l xs H1, H l = none → Ex H H1 → H1 l = some (.lst xs) → DaAll K H1 xs ds → D.nx (σ.set k (some (.ref l))) H1) : tAsg te (gName k) D σ H :=
  h H (Ex.refl H) _ fun l xs H1 nl e hl hx => n l xs H1 nl e hl hx
theorem en_is {es : List PyData} (h : EvN K te σ H ds) (e : ds = es) : EvN K te σ H es := e ▸ h
theorem cut_tail (x : V) (l : List V) : cutV (x :: l) (some 1) none = l := by
  unfold cutV
  have e : HT.sIx (x :: l).length 0 (some 1) = 1 := by
    rw [show (some (1 : Int)) = some ((1 : Nat) : Int) from rfl, HT.sIx_nat]
    rw [List.length_cons]
    omega
  rw [e, HT.sIx_none]
  show (l.take ((x :: l).length - 1)) = l
  rw [List.length_cons, Nat.add_sub_cancel, List.take_length]
theorem ints_map : ∀ {zs : List Int} {xs : List V}, DaAll K H xs (zs.map .int) → xs = zs.map V.int
  | [], _, .nil => rfl
  | z :: zs, _, .cons h r => by
    rw [dp_intI h, ints_map r]
    rfl
end
end Mm

set_option Elab.async false
set_option linter.all false
set_option maxRecDepth 100000
set_option maxHeartbeats 4000000
namespace Mm
open PySem PySem.Spec PyProof.Rows L2 Evl HT

/-! ### t[::-1] -/
section
variable {prog : Program} {w : World} {A : Around} {E : Value → Shared → Prop} {s : Shared}
theorem adjust_rev (n : Nat) : Builtin.Slice.sliceAdjust none none (-1) (n : Int) = ((n : Int) - 1, -1) := by
  unfold Builtin.Slice.sliceAdjust
  simp
theorem places_rev (n : Nat) : Builtin.Slice.slicePlaces ((n : Int) - 1) (-1) (-1) = n := by
  unfold Builtin.Slice.slicePlaces
  have h1 : ¬ ((-1 : Int) > 0) := by omega
  rw [if_neg h1]
  split
  · rw [show (-(-1) : Int) = 1 by omega, Int.ediv_one]
    omega
  · omega
theorem applied_rev {sl : Addr} {vl vu vs : Value} {n : Nat} {Q : Int × Int × Nat → Shared → Prop} (hs : s.heap.IsSliceOf sl vl vu vs) (pl : IsPart vl none) (pu : IsPart vu none) (ps : IsPart vs (some (-1)))
    (h : Q ((n : Int) - 1, -1, n) s) : wpAny (model prog w) A (Builtin.Slice.sliceApplied (.ref sl) (pure (n : Int))) Q E s := by
  obtain ⟨os, hos, hcs, hds⟩ := id hs
  unfold Builtin.Slice.sliceApplied Builtin.Slice.sliceFields
  refine wpAny_bind (wpAny_bind (wpAny_field hos hds (x := vl) rfl (wpAny_bind (wpAny_field hos hds (x := vu) rfl (wpAny_bind (wpAny_field hos hds (x := vs) rfl (wpAny_pure ?_)))))))
  refine wpAny_bind (slicePart_ ps ?_)
  show wpAny _ _ (if ((-1 : Int) == 0) = true then _ else _) _ _ s
  rw [if_neg (by decide)]
  refine wpAny_bind (slicePart_ pl (wpAny_bind (slicePart_ pu (wpAny_bind (wpAny_pure ?_)))))
  show wpAny _ _ (match Builtin.Slice.sliceAdjust none none (-1) (n : Int) with | (lo, hi) => pure (lo, (-1 : Int), Builtin.Slice.slicePlaces lo hi (-1))) _ _ s
  rw [adjust_rev n]
  show wpAny _ _ (pure ((n : Int) - 1, (-1 : Int), Builtin.Slice.slicePlaces ((n : Int) - 1) (-1) (-1))) _ _ s
  rw [places_rev]
  exact wpAny_pure h
theorem pick_rev (xs : Array Value) : ((List.range xs.size).filterMap fun (m : Nat) => xs[(((xs.size : Nat) : Int) - 1 + (m : Int) * -1).toNat]?).toArray = xs.toList.reverse.toArray := by
  have e : (List.range xs.size).filterMap (fun (m : Nat) => xs[(((xs.size : Nat) : Int) - 1 + (m : Int) * -1).toNat]?) = (List.range xs.size).filterMap fun m => xs.toList.reverse.toArray[0 + m]? := by
    have key : ∀ l : List Nat, (∀ m ∈ l, m < xs.size) → l.filterMap (fun (m : Nat) => xs[(((xs.size : Nat) : Int) - 1 + (m : Int) * -1).toNat]?) = l.filterMap fun m => xs.toList.reverse.toArray[0 + m]? := by
      intro l
      induction l with
      | nil => intro _; rfl
      | cons m l ih =>
        intro h
        have hm := h m List.mem_cons_self
        have e1 : xs[(((xs.size : Nat) : Int) - 1 + (m : Int) * -1).toNat]? = xs.toList.reverse.toArray[0 + m]? := by
          rw [show (((xs.size : Nat) : Int) - 1 + (m : Int) * -1).toNat = xs.size - 1 - m by omega, Nat.zero_add, ← Array.getElem?_toList]
          show xs.toList[xs.size - 1 - m]? = (xs.toList.reverse.toArray)[m]?
          rw [List.getElem?_toArray, List.getElem?_reverse (by rw [Array.length_toList]; exact hm), Array.length_toList]
        rw [List.filterMap_cons, List.filterMap_cons, e1, ih fun k hk => h k (List.mem_cons_of_mem _ hk)]
    exact key _ fun m hm => List.mem_range.mp hm
  rw [e]
  have := pick_run xs.toList.reverse.toArray 0 xs.size
  rw [List.filterMap_map] at this
  have e2 : ((fun x => xs.toList.reverse.toArray[x]?) ∘ fun x => 0 + x) = fun m => xs.toList.reverse.toArray[0 + m]? := rfl
  rw [e2] at this
  rw [this]
  have l : xs.toList.reverse.length ≤ xs.size := by simp
  show (List.take xs.size (List.drop 0 xs.toList.reverse)).toArray = _
  rw [List.drop_zero, List.take_of_length_le l]
theorem getItem_rev {t sl : Addr} {items : Array Value} {vl vu vs : Value} {Q : Value → Shared → Prop} (ht : IsTup s.heap t items) (hs : s.heap.IsSliceOf sl vl vu vs) (pl : IsPart vl none) (pu : IsPart vu none) (ps : IsPart vs (some (-1)))
    (h : Q (.ref s.heap.objs.size) { s with heap := s.heap.push { cls := .type "tuple", data := .seq items.toList.reverse.toArray } })
    (hsz : items.size ≤ sizeLine) : wpAny (model prog w) A (getItem (.ref t) (.ref sl)) Q E s := by
  have htake : sizeOk (.seq items.toList.reverse.toArray) := by
    show items.toList.reverse.toArray.size ≤ sizeLine
    simpa using hsz
  obtain ⟨os, hos, hcs, hds⟩ := id hs
  have hTs : s.TypeIs (.ref sl) "slice" := ⟨os, hos, hcs⟩
  unfold getItem
  try with_reducible refine wpAny_holding ?_
  first | refine wpAny_bind (wpAny_pure ?_) | skip
  refine wpAny_bind (wpAny_sequenceKey ht.typeIs (by decide) ?_)
  refine wpAny_bind (wpAny_callSpecial?_slot (name := Str.ofString "__getitem__") ht.typeIs PyProof.Rows.slot_tuple_getitem
    (wpAny_call_entry PyProof.Rows.slot_tuple_getitem ht.typeIs entry_tuple_getitem ?_ (args_tuple_getitem _ _)))
  show wpAny _ _ (Builtin.Tuple.tupleItemsOf (.ref t) >>= _) _ _ s
  refine wpAny_bind (tupleItemsOf_ ht ?_)
  refine wpAny_bind (wpAny_typeOf hTs ?_)
  rw [if_pos (by decide)]
  refine wpAny_bind (applied_rev hs pl pu ps ?_)
  have hno : ¬ ((((items.size : Nat) : Int) - 1 == 0 && (-1 : Int) == 1 && items.size == items.size) = true) := by
    intro q
    rw [Bool.and_eq_true, Bool.and_eq_true] at q
    exact absurd q.1.2 (by decide)
  show wpAny _ _ (if (((items.size : Nat) : Int) - 1 == 0 && (-1 : Int) == 1 && items.size == items.size) = true then _ else _) _ _ s
  rw [if_neg hno, pick_rev]
  first
    | exact wpAny_bind (m := Builtin.Tuple.tupleExact _) (wpAny_newObj_type (wpAny_pure ⟨_, rfl, wpAny_pure h⟩) htake)
    | exact wpAny_bind (m := Builtin.Tuple.tupleExact _) (wpAny_newObj_type (wpAny_bind (wpAny_pure (wpAny_pure ⟨_, rfl, wpAny_pure h⟩))) htake)
    | exact wpAny_bind (wpAny_bind (m := Builtin.Tuple.tupleExact _) (wpAny_newObj_type (wpAny_pure (wpAny_pure ⟨_, rfl, wpAny_pure h⟩)) htake))
    | exact wpAny_bind (wpAny_bind (m := Builtin.Tuple.tupleExact _) (wpAny_newObj_type (wpAny_pure ⟨_, rfl, wpAny_pure h⟩) htake))
end
def tRevT (K : PySem.W.Frag) (te : TE) : TE := fun σ H Q => te σ H fun x H1 => ∃ a xs, x = .ref a ∧ SqT K H1 a xs ∧ ∀ p, H1 p = none → Q (.ref p) (upd H1 p (.tup xs.reverse))
theorem pe_revT {X : Cx} {e : Expr} {te : TE} {k : Nat} {p1 p2 p3 pos : Pos} (he : PE X e te) : PE X (.Subscript e (.Slice none none (some (.UnaryOp .USub (.Constant (.int 1) k p1) p2)) p3) pos) (tRevT X.K te) := by
  refine ⟨fun pins s σ H Q I h => ?_⟩
  refine Subscript_ (thn (he.run pins s σ H _ I h) fun v s1 ⟨x, H1, I1, r1, q1⟩ => ?_)
  obtain ⟨a, xs, ex, hx, q⟩ := q1
  subst ex
  cases r1
  have hst : PO X (some (.UnaryOp .USub (.Constant (.int 1) k p1) p2)) (tPart (tUn (rU fun i => .int (-i)) (tC (.int 1)))) := po_some (pe_un un_neg pe_int)
  refine wpAny_Slice (thn (po_none.run pins s1 σ H1 (fun o H2 => o = none ∧ H2 = H1) I1 ⟨rfl, rfl⟩) fun vl s2 ⟨l, H2, I2, pl, el, e2⟩ => ?_)
  subst el e2
  refine thn (po_none.run pins s2 σ H2 (fun o H3 => o = none ∧ H3 = H2) I2 ⟨rfl, rfl⟩) fun vu s3 ⟨u, H3, I3, pu, eu, e3⟩ => ?_
  subst eu e3
  refine thn (hst.run pins s3 σ H3 (fun o H4 => o = some (-1) ∧ H4 = H3) I3 ⟨1, rfl, -1, rfl, rfl, rfl⟩) fun vs s4 ⟨o, H4, I4, ps, eo, e4⟩ => ?_
  subst eo e4
  have I5 : Inv X pins σ H4 { s4 with heap := s4.heap.push { cls := .type "slice", data := .fields #[vl, vu, vs] } } := I4.kept (t' := s4.toks) fun b ob q => Heap.get?_push_of_some _ q
  obtain ⟨its, r, ht, hz⟩ := I5.tuple hx
  have hlen := r.length
  show wpAny (model X.prog X.w) X.A (subscriptTail e (.Slice none none (some (.UnaryOp .USub (.Constant (.int 1) k p1) p2)) p3) (.ref a) (.ref s4.heap.objs.size)) (EP X pins σ Q) X.xe { s4 with heap := s4.heap.push { cls := .type "slice", data := .fields #[vl, vu, vs] } }
  refine tail_any (ops := [.ref a, .ref s4.heap.objs.size]) ht.typeIs (PyProof.Rows.slot_tuple_getitem.lookup) ?_ (by with_unfolding_all rfl)
  refine getItem_rev ht (Heap.IsSliceOf.new _ vl vu vs) pl pu ps ?_ (by rw [List.size_toArray]; omega)
  have hrev : its.toArray.toList.reverse = its.reverse := by simp
  rw [hrev]
  refine ⟨.ref _, _, I5.laid (t' := s4.toks) (o := .tup xs.reverse) (fun b ob q => Heap.get?_push_of_some _ q) (Nat.le_refl _) ?_, rfl, q _ (I5.hok.fresh (Nat.le_refl _))⟩
  exact ⟨by rw [List.length_reverse]; exact hz, its.reverse, r.reverse, IsTup.new _ _⟩
end Mm

set_option Elab.async false
set_option linter.all false
set_option maxRecDepth 100000
set_option maxHeartbeats 4000000
namespace Mm
open PySem PySem.Spec PyProof.Rows L2 Evl

/-! ### what has no list of before -/
def cutL (H0 H : Hp) : Hp := fun a => match H0 a with
  | some (.lst _) => none
  | _ => H a
theorem cutL_ex (H0 H : Hp) : Ex (cutL H0 H) H := fun a o h => by
  unfold cutL at h
  split at h
  · cases h
  · exact h
theorem cutL_of {H0 H : Hp} {a : Addr} (h : ∀ xs, H0 a ≠ some (.lst xs)) : cutL H0 H a = H a := by
  unfold cutL
  split
  · rename_i e
    exact absurd e (h _)
  · rfl
theorem cutL_no {H0 H : Hp} {a : Addr} {o : HO} (h : cutL H0 H a = some o) : ∀ xs, H0 a ≠ some (.lst xs) := fun xs e => by
  unfold cutL at h
  rw [e] at h
  cases h
theorem cutL_ey {H0 H H' : Hp} (e : Ey H H') : Ey (cutL H0 H) (cutL H0 H') := fun a o h n => by
  rw [cutL_of (cutL_no h)]
  exact e a o (cutL_ex H0 H a o h) n
theorem cutL_le {H0 H1 H : Hp} (h : ∀ a xs, H0 a = some (.lst xs) → ∃ ys, H1 a = some (.lst ys)) : Ex (cutL H1 H) (cutL H0 H) := fun a o e => by
  rw [cutL_of fun xs he => ?_]
  · exact cutL_ex H1 H a o e
  · obtain ⟨ys, h1⟩ := h a xs he
    exact cutL_no e ys h1
theorem cutL_leY {H0 H1 H : Hp} (e : Ey H0 H1) : Ex (cutL H1 H) (cutL H0 H) := cutL_le fun a xs h => ⟨xs, e a _ h (fun z => z)⟩
theorem cut_cutL (H0 H : Hp) : Ex (cut H0 H) (cutL H0 H) := fun a o h => by
  obtain ⟨h1, h2⟩ := cut_some h
  rw [cutL_of fun xs e => h2 _ e]
  exact h1
theorem cutL_upd {H0 H : Hp} {l : Addr} {xs : List V} {o : HO} (h : H0 l = some (.lst xs)) : cutL H0 (upd H l o) = cutL H0 H := by
  funext a
  by_cases e : a = l
  · subst e
    unfold cutL
    rw [h]
  · unfold cutL
    rw [upd_ne e]
theorem cutL_at {H Hn H' : Hp} {p : Addr} (e : Ey H Hn) (n : Hn p = none) : cutL H H' p = H' p := cutL_of fun xs he => by
  have := e p _ he (fun z => z)
  rw [n] at this
  cases this
/-- what is a tuple now was no list before -/
theorem cutL_et {H H' : Hp} (e : Ey H H') : Et H' (cutL H H') := fun a o h k => by
  rw [cutL_of fun xs he => ?_]
  · exact h
  · have := e a _ he (fun z => z)
    rw [h] at this
    cases this
    rcases k with ⟨_, z | ⟨_, z⟩⟩ <;> cases z
theorem flat_cutL {K : PySem.W.Frag} {H H' : Hp} {v : V} {d : PyData} (e : Ey H H') (f : flat d = true) (h : Da K H' v d) : Da K (cutL H H') v d := dpt (cutL_et e) f h
/-! ### tuples by their items -/
def EvU (K : PySem.W.Frag) (te : TE) (σ : L2.St) (H : Hp) (xs : List V) : Prop := ∀ H1, Ex H H1 → ∀ Q : VK, (∀ p H2, Ex H1 H2 → SqT K H2 p xs → Q (.ref p) H2) → te σ H1 Q
def EvVs (ta : TA) (σ : L2.St) (H : Hp) (vs : List V) : Prop := ∀ H1, Ex H H1 → ∀ Q : List V → Hp → Prop, (∀ H2, Ex H1 H2 → Q vs H2) → ta σ H1 Q
section
variable {K : PySem.W.Frag} {H H' : Hp} {σ : L2.St} {ta tb tc te tl : TE} {tr : TA} {xs ys : List V}
theorem vs_nil : EvVs tNil σ H [] := fun H1 _ _ q => q H1 (Ex.refl H1)
theorem vs_var {k : Nat} {v : V} (h : σ[k]? = some (some v)) (r : EvVs tr σ H xs) : EvVs (tCons (tVar k) tr) σ H (v :: xs) := fun H1 e Q q => ⟨v, h, r H1 e _ fun H2 e2 => q H2 e2⟩
theorem eu_var {k : Nat} {a : Addr} (h : σ[k]? = some (some (.ref a))) (ht : SqT K H a xs) : EvU K (tVar k) σ H xs := fun H1 e Q q => ⟨_, h, q a H1 (Ex.refl H1) (ex_t e ht)⟩
theorem eu_tup (h : EvVs tr σ H xs) (hl : xs.length ≤ 100000) : EvU K (tTup tr) σ H xs := fun H1 e Q q => h H1 e _ fun H2 e2 => ⟨sz_of hl, fun p np => q p _ (e2.trans (Ex.new np)) (SqT.of upd_same)⟩
theorem eu_cat (ha : EvU K ta σ H xs) (hb : EvU K tb σ H ys) (hl : xs.length + ys.length ≤ 100000) : EvU K (tOp (rCatA K) ta tb) σ H (xs ++ ys) := fun H1 e Q q =>
  ha H1 e _ fun p H2 e2 hp => hb H2 (e.trans e2) _ fun r H3 e3 hr => ⟨p, r, xs, ys, rfl, rfl, ex_t e3 hp, hr, sz_of hl, fun z => by
    subst z
    exact q r H3 (e2.trans e3) hr, fun _ z => by
    subst z
    rw [List.append_nil] at q
    exact q p H3 (e2.trans e3) (ex_t e3 hp), fun _ _ t nt => q t _ ((e2.trans e3).trans (Ex.new nt)) (SqT.of upd_same)⟩
theorem cut_whole {xs : List V} {lo hi : Option Int} (h : HT.sIx xs.length 0 lo = 0 ∧ HT.sIx xs.length xs.length hi = xs.length) : cutV xs lo hi = xs := by
  unfold cutV
  rw [h.1, h.2, List.drop_zero, Nat.sub_zero, List.take_length]
theorem eu_sl {tl th : TO} {lo hi : Option Int} (h : EvU K te σ H xs) (hl : ∀ H1, Ex H H1 → ∀ Q : Option Int → Hp → Prop, (∀ H2, Ex H1 H2 → Q lo H2) → tl σ H1 Q) (hh : ∀ H1, Ex H H1 → ∀ Q : Option Int → Hp → Prop, (∀ H2, Ex H1 H2 → Q hi H2) → th σ H1 Q) :
    EvU K (tSl (rSlA K) te tl th) σ H (cutV xs lo hi) := fun H1 e Q q => h H1 e _ fun p H2 e2 hp => hl H2 (e.trans e2) _ fun H3 e3 => hh H3 ((e.trans e2).trans e3) _ fun H4 e4 =>
  ⟨p, xs, rfl, ex_t (e3.trans e4) hp, fun z => by
    rw [cut_whole z] at q
    exact q p H4 ((e2.trans e3).trans e4) (ex_t (e3.trans e4) hp), fun _ t nt => q t _ (((e2.trans e3).trans e4).trans (Ex.new nt)) (SqT.of upd_same)⟩
theorem po_no : ∀ H1, Ex H H1 → ∀ Q : Option Int → Hp → Prop, (∀ H2, Ex H1 H2 → Q none H2) → tNoPart σ H1 Q := fun H1 _ Q q => q H1 (Ex.refl H1)
theorem po_int {i : Int} (h : EvD K te σ H (.int i)) : ∀ H1, Ex H H1 → ∀ Q : Option Int → Hp → Prop, (∀ H2, Ex H1 H2 → Q (some i) H2) → tPart te σ H1 Q := fun H1 e Q q => h H1 e _ fun v H2 e2 dv => ⟨i, dp_intI dv, q H2 e2⟩
theorem eu_rev (h : EvU K te σ H xs) : EvU K (tRevT K te) σ H xs.reverse := fun H1 e Q q => h H1 e _ fun p H2 e2 hp => ⟨p, xs, rfl, hp, fun t nt => q t _ (e2.trans (Ex.new nt)) (SqT.of upd_same)⟩
theorem cutV_mem {xs : List V} {lo hi : Option Int} {x : V} (h : x ∈ cutV xs lo hi) : x ∈ xs := by
  unfold cutV at h
  exact List.mem_of_mem_drop (List.mem_of_mem_take h)
theorem cutV_len (xs : List V) (lo hi : Option Int) : (cutV xs lo hi).length ≤ xs.length := by
  unfold cutV
  rw [List.length_take, List.length_drop]
  omega
end
end Mm
namespace Mm
open PySem PySem.Spec PyProof.Rows L2 Evl
/-! ### what keeps a value from being a tear -/
def aheadOf : Option Int → PyData → Bool
  | some y, .int z => decide (y < z)
  | _, _ => true
def asInt : PyData → Option Int
  | .int z => some z
  | _ => none
def tearFrom (N : Int) : Nat → Option Int → List PyData → PyData
  | _, _, [] => .none
  | i, prev, d :: ds => if (inB 0 (N - 1) d && aheadOf prev d) = true then tearFrom N (i + 1) (asInt d) ds else .int (i : Int)
def tearE (N : Int) : PyData → PyData
  | .tuple ds => tearFrom N 0 none ds
  | _ => .int (-1)
theorem tearFrom_no {N : Int} {i : Nat} {prev : Option Int} {d : PyData} {ds : List PyData} (h : inB 0 (N - 1) d = false) : tearFrom N i prev (d :: ds) = .int (i : Int) := by
  rw [tearFrom, h, Bool.false_and, if_neg (by decide)]
theorem tearFrom_int {N : Int} {i : Nat} {prev : Option Int} {z : Int} {ds : List PyData} (h : inB 0 (N - 1) (.int z) = true) :
    tearFrom N i prev (.int z :: ds) = if (match prev with | none => true | some y => decide (y < z)) = true then tearFrom N (i + 1) (some z) ds else .int (i : Int) := by
  rw [tearFrom, h, Bool.true_and]
  cases prev <;> rfl
def RTearE : List PyData → PyData → Prop := fun ds d => ∃ a b x, Sheet a b ∧ (∀ es, x = .tuple es → es.length ≤ 50000) ∧ ds = [shd a b, x] ∧ d = tearE (a * b) x
theorem tearE_tr (n : Nat) (N : Int) (x : PyData) (hx : ∀ es, x = .tuple es → es.length ≤ 50000) : TameR n 160 (tearE N x) := by
  have key : ∀ (es : List PyData) (i : Nat) (prev : Option Int), i + es.length ≤ 50000 → TameR n 160 (tearFrom N i prev es) := by
    intro es
    induction es with
    | nil => intro i prev _; exact tr_leaf n rfl (fun i e => by cases e) (fun x e => by cases e)
    | cons d ds ih =>
      intro i prev h
      rw [List.length_cons] at h
      have hi : TameR n 160 (.int (i : Int)) := tr_leaf n rfl (fun j e => by cases e; exact Nat.lt_of_lt_of_le (show (i : Int).natAbs < 50001 by omega) (by decide)) (fun x e => by cases e)
      rw [tearFrom]
      split
      · exact ih (i + 1) _ (by omega)
      · exact hi
  cases x with
  | tuple es => exact key es 0 none (by have := hx es rfl; omega)
  | _ => exact tr_leaf n rfl (fun j e => by cases e; decide) (fun x e => by cases e)
end Mm
namespace Mm
open PySem PySem.Spec PyProof.Rows L2 Evl
/-! ### a tuple of numbers bent -/
def spBent (K : PySem.W.Frag) : Sp := fun vs H Q _ => ∃ (D L : Addr) (ns : List Int) (B : Nat) (pv : Addr) (zs : List Int), vs = [.ref D, .ref pv] ∧ Dk H D L ns B ∧ B < 800000000 ∧ SqT K H pv (zs.map V.int) ∧ zs ≠ [] ∧ zs.length ≤ 64 ∧ (∀ z ∈ zs, 0 ≤ z ∧ z < 64) ∧
  ∀ x d H', Ey H H' → Dk H' D L ns (B + 30) → Da K (cutL H H') x d → TameR 10 150000 d → (∀ es, d = .tuple es → es.length ≤ 1000) → Q x H'
theorem str_small : ∀ n : Nat, n < 64 → PyData.leavesShort 60 (.str (toString (n : Int))) = true ∧ (Str.ofString (toString (n : Int))).cps.size ≤ 150 := by decide +kernel
theorem bent_items {K : PySem.W.Frag} {H : Hp} {zs : List Int} {vo : V} {o : PyData} (hz : ∀ z ∈ zs, 0 ≤ z ∧ z < 64) (ho : Da K H vo o) (to : TameR 3 1000 o) : ∀ ys : List V, (∀ y ∈ ys, y ∈ zs.map V.int ∨ y = vo) → ∃ ds, DaAll K H ys ds ∧ ds.length = ys.length ∧ ∀ d ∈ ds, TameR 3 1000 d
  | [], _ => ⟨[], .nil, rfl, fun _ h => nomatch h⟩
  | y :: ys, h => by
    obtain ⟨ds, d1, d2, d3⟩ := bent_items hz ho to ys fun x hx => h x (List.mem_cons_of_mem _ hx)
    rcases h y List.mem_cons_self with k | k
    · obtain ⟨z, hzm, rfl⟩ := List.mem_map.mp k
      have zb := hz z hzm
      refine ⟨.int z :: ds, .cons (.int z) d1, by rw [List.length_cons, List.length_cons, d2], fun d hd => ?_⟩
      rcases List.mem_cons.mp hd with e | e
      · rw [e]
        exact (tr_leaf 3 rfl (fun j e => by cases e; exact Nat.lt_of_lt_of_le (show z.natAbs < 65 by omega) (by decide)) (fun x e => by cases e)).mono (Nat.le_refl _) (by decide)
      · exact d3 d e
    · subst k
      refine ⟨o :: ds, .cons ho d1, by rw [List.length_cons, List.length_cons, d2], fun d hd => ?_⟩
      rcases List.mem_cons.mp hd with e | e
      · rw [e]
        exact to
      · exact d3 d e
theorem q_cutY {D : Ends} {σ : L2.St} {H : Hp} {t u : TS} (M : L2.St → Hp → Prop) (h : t { D with nx := M } σ H) (k : ∀ σ' H', M σ' H' → u D σ' H') : tCut t u D σ H := ⟨M, h, k⟩
theorem use_eu {K : PySem.W.Frag} {te : TE} {σ : L2.St} {H : Hp} {xs : List V} {Q : VK} (h : EvU K te σ H xs) (n : ∀ p H1, Ex H H1 → SqT K H1 p xs → Q (.ref p) H1) : te σ H Q := h H (Ex.refl H) Q n
theorem sy_ifAnd {σ : L2.St} {H : Hp} {D : Ends} {t u : TT} {ty : TS} {Pb : Bool → Hp → Prop} (h1 : EvT t σ H true) (h2 : ∀ H1, Ex H H1 → ∀ Q : Bool → Hp → Prop, (∀ b H2, Pb b H2 → Q b H2) → u σ H1 Q) (ht : ∀ H1, Pb true H1 → ty D σ H1) (hf : ∀ H1, Pb false H1 → D.nx σ H1) :
    tIfS (tAnd t u) ty tNext D σ H := h1 H (Ex.refl H) _ fun H1 e1 => by
  show u σ H1 _
  exact h2 H1 e1 _ fun b H2 p => by
    cases b with
    | true =>
      show ty D σ H2
      exact ht H2 p
    | false =>
      show D.nx σ H2
      exact hf H2 p
/-- what may be judged and shown -/
def OkV (d : PyData) : Prop := TameR 20 180000 d ∧ ∀ es, d = .tuple es → es.length ≤ 50000
theorem len_weight : ∀ es : List PyData, es.length ≤ PyData.weightAll es
  | [] => Nat.zero_le _
  | e :: es => by
    have := len_weight es
    simp only [PyData.weightAll, List.length_cons]
    omega
theorem okv_tr {n w : Nat} {d : PyData} (h : TameR n w d) (hn : n ≤ 20) (hw : w ≤ 50000) : OkV d := ⟨h.mono hn (by omega), fun es e => by
  subst e
  have := h.wt
  simp only [PyData.weight] at this
  have := len_weight es
  omega⟩
section
variable {K : PySem.W.Frag} {H H' : Hp} {σ : L2.St} {ta tb tc te tl : TE} {tr : TA} {ds es : List PyData}
theorem ints_of : ∀ {zs : List Int} {xs : List V}, DaAll K H xs (zs.map .int) → xs = zs.map V.int
  | [], _, .nil => rfl
  | z :: zs, _, .cons h r => by
    rw [dp_intI h, ints_of r]
    rfl
theorem dps_rev : ∀ {ds : List PyData} {xs : List V}, DaAll K H xs ds → DaAll K H xs.reverse ds.reverse
  | _, _, .nil => .nil
  | _, _, .cons h r => by
    rw [List.reverse_cons, List.reverse_cons]
    exact dps_app (dps_rev r) (.cons h .nil)
theorem ed_rev (h : EvD K te σ H (.tuple ds)) : EvD K (tRevT K te) σ H (.tuple ds.reverse) := fun H1 e Q q => h H1 e _ fun v H2 e2 dv => by
  obtain ⟨a, ys, rfl, hl, ha⟩ := dp_tupI dv
  exact ⟨a, ys, rfl, hl, fun p np => q _ _ (e2.trans (Ex.new np)) (.tup (SqT.of upd_same) (dpsm (Ex.new np) (dps_rev ha)))⟩
theorem ed_dict0 : EvD K tDNewK σ H (.dict []) := fun H1 _ Q q p np => q _ _ (Ex.new np) (.dic upd_same .nil)
theorem en_cat {k : Nat} {l : Addr} {xs : List V} (hk : σ[k]? = some (some (.ref l))) (hl : H l = some (.lst xs)) (hx : DaAll K H xs ds) (h : EvN K tb σ H es) (len : ds.length + es.length ≤ 100000) : EvN K (tOp rCat (tVar k) tb) σ H (ds ++ es) := fun H1 e Q q =>
  ⟨.ref l, hk, h H1 e _ fun l2 ys H2 nl2 e2 hl2 hy => ⟨l, l2, xs, ys, rfl, rfl, (e.trans e2) _ _ hl, hl2, sz_of (by rw [dps_len hx, dps_len hy]; exact len), fun p np => q p _ _ (fresh_back e2 np) (e2.trans (Ex.new np)) upd_same (dps_app (dpsm (e.trans (e2.trans (Ex.new np))) hx) (dpsm (Ex.new np) hy))⟩⟩
theorem opD_catU (h : ds.length + es.length ≤ 100000) : OpD K (rCatA K) (.tuple ds) (.tuple es) (.tuple (ds ++ es)) := fun H1 x y hx hy Q q => by
  obtain ⟨p, xs, rfl, h1, a1⟩ := dp_tupI hx
  obtain ⟨r, ys, rfl, h2, a2⟩ := dp_tupI hy
  have l1 := dps_len a1
  have l2 := dps_len a2
  refine ⟨p, r, xs, ys, rfl, rfl, h1, h2, sz_of (by omega), fun z => ?_, fun _ z => ?_, fun _ _ t nt => q _ _ (Ex.new nt) (.tup (SqT.of upd_same) (dpsm (Ex.new nt) (dps_app a1 a2)))⟩
  · subst z
    cases a1
    exact q _ H1 (Ex.refl H1) (.tup h2 a2)
  · subst z
    cases a2
    rw [List.append_nil] at q
    exact q _ H1 (Ex.refl H1) (.tup h1 a1)
end
end Mm

namespace Mm
open PySem PySem.Spec PyProof.Rows L2 Evl
section
variable {K : PySem.W.Frag} {H H' : Hp} {σ : L2.St} {te : TE} {tt : TT} {ds : List PyData}
theorem ed_revL (h : EvD K te σ H (.list ds)) : EvD K (tRevL K te) σ H (.list ds.reverse) := fun H1 e Q q => h H1 e _ fun v H2 e2 dv => by
  obtain ⟨a, ys, rfl, hl, ha⟩ := dp_lstI dv
  exact ⟨a, ys, rfl, hl, fun p np => q _ _ (e2.trans (Ex.new np)) (.lst (SqL.of upd_same) (dpsm (Ex.new np) (dps_rev ha)))⟩
theorem turn_three {vs : List Nat} {i j k : Nat} {N : Nat} {a b c d : PyData} {f : Bool} (hN : N = 3) (hw : ∀ x y z, wipe ((((wipe σ vs).set i (some x)).set j (some y)).set k (some z)) vs = wipe σ vs)
    (ht : ∀ x y z H1, Ex H H1 → Da K H1 x a → Da K H1 y b → Da K H1 z c → EvT tt ((((wipe σ vs).set i (some x)).set j (some y)).set k (some z)) H1 f)
    (he : ∀ x y z H1, Ex H H1 → Da K H1 x a → Da K H1 y b → Da K H1 z c → f = true → EvD K te ((((wipe σ vs).set i (some x)).set j (some y)).set k (some z)) H1 d) :
    TurnD K (gTup K N (gCons (gName i) (gCons (gName j) (gCons (gName k) gNil)))) tt te vs σ H (.tuple [a, b, c]) f d :=
  fun x H1 e1 dx => by
    obtain ⟨t, xs, rfl, htt, hx⟩ := dp_tupI dx
    cases hx with
    | cons h1 hx =>
      cases hx with
      | cons h2 hx =>
        cases hx with
        | cons h3 hx =>
          cases hx
          exact ⟨_, hw _ _ _, fun Q q => ⟨t, _, rfl, htt, hN.symm, _, _, rfl, _, _, rfl, _, _, rfl, rfl, q⟩, ht _ _ _ H1 e1 h1 h2 h3, fun hf => he _ _ _ H1 e1 h1 h2 h3 hf⟩
end
theorem holes_len {a b : Int} {zs : List Int} (sh : Sheet a b) (te : Tear a b zs) : (holesZ b zs).length ≤ 64 := by
  have c := holesZ_comps te
  have ab := sheet_ab sh
  have p : ((holesZ b zs).map fun c => c.headD 0).Pairwise (· < ·) := List.pairwise_map.mpr c.ord
  have m : ∀ z ∈ (holesZ b zs).map fun c => c.headD 0, 0 ≤ z ∧ z < a * b := fun z hz => by
    obtain ⟨d, hd, rfl⟩ := List.mem_map.mp hz
    cases e : d with
    | nil => exact absurd e (c.ne d hd)
    | cons x r => exact te.inn x ((c.mem x).mpr ⟨d, hd, by rw [e]; exact List.mem_cons_self⟩)
  have l := up_len (lo := 0) p m
  rw [List.length_map] at l
  rcases l with l | l
  · omega
  · have := congrArg List.length l
    rw [List.length_map] at this
    simp at this
    rw [this]
    simp
theorem hole_tear {a b : Int} {zs c : List Int} (te : Tear a b zs) (hc : c ∈ holesZ b zs) : Tear a b c :=
  have k := holesZ_comps te
  ⟨k.up c hc, fun z hz => te.inn z ((k.mem z).mpr ⟨c, hc, hz⟩)⟩
theorem tame_holes {a b : Int} {zs : List Int} (sh : Sheet a b) (te : Tear a b zs) : Tame 2 110000 (.tuple ((holesZ b zs).map tearD)) := by
  have t := tameL_all (n := 1) (a := 1600) (ds := (holesZ b zs).map tearD) fun d hd => by
    obtain ⟨c, hc, rfl⟩ := List.mem_map.mp hd
    exact tame_tear sh (hole_tear te hc)
  rw [List.length_map] at t
  have l := holes_len sh te
  exact (tame_tuple t).mono (Nat.le_refl _) (by omega)
/-- what was asked: a sheet, a tear, what was due -/
def Asked (F : Int → Int → List Int → Str) (d : PyData) : Prop := ∃ a b zs, Sheet a b ∧ Tear a b zs ∧ d = .tuple [shd a b, tearD zs, .str (F a b zs)]
theorem asked_flat {F : Int → Int → List Int → Str} {ds : List PyData} (h : ∀ d ∈ ds, Asked F d) : flats ds = true := flats_all fun d hd => by
  obtain ⟨a, b, zs, _, _, rfl⟩ := h d hd
  simp only [flat, flats, flat_tear]
  simp [shd, flat, flats]
/-- the odd knots of a hole -/
def ownK (a b : Int) (zs c : List Int) : List Pt := (oddK a b zs).filter fun p => !((atZ a b p.1 p.2).filter fun z => decide (z ∈ c)).isEmpty
def fewN (a b : Int) (zs : List Int) (cs : List (List Int)) : Int := (cs.map fun c => imax 1 (((ownK a b zs c).length : Nat) / 2 : Int)).sum
def RFew : List PyData → PyData → Prop := fun ds d => ∃ a b zs, Sheet a b ∧ Tear a b zs ∧ ds = [shd a b, tearD zs] ∧ d = .int (fewN a b zs (holesZ b zs))
theorem odd_len {a b : Int} (sh : Sheet a b) (zs : List Int) : (oddK a b zs).length ≤ 81 := Nat.le_trans (List.length_filter_le _ _) (knotsZ_len sh)
theorem few_bound {a b : Int} (sh : Sheet a b) (zs : List Int) : ∀ cs : List (List Int), 0 ≤ fewN a b zs cs ∧ fewN a b zs cs ≤ 81 * cs.length
  | [] => by simp [fewN]
  | c :: cs => by
    have ih := few_bound sh zs cs
    have l := odd_len sh zs
    have l2 : (ownK a b zs c).length ≤ 81 := Nat.le_trans (List.length_filter_le _ _) l
    have e : fewN a b zs (c :: cs) = imax 1 (((ownK a b zs c).length : Nat) / 2 : Int) + fewN a b zs cs := by
      unfold fewN
      rw [List.map_cons, List.sum_cons]
    have m : 0 ≤ imax 1 (((ownK a b zs c).length : Nat) / 2 : Int) ∧ imax 1 (((ownK a b zs c).length : Nat) / 2 : Int) ≤ 81 := by
      unfold imax
      split <;> omega
    rw [e, List.length_cons]
    omega
theorem tame_few {a b : Int} {zs : List Int} (sh : Sheet a b) (te : Tear a b zs) : Tame 0 24 (.int (fewN a b zs (holesZ b zs))) := by
  have l := holes_len sh te
  have f := few_bound sh zs (holesZ b zs)
  exact tame_int (by omega) (Nat.le_refl _)
theorem few_none (a b : Int) : fewN a b [] (holesZ b []) = 0 := by
  have t : Tear a b [] := ⟨.nil, fun _ h => nomatch h⟩
  have e : ([] : List (List Int)) = holesZ b [] := holesZ_eq t (outer_done (outer_start .nil))
  rw [← e]
  rfl
end Mm

namespace Mm
open PySem PySem.Spec PyProof.Rows L2 Evl
/-! ### what a hole lacks at its knots is what the tear lacks there -/
theorem at_ends {a b : Int} (sh : Sheet a b) {p : Pt} (hp : p ∈ knotsZ a b) {x : Int} (hx : x ∈ atZ a b p.1 p.2) : (endsB b x).1 = p ∨ (endsB b x).2 = p := by
  obtain ⟨m, n, ea, eb, ck⟩ := chk_of sh
  have s1 := sh.d1
  have s3 := sh.w1
  have hp' : p ∈ knotsP m n := by
    unfold knotsZ at hp
    rwa [show a.toNat = m by omega, show b.toNat = n by omega] at hp
  unfold chk at ck
  simp only [Bool.and_eq_true] at ck
  obtain ⟨⟨⟨⟨_, _⟩, _⟩, k4⟩, _⟩ := ck
  have k := List.all_eq_true.mp k4 p hp'
  unfold chkKnot at k
  rw [← ea, ← eb] at k
  simp only [Bool.and_eq_true] at k
  exact of_decide_eq_true (List.all_eq_true.mp k.1.1 x hx)
theorem at_near {a b : Int} (sh : Sheet a b) {p : Pt} (hp : p ∈ knotsZ a b) {x y : Int} (hx : x ∈ atZ a b p.1 p.2) (hy : y ∈ atZ a b p.1 p.2) : nearR b x y := by
  have e1 := at_ends sh hp hx
  have e2 := at_ends sh hp hy
  unfold nearR nearP
  simp only [List.mem_cons, List.mem_nil_iff, or_false, Bool.or_eq_true, decide_eq_true_eq]
  rcases e1 with e1 | e1 <;> rcases e2 with e2 | e2 <;> simp [e1, e2]
theorem lack_hole {a b : Int} {zs c : List Int} (sh : Sheet a b) (te : Tear a b zs) (hc : c ∈ holesZ b zs) {p : Pt} (hp : p ∈ knotsZ a b) :
    lackN a b c p = if ((atZ a b p.1 p.2).filter fun z => decide (z ∈ c)).isEmpty = true then 0 else lackN a b zs p := by
  have k := holesZ_comps te
  have sub : ∀ z ∈ c, z ∈ zs := fun z hz => (k.mem z).mpr ⟨c, hc, hz⟩
  split
  · rename_i h
    unfold lackN
    rw [List.isEmpty_iff.mp h]
    rfl
  · rename_i h
    obtain ⟨x, hx⟩ := List.exists_mem_of_ne_nil ((atZ a b p.1 p.2).filter fun z => decide (z ∈ c)) (fun z => h (by rw [z]; rfl))
    obtain ⟨x1, x2⟩ := List.mem_filter.mp hx
    have xc := of_decide_eq_true x2
    unfold lackN
    rw [show (atZ a b p.1 p.2).filter (fun z => decide (z ∈ c)) = (atZ a b p.1 p.2).filter fun z => decide (z ∈ zs) from List.filter_congr fun y hy => by
      by_cases q : y ∈ zs
      · rw [decide_eq_true q, decide_eq_true (k.closed c hc x xc y q (at_near sh hp x1 hy))]
      · rw [decide_eq_false q, decide_eq_false fun z => q (sub y z)]]
/-- the odd knots of a hole are the odd knots of the tear that it touches -/
theorem odd_hole {a b : Int} {zs c : List Int} (sh : Sheet a b) (te : Tear a b zs) (hc : c ∈ holesZ b zs) : oddK a b c = ownK a b zs c := by
  unfold ownK oddK
  rw [List.filter_filter]
  refine List.filter_congr fun p hp => ?_
  rw [lack_hole sh te hc hp]
  cases h : ((atZ a b p.1 p.2).filter fun z => decide (z ∈ c)).isEmpty with
  | true => simp
  | false => simp
/-- lost: all bars at a knot lack -/
theorem lost_all {a b : Int} (zs : List Int) (p : Pt) : ((atZ a b p.1 p.2).filter fun z => !decide (z ∈ zs)).isEmpty = decide (lackN a b zs p = (atZ a b p.1 p.2).length) := by
  unfold lackN
  generalize atZ a b p.1 p.2 = l
  induction l with
  | nil => rfl
  | cons x l ih =>
    by_cases h : x ∈ zs
    · simp only [List.filter_cons, decide_eq_true h, Bool.not_true, if_true, List.length_cons]
      simpa using ih
    · have le := List.length_filter_le (fun z => decide (z ∈ zs)) l
      simp only [List.filter_cons, decide_eq_false h, Bool.not_false, if_true, List.isEmpty_cons, List.length_cons]
      symm
      refine decide_eq_false ?_
      simp only [Bool.false_eq_true, if_false]
      omega
/-! ### numbers chosen below n -/
def sel (n : Nat) (F : Int → Bool) : List Int := ((List.range n).map fun i : Nat => (i : Int)).filter F
theorem upto_sel (n : Nat) (f : PyData → Bool) (F : Int → Bool) (h : ∀ z, f (.int z) = F z) : (((upto n).filter f).map fun d => d) = (sel n F).map .int := by
  rw [upto_ints]
  exact picked_ints f _ F fun z _ => h z
theorem sel_in {n : Nat} {F : Int → Bool} {z : Int} (h : z ∈ sel n F) : 0 ≤ z ∧ z < (n : Int) := by
  obtain ⟨i, hi, rfl⟩ := List.mem_map.mp (List.mem_filter.mp h).1
  have := List.mem_range.mp hi
  omega
theorem sel_up (n : Nat) (F : Int → Bool) : (sel n F).Pairwise (· < ·) := (range_pw n).filter _
end Mm

set_option Elab.async false
set_option linter.all false
set_option maxRecDepth 100000
set_option maxHeartbeats 4000000
namespace Mm
open PySem PySem.Spec PyProof.Rows L2 Evl

/-! ### enumerate over a tuple -/
def ItU (K : PySem.W.Frag) (t : Addr) : It where
  go := fun i H => ∃ (xs : List V) (x : V), SqT K H t xs ∧ xs[i]? = some x
  yld := fun i H v H' => ∃ T x, v = .ref T ∧ H T = none ∧ H' = upd H T (.tup [.int (i : Nat), x]) ∧ ∀ xs, SqT K H t xs → xs[i]? = some x
  stop := fun i H => ∃ xs : List V, SqT K H t xs ∧ xs.length = i
theorem turn_enumU {P : Program} {w : World} {K : PySem.W.Frag} {es : List Expr} {kk : Nat} {tp : Pos} (t e it : Addr) :
    Turn P w K (.Tuple es kk tp) (ItU K t) [e, it] e (fun i h => (∃ old, IsEnum h e it ((i : Nat) : Int) old) ∧ h.IsTupleIter it t i ∧ e ≠ it ∧ t ≠ e ∧ t ≠ it) where
  mem := List.mem_cons_self
  obj := by
    rintro i h ⟨⟨old, he⟩, ⟨o, ho, hc, hd⟩, _⟩ b hb
    rcases List.mem_cons.mp hb with z | z
    · rw [z]
      exact ⟨_, he, fun v q => nomatch q⟩
    · have z := List.mem_singleton.mp z
      exact ⟨o, by rw [z]; exact ho, fun v q => by rw [hd] at q; cases q⟩
  keep := by
    rintro i h h' ⟨⟨old, he⟩, hi, r⟩ k
    exact ⟨⟨old, k e List.mem_cons_self _ he⟩, hi.at fun o q => k it (List.mem_cons_of_mem _ List.mem_cons_self) o q, r⟩
  item := by
    intro X eP ew eK hc i pins s σ H E I hf st hg
    subst eP ew eK
    obtain ⟨⟨old, he⟩, hit, hne, nte, nti⟩ := st
    obtain ⟨xs, x, hq, hx⟩ := hg
    obtain ⟨its, rv, p, hz⟩ := I.tuple hq
    obtain ⟨u, hu, ru⟩ := rv.get hx
    have el : e < s.heap.objs.size := Heap.lt_size he
    have il : it < s.heap.objs.size := let ⟨_, q, _⟩ := hit; Heap.lt_size q
    have lt : i < its.toArray.size := by
      have := rv.length
      have := (List.getElem?_eq_some_iff.mp hx).1
      simp only [List.size_toArray]
      omega
    have ip : s.heap.IsTuple t its.toArray := p
    have D := Draws.tuple (prog := X.prog) (w := X.w) (A := X.A.in1) (I.ok.hd hc) it t nti its.toArray
    refine wpAny_pyNext_enum_itemC D he ⟨hit, ip⟩ lt hne (by simp [hne, Ne.symm nte]) fun y h' tk hy ho st' hT hsz hk => ?_
    have ey : y = u := by
      have hy' : its.toArray[i]? = some y := hy
      rw [List.getElem?_toArray, hu] at hy'
      exact (Option.some.inj hy').symm
    subst ey
    refine ⟨_, rfl, wpAny_letOwnedTupleGo_enum (s := { s with heap := h', toks := tk + 1 }) ho fun h'' he' sb => ?_⟩
    have hT2 : h''.get? s.heap.objs.size = some { cls := .type "tuple", data := .seq #[.int i tk, y] } := (sb.2 _ (Nat.ne_of_gt el)).trans hT
    have ok2 : ObjOk X.prog X.w (upd H s.heap.objs.size (.tup [.int (i : Nat), x])) h'' s.heap.objs.size (.tup [.int (i : Nat), x]) :=
      ⟨show 2 ≤ sizeLine by decide, [.int i tk, y], .cons ⟨_, rfl⟩ (.cons ru .nil), ⟨_, hT2, rfl, _, rfl⟩⟩
    have I1 : Inv X pins σ (upd H s.heap.objs.size (.tup [.int (i : Nat), x])) { s with heap := h'', toks := tk + 1 } :=
      I.turnedNew (ch := [e, it]) (fun b ob hb q => by
        have nb : b ≠ e ∧ b ≠ it := by simpa using hb
        exact (sb.2 b nb.1).trans (hk b ob nb.1 nb.2 q)) hf (Nat.le_refl _) ok2
    refine ⟨.ref s.heap.objs.size, _, I1, rfl, ⟨_, x, rfl, I.hok.fresh (Nat.le_refl _), rfl, fun ys hy => by rw [I.tuple_inj hy hq]; exact hx⟩, ⟨⟨y, ?_⟩, st'.1.at fun o q => (sb.2 it (Ne.symm hne)).trans q, hne, nte, nti⟩, fun b hb => ?_⟩
    · rw [show ((i + 1 : Nat) : Int) = (i : Int) + 1 by omega]
      exact he'
    · have lb : b < s.heap.objs.size := by
        rcases List.mem_cons.mp hb with z | z
        · rw [z]
          exact el
        · rw [List.mem_singleton.mp z]
          exact il
      rw [upd_ne (Nat.ne_of_lt lb)]
      exact (hf b hb).1
  done := by
    intro X eP ew eK hc i pins s σ H E I hf st hg
    subst eP ew eK
    obtain ⟨⟨old, he⟩, hit, hne, nte, nti⟩ := st
    obtain ⟨xs, hq, hx⟩ := hg
    obtain ⟨its, rv, p, hz⟩ := I.tuple hq
    obtain ⟨f0, f1, f2, f3, f4, f5⟩ := hf it (List.mem_cons_of_mem _ List.mem_cons_self)
    have ip : s.heap.IsTuple t its.toArray := p
    have n : its.toArray.size = i := by
      have := rv.length
      simp only [List.size_toArray]
      omega
    have D := Draws.tuple (prog := X.prog) (w := X.w) (A := X.A.in1) (I.ok.hd hc) it t nti its.toArray
    exact wpAny_pyNext_enum_endD D he (by rw [n]; exact ⟨hit, ip⟩) fun h' eb => ⟨rfl, I.turned (t' := s.toks) (fun b o hb q => eb b o hb q) f0 f1 f3 f4 f5⟩
  self := by
    rintro A i s Q E ⟨⟨_, he⟩, _⟩ h
    exact wpAny_pyIter_enum he h
def iEnumU (K : PySem.W.Frag) (ta : TA) : TI := fun σ H R => ta σ H fun vs H1 => ∃ a xs, vs = [.ref a] ∧ SqT K H1 a xs ∧ R (ItU K a) H1
set_option maxHeartbeats 8000000 in
theorem meets_enum1 {v : Value} {o : Obj} {G : Heap → Prop} (B : Begins v o G) :
    Meets (Builtin.«enumerate.__new__» ⟨[.type "enumerate", v], []⟩) (fun _ R s => G s.heap ∧
      R (.ok (.ret (.ref (s.heap.push o).objs.size))) { s with heap := (s.heap.push o).push { cls := .type "enumerate", data := .fields #[.none, .bool false, .ref s.heap.objs.size, rawInt 0, .none, .none] } }) :=
  .of_wp fun pg w A R s h => by
    obtain ⟨h0, gn, dr, tk, os⟩ := s
    obtain ⟨g1, h⟩ := h
    have sube := sub_enumerate
    have it : ∀ {A' : Around} {E : Value → Shared → Prop} {Q : Value → Shared → Prop}, Q (.ref h0.objs.size) ⟨h0.push o, gn, dr, tk, os⟩ → wpAny (model pg w) A' (pyIter v) Q E ⟨h0, gn, dr, tk, os⟩ :=
      fun q => B.iter pg w _ _ ⟨h0, gn, dr, tk, os⟩ _ g1 q
    wp_walk using it
    refine wpAny_stack_any fun st => wpAny_pure ?_
    split
    · rename_i c _ _ _ _ _
      cases (c == Value.type "enumerate") <;> (wp_walk using it; exact ⟨_, rfl, h⟩)
    · wp_walk using it
      exact ⟨_, rfl, h⟩
theorem call_enum_tup {prog : Program} {w : World} {A : Around} {E : Value → Shared → Prop} {s : Shared} {t : Addr} {its : Array Value} {Q : Value → Shared → Prop} (ht : s.heap.IsTuple t its)
    (h : ∀ h', IsEnum h' (s.heap.objs.size + 1) s.heap.objs.size 0 .none → h'.IsTupleIter s.heap.objs.size t 0 → (∀ b o, s.heap.get? b = some o → h'.get? b = some o) → Q (.ref (s.heap.objs.size + 1)) { s with heap := h' }) :
    wpAny (model prog w) A (call (.type "enumerate") [.ref t]) Q E s := by
  have sz : (s.heap.push { cls := .type "tuple_iterator", data := .fields #[.ref t, .int 0 0] }).objs.size = s.heap.objs.size + 1 := Heap.size_push ..
  refine callType_new F.called_enumerate (by decide) (F.typeCall_enumerate_1 _) (F.newCall_enumerate_1 _) (fun obj => F.args_object_init_2 obj _) F.entry_enumerate_new (meets_enum1 (begins_tuple t its)) ⟨ht, ?_⟩
  show _ ∧ _
  rw [sz]
  have top := Heap.get?_push_size (s.heap.push { cls := .type "tuple_iterator", data := .fields #[.ref t, .int 0 0] }) (o := { cls := .type "enumerate", data := .fields #[.none, .bool false, .ref s.heap.objs.size, rawInt 0, .none, .none] }) rfl
  rw [sz] at top
  exact ⟨⟨_, top, rfl⟩, h _ top ⟨_, Heap.get?_push_of_some _ (Heap.get?_push_size _ rfl), rfl, rfl⟩ fun b o x => Heap.get?_push_of_some _ (Heap.get?_push_of_some _ x)⟩
theorem pi_enumU {X : Cx} {e : Expr} {ta : TA} {p pos tp : Pos} {es : List Expr} {kk : Nat} (hg : Gl X "enumerate") (hm : X.mg "enumerate" = none) (ha : PA X [e] ta) (hs : starEach [e] X.env = [(false, eval e X.env)] := by rfl) :
    PI X (.Tuple es kk tp) (.Call (.Name "enumerate" p) [e] [] pos) (iEnumU X.K ta) := by
  refine ⟨fun pins s σ H R I h => Call_ (ld_blt I hg hm boot_enumerate (PyProof.Rows.callWith_type1 (thn (ha.run pos pins s σ H _ I h) ?_) hs rfl))⟩
  rintro us s1 ⟨vs, H1, I1, r1, a, xs, ex, hq, q⟩
  subst ex
  cases r1 with
  | cons r rr =>
    cases rr
    cases r
    obtain ⟨its, rv, pt, hz⟩ := I1.tuple hq
    have la : a < s1.heap.objs.size := pt.lt
    refine call_enum_tup (its := its.toArray) pt fun h' he hit hk => wpAny_pyIter_enum he ?_
    have I2 : Inv X pins σ H1 { s1 with heap := h' } := I1.kept (t' := s1.toks) hk
    refine ⟨s1.heap.objs.size + 1, [s1.heap.objs.size + 1, s1.heap.objs.size], _, _, H1, rfl, I2, turn_enumU a (s1.heap.objs.size + 1) s1.heap.objs.size, ⟨⟨.none, he⟩, hit, Nat.succ_ne_self _, Nat.ne_of_lt (Nat.lt_succ_of_lt la), Nat.ne_of_lt la⟩, fun b hb => ?_, q⟩
    have le : s1.heap.objs.size ≤ b := by
      rcases List.mem_cons.mp hb with z | z
      · rw [z]
        exact Nat.le_succ _
      · rw [List.mem_singleton.mp z]
        exact Nat.le_refl _
    exact I1.fpOk le (I1.hok.fresh le)
end Mm

set_option Elab.async false
set_option linter.all false
set_option maxRecDepth 100000
set_option maxHeartbeats 4000000
namespace Mm
open PySem PySem.Spec PyProof.Rows L2 Evl

/-! ### {k: v for .. in ..} whose keys are tuples -/
abbrev T2 := List Key
theorem setT {X : Cx} {pins : List (Addr × Obj)} {σ : L2.St} {H : Hp} {s : Shared} {F : Value → Shared → Prop} {D q : Addr} {kvs : List (T2 × V)} {k : T2} {v : V} {r : Value} {Q : Unit → Shared → Prop}
    (hu : X.A.units < cLine) (I : Inv X pins σ H s) (hD : H D = some (.dT kvs)) (hq : H q = some (.tup (k.map kV))) (small : kvs.length < sizeLine) (rv : RelV v r)
    (h : ∀ s', Inv X pins σ (upd H D (.dT (putK kvs k v))) s' → Q () s') : wpAny (model X.prog X.w) X.A (dictSet D (.ref q) r) Q F s := by
  obtain ⟨z, ns, xs, rel, dd⟩ := dt_of I.hok hD
  have len := Paired.length rel
  have more := length_putK kvs k v
  refine wpAny_dictSet_heap (hsz := by omega) hu (key_of I.hok hq) dd fun h' dd' same => h _ ?_
  obtain ⟨o, es, ep, g1, g2, g3, g4, _, g5⟩ := dd'
  refine d_write I (by rw [hD]; trivial) same ⟨o, g1⟩ ⟨by omega, ns, _, (rel.put k hq rv).keeps fun c ys ec => ?_, o, es, ep, g1, g2, g3, g4, g5⟩
  have : c ≠ D := ne_of ec hD fun z => nomatch z
  rw [upd_ne this]
  exact ec
/-- what the body of a turn must do: from the item x to the heap with one entry more -/
def stepT (g : TG) (tk tv : TE) (vs : List Nat) (σ : L2.St) (D : Addr) (Nx : Hp → Prop) (x : V) (H : Hp) : Prop :=
  g x (wipe σ vs) H fun σ2 H2 => wipe σ2 vs = wipe σ vs ∧ tk σ2 H2 fun y H3 => tv σ2 H3 fun z H4 =>
    ∃ kvs k q, y = .ref q ∧ H4 q = some (.tup (k.map kV)) ∧ H4 D = some (.dT kvs) ∧ kvs.length < sizeLine ∧ Nx (upd H4 D (.dT (putK kvs k z)))
def tDcT (wi : TI) (g : TG) (tk tv : TE) (vs : List Nat) : TE := fun σ H Q => wi σ H fun J H1 => ∀ D, H1 D = none →
  ∃ W : Nat → Nat → Hp → Prop, (∃ m, W 0 m (upd H1 D (.dT []))) ∧ ∀ i m H, W i m H →
    (J.stop i H ∧ Q (.ref D) H) ∨ (J.go i H ∧ ∃ Nx : Hp → Prop, (∀ H', Nx H' → ∃ m', m' < m ∧ W (i + 1) m' H') ∧ ∀ x H', J.yld i H x H' → stepT g tk tv vs σ D Nx x H')
section
variable {X : Cx}
abbrev InBlk (X : Cx) (scope : Scope) (p : Cx → Prop) : Prop := ∀ (s : Shared) (H : Hp) (C : Addr) (cl : List (Str × Addr)) (fp : List Addr), p (X.blk s H scope (compEnvC scope cl C X.env) fp)
theorem core_dcT {pins : List (Addr × Obj)} {s : Shared} {σ : L2.St} {H : Hp} {Q : VK} {kx vx tg iter : Expr} {scope : Scope} {own : List (Str × Nat)} {pos pos' : Pos} {wi : TI} {g : TG} {tk tv : TE} {use : Option (Value → Sem Unit)} {Qf : Value → Shared → Prop}
    (hu : X.A.units < cLine) (calm : X.calm = true) (nd : X.N.Nodup) (I : Inv X pins σ H s)
    (over : PI X tg iter wi) (ok : BlkOk X.N X.env.scope scope own) (pg : InBlk X scope fun Y => PG Y tg g) (pk : InBlk X scope fun Y => PE Y kx tk) (pv : InBlk X scope fun Y => PE Y vx tv)
    (fold : ∀ x, foldedSetIterable iter X.env x = pure x) (h : tDcT wi g tk tv (own.map (·.2)) σ H Q)
    (last : ∀ D C s' m H', Inv X pins σ H' s' → Q (.ref D) H' → s'.heap.Ns C m → FpOk X pins H' C → compPost (model X.prog X.w) X.A X.xe use Qf (.ref D) C (.ok .next) s') :
    wpAny (model X.prog X.w) X.A (comprehension (.DictComp kx vx [⟨tg, iter, [], 0⟩] scope pos) scope X.env pos' newDict false (eval iter X.env) use) Qf X.xe s := by
  have closed : ∀ y ∈ scope.names, y.2 = .free → ∃ c, X.env.cells.lookup y.1 = some c := fun y hy e =>
    (ok.free y hy e).elim (fun k => I.ok.has _ (.inl k)) (fun k => I.ok.has _ (.inr k))
  refine wpAny_comprehension_free (use := use) rfl fold (closure_ok closed) ok.kind (fun y hy e => (ok.uniq y hy).trans (by rw [e])) (thn (over.run pins s σ H _ I h) fun _ s1 h1 => thn h1 ?_)
  rintro _ s2 ⟨it, fp, tn, J, H2, rfl, I2, T, at0, free, q⟩
  refine wpAny_newObj_type (newEnv_comp ?_)
  generalize eD : s2.heap.objs.size = D
  obtain ⟨W, ⟨m0, w0⟩, turn⟩ := q D (I2.hok.fresh (Nat.le_of_eq eD))
  generalize e3 : ({ s2 with heap := s2.heap.push { cls := .type "dict", data := .dict #[] } } : Shared) = s3
  have hp3 : s3.heap = s2.heap.push { cls := .type "dict", data := .dict #[] } := by rw [← e3]
  have up3 : ∀ b o, s2.heap.get? b = some o → s3.heap.get? b = some o := fun b o e => by
    rw [hp3]
    exact Heap.get?_push_of_some _ e
  have below : ∀ b ∈ fp, b < s2.heap.objs.size := fun b hb => (T.obj _ _ at0 b hb).elim fun o e => Heap.lt_size e.1
  have I3 : Inv X pins σ (upd H2 D (.dT [])) s3 := by
    subst e3 eD
    exact I2.laid (t' := s2.toks) (fun b o e => Heap.get?_push_of_some _ e) (Nat.le_refl _) (dt_empty s2.heap I2.big)
  have free3 : ∀ b ∈ fp, FpOk X pins (upd H2 D (.dT [])) b ∧ b < s3.heap.objs.size := fun b hb => by
    have lt := below b hb
    refine ⟨⟨?_, (free b hb).2⟩, by rw [hp3, Heap.size_push]; exact Nat.lt_succ_of_lt lt⟩
    rw [upd_ne (by rw [← eD]; exact Nat.ne_of_lt lt)]
    exact (free b hb).1
  have at3 : tn 0 s3.heap := T.keep _ _ _ at0 fun b _ o e => up3 b o e
  have I4 := block_start I3 ok nd free3
  have pg := pg s3 (upd H2 D (.dT [])) s3.heap.objs.size (cellsFrom (s3.heap.objs.size + 1) scope.names (cloFrom X.env.cells scope.names [])) fp
  have pk := pk s3 (upd H2 D (.dT [])) s3.heap.objs.size (cellsFrom (s3.heap.objs.size + 1) scope.names (cloFrom X.env.cells scope.names [])) fp
  have pv := pv s3 (upd H2 D (.dT [])) s3.heap.objs.size (cellsFrom (s3.heap.objs.size + 1) scope.names (cloFrom X.env.cells scope.names [])) fp
  show codeAny _ _ (.compStart _ 0 (.ref it) (.ref D) (compEnvC scope (cellsFrom (s3.heap.objs.size + 1) scope.names (cloFrom X.env.cells scope.names [])) s3.heap.objs.size X.env)) (compPost _ X.A X.xe use Qf (.ref D) s3.heap.objs.size) { s3 with heap := pushCells (s3.heap.push { cls := .type "dict", data := .dict #[] }) scope.names }
  generalize eE : compEnvC scope (cellsFrom (s3.heap.objs.size + 1) scope.names (cloFrom X.env.cells scope.names [])) s3.heap.objs.size X.env = E at I4 pg pk pv ⊢
  have eL : E.locals = s3.heap.objs.size := by
    subst eE
    rfl
  have un3 : ∀ b ∈ fp, (upd H2 D (.dT [])) b = none := fun b hb => (free3 b hb).1.1
  generalize eH : upd H2 D (.dT []) = H3 at I3 I4 pg pk pv w0 un3 free3
  generalize e4 : ({ s3 with heap := pushCells (s3.heap.push { cls := .type "dict", data := .dict #[] }) scope.names } : Shared) = s4 at I4 ⊢
  have at4 : tn 0 s4.heap := T.keep _ _ _ at3 fun b _ o e => by
    rw [← e4]
    exact pushCells_keeps _ _ _ _ (Heap.get?_push_of_some _ e)
  have alone : ∀ {σ' : L2.St} {H' : Hp} {s' : Shared}, Inv (X.blk s3 H3 scope E fp) [] σ' H' s' → (∀ b ∈ fp, H' b = none) → ∀ b ∈ fp, FpOk (X.blk s3 H3 scope E fp) [] H' b := fun {σ' H' s'} J' un b hb =>
    ⟨un b hb, (J'.ok.exf b hb).1, J'.ok.exfs b hb, Or.inl hb, fun x c e => (J'.ok.exf b hb).2 x c e, fun p hp => absurd (show p ∈ ([] : List (Addr × Obj)) ++ [] from hp) List.not_mem_nil⟩
  refine codeAny_compStart_dict ?main (T.self X.A 0 _ _ _ at4 ?main)
  refine compLoop_anyD (fun n s' => ∃ i H', Inv (X.blk s3 H3 scope E fp) [] (wipe σ (own.map (·.2))) H' s' ∧ tn i s'.heap ∧ (∀ b ∈ fp, H' b = none) ∧ W i n H') ?_ m0 ⟨0, H3, I4, at4, un3, w0⟩
  rintro n s5 ⟨i, H5, I5, at5, un5, w5⟩
  rcases turn i n H5 w5 with ⟨stop, qq⟩ | ⟨go, Nx, sm, step⟩
  · refine thnF (T.done (X.blk s3 H3 scope E fp) rfl rfl rfl calm i [] s5 _ H5 (fun _ _ => False) I5 (alone I5 un5) at5 stop) ?_
    rintro _ s6 ⟨rfl, I6⟩
    have I7 : Inv X pins σ H5 s6 := I3.call' (ch := fp) I6.os I6.base I6.hok I6.bare fun b hb => let z := (free3 b hb).1.2
      ⟨z.2.2.1, z.1, z.2.2.2.1, z.2.2.2.2⟩
    have nC : H5 E.locals = none := I6.free
    obtain ⟨mm, hn, _⟩ := I6.loc
    have hn : s6.heap.Ns E.locals mm := hn
    rw [eL] at nC hn
    exact last D s3.heap.objs.size s6 mm H5 I7 qq hn (I3.fpOk (Nat.le_refl _) nC)
  · refine thnF (T.item (X.blk s3 H3 scope E fp) rfl rfl rfl calm i [] s5 _ H5 (fun _ _ => False) I5 (alone I5 un5) at5 go) ?_
    rintro _ s6 ⟨u, rfl, h6⟩
    refine thnF h6 ?_
    rintro _ s7 ⟨x, H7, I7, r7, y7, at7, un7⟩
    refine thnF (pg.run _ s7 _ H7 x u _ (I7.pinned (alone I7 un7) (T.obj _ _ at7)) r7 (step x H7 y7)) ?_
    rintro _ s8 ⟨σ8, H8, I8, w8, q8⟩
    refine thnF ((pts_nil (X := X.blk s3 H3 scope E fp)).run _ s8 σ8 H8 (fun b H' => b = true ∧ H' = H8) I8 ⟨rfl, rfl⟩) ?_
    rintro _ s9 ⟨_, I9, rfl, rfl⟩
    rw [if_pos rfl]
    refine thnF (pk.run _ s9 σ8 _ _ I9 q8) ?_
    rintro kv s10 ⟨yk, H10, I10, r10, q10⟩
    refine thnF (pv.run _ s10 σ8 H10 _ I10 q10) ?_
    rintro vv s11 ⟨yv, H11, I11, r11, kvs, k, q, rfl, hq, hD, small, nx⟩
    cases r10
    refine setT (X := X.blk s3 H3 scope E fp) hu I11 hD hq small r11 fun s12 I12 => ?_
    obtain ⟨m', lt, w'⟩ := sm _ nx
    have stay : ∀ b ∈ fp, ∀ o, s7.heap.get? b = some o → s12.heap.get? b = some o ∧ _ = none := fun b hb o e =>
      let z := I12.pin (b, o) (List.mem_append_right _ (List.mem_append_right _ (mem_pinsAt hb e)))
      ⟨z.1, z.2.1⟩
    refine ⟨m', lt, i + 1, _, (I12.unpinned (pins := [])).weak (by rw [← w8, wipe_length]) (fun j v e => by rw [← w8] at e; exact (wipe_some e).1), T.keep _ _ _ at7 fun b hb o e => (stay b hb o e).1, fun b hb => ?_, w'⟩
    obtain ⟨o, e, _⟩ := T.obj _ _ at7 b hb
    exact (stay b hb o e).2
theorem pe_dcT {kx vx tg iter : Expr} {scope : Scope} {own : List (Str × Nat)} {pos : Pos} {wi : TI} {g : TG} {tk tv : TE} (hu : X.A.units < cLine) (calm : X.calm = true) (nd : X.N.Nodup)
    (over : PI X tg iter wi) (ok : BlkOk X.N X.env.scope scope own) (pg : InBlk X scope fun Y => PG Y tg g) (pk : InBlk X scope fun Y => PE Y kx tk) (pv : InBlk X scope fun Y => PE Y vx tv)
    (fold : ∀ x, foldedSetIterable iter X.env x = pure x := by intro _; rfl) : PE X (.DictComp kx vx [⟨tg, iter, [], 0⟩] scope pos) (tDcT wi g tk tv (own.map (·.2))) := by
  refine ⟨fun pins s σ H Q I h => ?_⟩
  rw [arm_eval_DictComp]
  refine core_dcT (use := none) hu calm nd I over ok pg pk pv fold h fun D C s' m H' I' q hn f => ⟨m, hn, fun h'' sb => ?_⟩
  obtain ⟨f0, f1, _, f3, f4, f5⟩ := f
  exact ⟨.ref D, H', I'.turned (t' := s'.toks) (fun b o hb e => (sb.2 b hb).trans e) f0 f1 f3 f4 f5, rfl, q⟩
theorem swapsD {kx vx : Expr} {gs : List Comprehension} {scope : Scope} {pos py : Pos} {y : Str} {l : Nat} {env : Env} (hk : env.scope.kind = .function) (hy : env.scope.names.lookup y = some .local) (hl : (py.line == pos.line) = true)
    (no : (scope.names.any fun (n, k) => n == y && (k == .local || k == .cell)) = false) : swapsWith (.DictComp kx vx gs scope pos) (some (.Name y py)) l env = pure true := by
  have ky : env.kindOf y = some .local := hy
  have kb : env.blockKind = .function := by
    unfold Env.blockKind
    rw [hk]
    rfl
  unfold swapsWith
  simp only [kb, ky, no, Expr.pos, hl]
  rfl
theorem ps_setDcT {i : Nat} {y : Str} {py : Pos} {kx vx tg iter : Expr} {scope : Scope} {own : List (Str × Nat)} {pos spos : Pos} {wi : TI} {g : TG} {tk tv : TE} (hu : X.A.units < cLine) (calm : X.calm = true) (nd : X.N.Nodup) (hy : X.N[i]? = some y) (loc : X.env.scope.names.lookup y = some .local)
    (swap : swapsWith (.DictComp kx vx [⟨tg, iter, [], 0⟩] scope pos) (some (.Name y py)) spos.line X.env = pure true)
    (over : PI X tg iter wi) (ok : BlkOk X.N X.env.scope scope own) (pg : InBlk X scope fun Y => PG Y tg g) (pk : InBlk X scope fun Y => PE Y kx tk) (pv : InBlk X scope fun Y => PE Y vx tv)
    (fold : ∀ x, foldedSetIterable iter X.env x = pure x := by intro _; rfl) : PS X (.Assign [.Name y py] (.DictComp kx vx [⟨tg, iter, [], 0⟩] scope pos) spos) (tAsg (tDcT wi g tk tv (own.map (·.2))) (gName i)) := by
  refine ⟨fun pins s σ H D I h => ?_⟩
  rw [exec_Assign_Name_used _ _ _ _ swap]
  refine wpAny_bind (wpAny_standAt (wpAny_bind ?_))
  have h : tDcT wi g tk tv (own.map (·.2)) σ H (fun x H1 => gName i x σ H1 D.nx) := h
  refine wpAny_bind (thn (core_dcT (use := some (assign (.Name y py) X.env)) (Qf := fun _ s' => SP X pins D .next s') hu calm nd I over ok pg pk pv fold h fun L C s' m H' I' q hn f => ?_) fun _ s' hq => wpAny_pure (wpAny_pure hq))
  show wpAny _ _ (assign (.Name y py) X.env (.ref L)) _ _ _
  refine wpAny_assign_Name (store_ok2 (v := V.ref L) I' nd hy (.inl loc) rfl (fun s2 I2 ⟨a, sb, ha⟩ => ?_) (.inr loc))
  obtain ⟨f0, f1, _, f3, f4, f5⟩ := f
  have apart : C ≠ a := ha.elim (fun z => by rw [z]; exact f1) (fun z e => f4 y a z e.symm)
  exact ⟨m, hn.sameBut sb apart, fun h3 sb3 => ⟨_, H', I2.turned (t' := s2.toks) (fun b o hb e => (sb3.2 b hb).trans e) f0 f1 f3 f4 f5, q⟩⟩
end
end Mm

set_option Elab.async false
set_option linter.all false
set_option maxRecDepth 100000
set_option maxHeartbeats 4000000
namespace Mm
open PySem PySem.Spec PyProof.Rows L2 Evl

/-! ### for k, v in d.items(), the keys of d tuples -/
section
variable {X : Cx} {pins : List (Addr × Obj)} {σ : L2.St} {H : Hp} {s : Shared} {d : Addr} {o : Obj}
theorem frzTv {kvs : List (T2 × V)} (I : Inv X pins σ H s) (h : H d = some (.frz o (.dT kvs))) :
    (d == sysModules) = false ∧ ∃ (es : Array DictEntry) (ep : Nat), o.data = .dict es ep ∧ DT.Raw s.heap d es ep ∧ es.size = kvs.length ∧
      ∀ (i : Nat) (k : T2) (v : V), kvs[i]? = some (k, v) → ∃ (en : DictEntry) (q : Addr), es[i]? = some en ∧ en.key = .ref q ∧ H q = some (.tup (k.map kV)) ∧ RelV v en.val := by
  obtain ⟨hd, z, ns, xs, pr, o', es, ep, ho, hx, hdt, he, _⟩ := I.hok d _ h
  cases hd.symm.trans ho
  have l1 : es.size = xs.length := size_of_entries he
  have l2 : kvs.length = xs.length := Paired.length pr
  refine ⟨ns, es, ep, hdt, ⟨o, hd, hx, hdt⟩, by omega, fun i k v e => ?_⟩
  obtain ⟨b, hb, e1, e2, e3⟩ := paired_get pr e
  have q := entry_at he i
  rw [hb] at q
  exact ⟨_, b.2.1, q, rfl, e2, e3⟩
end
/-- each entry in a new pair of the key's own tuple and the value -/
def ItIt (d : Addr) (o : Obj) (kvs : List (T2 × V)) : It where
  go := fun i H => H d = some (.frz o (.dT kvs)) ∧ i < kvs.length
  yld := fun i H x H' => ∃ T q k v, kvs[i]? = some (k, v) ∧ x = .ref T ∧ H T = none ∧ H' = upd H T (.tup [.ref q, v]) ∧ H q = some (.tup (k.map kV))
  stop := fun i H => H d = some (.frz o (.dT kvs)) ∧ kvs.length ≤ i
theorem turn_itemsT {P : Program} {w : World} {K : PySem.W.Frag} {d : Addr} {o : Obj} {es : Array DictEntry} {ep : Nat} {kvs : List (T2 × V)} {els : List Expr} {kk : Nat} {tp : Pos} (it : Addr) (hod : o.data = .dict es ep) :
    Turn P w K (.Tuple els kk tp) (ItIt d o kvs) [it] it (fun i h => ∃ ok ov, IsItemIter h it d i kvs.length ep ok ov) where
  mem := List.mem_singleton.mpr rfl
  obj := by
    rintro i h ⟨ok, ov, e⟩ b hb
    rw [List.mem_singleton.mp hb]
    exact ⟨_, e, fun v z => nomatch z⟩
  keep := by
    rintro i h h' ⟨ok, ov, e⟩ k
    exact ⟨ok, ov, k it (List.mem_singleton.mpr rfl) _ e⟩
  item := by
    intro X eP ew eK hc i pins s σ H E I hf st hg
    subst eP ew eK
    obtain ⟨hd, hi⟩ := hg
    obtain ⟨hs, es', ep', hdt, raw, hsz, ent⟩ := frzTv I hd
    obtain ⟨rfl, rfl⟩ := dict_ep hod hdt
    obtain ⟨en, q, hen, hkey, hq, rv⟩ := ent i kvs[i].1 kvs[i].2 (List.getElem?_eq_getElem hi)
    obtain ⟨ok, ov, he⟩ := st
    rw [← hsz] at he
    have li : i < es'.size := by omega
    have een : es'[i] = en := by
      rw [Array.getElem?_eq_getElem li] at hen
      exact Option.some.inj hen
    have lt : it < s.heap.objs.size := Heap.lt_size he
    refine DT.nextI he raw li fun h' ho hT hz hk => ?_
    rw [een] at ho hT
    refine ⟨_, rfl, wpAny_letOwnedTupleGo_items (s := { s with heap := h' }) ho fun h'' he' sb => ?_⟩
    have hT2 : h''.get? s.heap.objs.size = some { cls := .type "tuple", data := .seq #[en.key, en.val] } := (sb.2 _ (Nat.ne_of_gt lt)).trans hT
    have ok2 : ObjOk X.prog X.w (upd H s.heap.objs.size (.tup [.ref q, kvs[i].2])) h'' s.heap.objs.size (.tup [.ref q, kvs[i].2]) :=
      ⟨show 2 ≤ sizeLine by decide, [en.key, en.val], .cons (by rw [hkey]; rfl) (.cons rv .nil), ⟨_, hT2, rfl, _, rfl⟩⟩
    have I1 : Inv X pins σ (upd H s.heap.objs.size (.tup [.ref q, kvs[i].2])) { s with heap := h'' } :=
      I.turnedNew (t' := s.toks) (ch := [it]) (fun b ob hb e => by
        have nb : b ≠ it := by simpa using hb
        exact (sb.2 b nb).trans (hk b ob nb e)) hf (Nat.le_refl _) ok2
    refine ⟨.ref s.heap.objs.size, _, I1, rfl, ⟨_, q, _, _, List.getElem?_eq_getElem hi, rfl, I.hok.fresh (Nat.le_refl _), rfl, hq⟩, ⟨en.key, en.val, by rw [← hsz]; exact he'⟩, fun b hb => ?_⟩
    rw [List.mem_singleton.mp hb, upd_ne (Nat.ne_of_lt lt)]
    exact (hf it (List.mem_singleton.mpr rfl)).1
  done := by
    intro X eP ew eK hc i pins s σ H E I hf st hg
    subst eP ew eK
    obtain ⟨hd, hi⟩ := hg
    obtain ⟨f0, f1, f2, f3, f4, f5⟩ := hf it (List.mem_singleton.mpr rfl)
    obtain ⟨hs, es', ep', hdt, raw, hsz, _⟩ := frzTv I hd
    obtain ⟨rfl, rfl⟩ := dict_ep hod hdt
    obtain ⟨ok, ov, he⟩ := st
    rw [← hsz] at he
    exact DT.endI (I.ok.hd hc) he raw (by omega) fun h' eb => ⟨rfl, I.turned (t' := s.toks) (fun b ob hb e => eb b ob hb e) f0 f1 f3 f4 f5⟩
  self := by
    rintro A i s Q E ⟨_, _, e⟩ h
    exact PySem.W.kcp_self e h
def iItemsT (td : TE) : TI := fun σ H R => td σ H fun x H1 => ∃ d o kvs, x = .ref d ∧ H1 d = some (.frz o (.dT kvs)) ∧ R (ItIt d o kvs) H1
theorem pi_itemsT {X : Cx} {e : Expr} {td : TE} {ap cp : Pos} {els : List Expr} {kk : Nat} {tp : Pos} (he : PE X e td) (hbase : attributeBase e "items" X.env (eval e X.env) = eval e X.env := by rfl) (hline : (ap.endLine == cp.line) = true := by rfl) :
    PI X (.Tuple els kk tp) (.Call (.Attribute e "items" ap) [] [] cp) (iItemsT td) := by
  refine ⟨fun pins s σ H R I h => wpAny_Call_method (T := "dict") (id := "dict.items") hbase rfl hline F.plainAttrs_dict F.slot_dict_items F.type_dict_items (thn (he.run pins s σ H _ I h) ?_)⟩
  rintro u s1 ⟨x, H1, I1, rx, d, o, kvs, rfl, hd, q⟩
  obtain rfl : u = Value.ref d := rx
  obtain ⟨ns, es, ep, hdt, raw, hsz, ent⟩ := frzTv I1 hd
  refine ⟨raw.typeIs, fun a e => by cases e; exact let ⟨ob, h1, h2, _⟩ := raw; ⟨ob, h1, h2.2.1⟩, ?_⟩
  have I2 : Inv X pins σ H1 { s1 with heap := s1.heap.push { cls := .type "dict_items", data := .fields #[.ref d] } } := I1.kept (t' := s1.toks) fun b ob q => Heap.get?_push_of_some _ q
  have fin : wpAny (model X.prog X.w) X.A (pyIter (.ref s1.heap.objs.size)) (PIE X pins σ (.Tuple els kk tp) R) X.xe { s1 with heap := s1.heap.push { cls := .type "dict_items", data := .fields #[.ref d] } } := by
    refine DT.iterI (d := d) ⟨_, Heap.get?_push_size _ rfl, rfl, rfl⟩ (raw.push _) (pi_one (tk := s1.toks) I2 _ (turn_itemsT _ hdt) ⟨.none, .none, ?_⟩ q)
    rw [← hsz]
    exact Heap.get?_push_size _ rfl
  show wpAny _ _ (callWith cp (.builtin "dict.items") [.ref d] [] []) _ X.xe s1
  exact method_meetsIn F.slot_dict_items F.entry_dict_items rfl (PySem.evalArgs_none ⟨rfl, raw.typeIs, F.args_dict_items_1 _, _, DT.meetsItems (es := es) (ep := ep) ns, raw, fin⟩)
end Mm

set_option Elab.async false
set_option linter.all false
set_option maxRecDepth 100000
set_option maxHeartbeats 4000000
namespace Mm
open PySem PySem.Spec PyProof.Rows L2 Evl
section
variable {K : PySem.W.Frag} {H H' : Hp} {σ : L2.St} {ta tb tc te tl : TE} {tr : TA} {a b c d : PyData} {ds : List PyData} {D : Ends} {u z : TS} {g : TG} {p q : Bool}
theorem sd_enumU {i j : Nat} (h : EvDs K tr σ H [.tuple ds]) (W : V → Nat → L2.St → Hp → Prop) (h0 : ∀ v H1, Ex H H1 → Da K H1 v (.tuple ds) → W v 0 σ H1)
    (hl : ∀ v k σ' H', W v k σ' H' → Da K H' v (.tuple ds))
    (hs : ∀ v k e x σ' H' H2, ds[k]? = some e → W v k σ' H' → Ex H' H2 → Da K H2 x e → u { D with nx := W v (k + 1), ct := W v (k + 1), bk := D.nx } ((σ'.set i (some (.int (k : Int)))).set j (some x)) H2)
    (hd : ∀ v σ' H', W v ds.length σ' H' → D.nx σ' H') : tFor (iEnumU K tr) (gTup K 2 (gCons (gName i) (gCons (gName j) gNil))) u D σ H := by
  refine use_ds h fun vs H1 e1 dv => ?_
  cases dv with
  | cons dv0 r =>
    cases r
    obtain ⟨t, xs, rfl, hx, hA⟩ := dp_tupI dv0
    refine ⟨t, xs, rfl, hx, fun k m σ' H' => m = ds.length - k ∧ k ≤ ds.length ∧ W (.ref t) k σ' H', ⟨ds.length, rfl, Nat.zero_le _, h0 _ H1 e1 dv0⟩, fun k m σ' H' hw => ?_⟩
    obtain ⟨rfl, le, w⟩ := hw
    obtain ⟨t', xs', e2, hx', hA'⟩ := dp_tupI (hl _ k σ' H' w)
    cases e2
    have len := dps_len hA'
    by_cases lt : k < ds.length
    · have lt' : k < xs'.length := by omega
      refine Or.inr ⟨⟨xs', xs'[k], hx', List.getElem?_eq_getElem lt'⟩, fun σ2 H2 => W (.ref t) (k + 1) σ2 H2, fun σ2 H2 w2 => ⟨ds.length - (k + 1), by omega, rfl, lt, w2⟩, ?_⟩
      rintro _ _ ⟨T, x, rfl, nT, rfl, hxs⟩
      obtain ⟨dd, e3, dx⟩ := dps_got hA' (hxs xs' hx')
      have ex2 : Ex H' (upd H' T (.tup [.int (k : Int), x])) := Ex.new nT
      exact ⟨T, _, rfl, SqT.of upd_same, rfl, _, _, rfl, _, _, rfl, rfl, hs _ k dd x σ' H' _ e3 w ex2 (dpm ex2 dx)⟩
    · have : k = ds.length := by omega
      subst this
      exact Or.inl ⟨⟨xs', hx', by omega⟩, hd _ σ' H' w⟩
theorem qd_enumU {i j : Nat} (h : EvDs K tr σ H [.tuple ds]) (W : V → Nat → L2.St → Hp → Prop) (h0 : ∀ v H1, Ex H H1 → Da K H1 v (.tuple ds) → W v 0 σ H1)
    (hl : ∀ v k σ' H', W v k σ' H' → Da K H' v (.tuple ds))
    (hs : ∀ v k e x σ' H' H2, ds[k]? = some e → W v k σ' H' → Ex H' H2 → Da K H2 x e → u { D with nx := W v (k + 1), ct := W v (k + 1), bk := z D } ((σ'.set i (some (.int (k : Int)))).set j (some x)) H2)
    (hd : ∀ v σ' H', W v ds.length σ' H' → z D σ' H') : tSeq (tFor (iEnumU K tr) (gTup K 2 (gCons (gName i) (gCons (gName j) gNil))) u) z D σ H :=
  sd_enumU (D := { D with nx := z D }) h W h0 hl hs hd
end
theorem pi_enumUK {X : Cx} {K : PySem.W.Frag} {e : Expr} {ta : TA} {p pos tp : Pos} {es : List Expr} {kk : Nat} (hK : X.K = K) (hg : Gl X "enumerate") (hm : X.mg "enumerate" = none) (ha : PA X [e] ta) (hs : starEach [e] X.env = [(false, eval e X.env)] := by rfl) :
    PI X (.Tuple es kk tp) (.Call (.Name "enumerate" p) [e] [] pos) (iEnumU K ta) := hK ▸ pi_enumU hg hm ha hs
def RIsBar : List PyData → PyData → Prop := fun ds d => ∃ a b x, Sheet a b ∧ ds = [shd a b, x] ∧ d = .bool (inB 0 (a * b - 1) x)
theorem Cal.up {P : Program} {w : World} {K : PySem.W.Frag} {mg : Str → Option Value} {base : Heap} {j k : Nat} {x : Str} {sp : Sp} (C : Cal P w K mg base j x sp) (h : j ≤ k) : Cal P w K mg base k x sp := by
  obtain ⟨f, fd, ps, F, r⟩ := C.ex
  exact ⟨f, fd, ps, F.mono h, r⟩
/-- the bars that lack at a knot -/
def lackZ (a b : Int) (zs : List Int) (p : Pt) : List Int := (atZ a b p.1 p.2).filter fun z => decide (z ∈ zs)
def RLackAt : List PyData → PyData → Prop := fun ds d => ∃ a b zs p, Sheet a b ∧ Tear a b zs ∧ ds = [shd a b, tearD zs, pk p] ∧ d = tearD (lackZ a b zs p)
theorem eqv_ints : ∀ (l m : List Int), PyData.eqvAll (l.map .int) (m.map .int) = decide (l = m)
  | [], [] => by simp [PyData.eqvAll]
  | [], _ :: _ => by simp [PyData.eqvAll]
  | _ :: _, [] => by simp [PyData.eqvAll]
  | x :: l, y :: m => by simp [PyData.eqvAll, eqv_ints l m, eqv_int]
theorem eqv_tears (l m : List Int) : PyData.eqv (tearD l) (tearD m) = decide (l = m) := by
  unfold tearD
  rw [PyData.eqv]
  exact eqv_ints l m
theorem filter_whole {α : Type} (f : α → Bool) (l : List α) : decide (∀ x ∈ l, f x = true) = (l.filter fun x => !f x).isEmpty := by
  rw [Bool.eq_iff_iff, decide_eq_true_iff, List.isEmpty_iff, List.filter_eq_nil_iff]
  simp
theorem tame_lackZ {a b : Int} {zs : List Int} (sh : Sheet a b) (p : Pt) : TameL 0 100 ((lackZ a b zs p).map .int) := by
  have ab := sheet_ab sh
  have l := atZ_len a b p.1 p.2
  have l2 := List.length_filter_le (fun z => decide (z ∈ zs)) (atZ a b p.1 p.2)
  have := tame_zs (zs := lackZ a b zs p) (n := a * b) (by omega) fun z hz => atZ_in sh (List.mem_filter.mp hz).1
  refine this.mono (Nat.le_refl _) ?_
  have : (lackZ a b zs p).length ≤ 4 := Nat.le_trans l2 l
  omega
end Mm

set_option Elab.async false
set_option linter.all false
set_option maxRecDepth 100000
set_option maxHeartbeats 4000000
namespace Mm
open PySem PySem.Spec PyProof.Rows L2 Evl

/-! ### values whose own tuples are tracked: they may stand as keys -/
def EvR (R : V → Hp → Prop) (te : TE) (σ : L2.St) (H : Hp) : Prop := ∀ H1, Ex H H1 → ∀ Q : VK, (∀ v H2, Ex H1 H2 → R v H2 → Q v H2) → te σ H1 Q
/-- the knot p -/
def Kn (p : Pt) (v : V) (H : Hp) : Prop := ∃ q, v = .ref q ∧ H q = some (.tup [.int p.1, .int p.2])
/-- a pair of knots -/
def Kn2 (u l : Pt) (v : V) (H : Hp) : Prop := ∃ t x y, v = .ref t ∧ H t = some (.tup [x, y]) ∧ Kn u x H ∧ Kn l y H
def KnL (ps : List Pt) (xs : List V) (H : Hp) : Prop := xs.length = ps.length ∧ ∀ (i : Nat) (v : V) (p : Pt), xs[i]? = some v → ps[i]? = some p → Kn p v H
/-- a tuple of knots -/
def KnT (ps : List Pt) (v : V) (H : Hp) : Prop := ∃ t xs, v = .ref t ∧ H t = some (.tup xs) ∧ KnL ps xs H
def kp (p : Pt) : T2 := [.inl p.1, .inl p.2]
theorem kp_inj {p q : Pt} (h : kp p = kp q) : p = q := by
  obtain ⟨a, b⟩ := p
  obtain ⟨c, d⟩ := q
  simp only [kp, List.cons.injEq, Sum.inl.injEq, and_true] at h
  obtain ⟨rfl, rfl⟩ := h
  rfl
section
variable {K : PySem.W.Frag} {H H' : Hp} {σ : L2.St} {ta tb tc te tl t1 t2 : TE} {tt : TT} {tr : TA} {a b c d : PyData} {ds : List PyData} {D : Ends} {u z : TS} {g : TG} {p q : Pt} {v : V} {i j : Int} {R : V → Hp → Prop} {wi : TI} {ps : List Pt} {xs : List V}
theorem Kn.ex (e : Ex H H') (h : Kn p v H) : Kn p v H' := let ⟨q, e1, e2⟩ := h; ⟨q, e1, e _ _ e2⟩
theorem Kn.et (e : Et H H') (h : Kn p v H) : Kn p v H' := let ⟨q, e1, e2⟩ := h; ⟨q, e1, e _ _ e2 ⟨_, .inl rfl⟩⟩
theorem KnL.ex (e : Ex H H') (h : KnL ps xs H) : KnL ps xs H' := ⟨h.1, fun i v p e1 e2 => (h.2 i v p e1 e2).ex e⟩
theorem KnL.et (e : Et H H') (h : KnL ps xs H) : KnL ps xs H' := ⟨h.1, fun i v p e1 e2 => (h.2 i v p e1 e2).et e⟩
theorem KnT.ex (e : Ex H H') (h : KnT ps v H) : KnT ps v H' := let ⟨t, xs, e1, e2, k⟩ := h; ⟨t, xs, e1, e _ _ e2, k.ex e⟩
theorem Kn2.ex (e : Ex H H') (h : Kn2 p q v H) : Kn2 p q v H' := let ⟨t, x, y, e1, e2, k1, k2⟩ := h; ⟨t, x, y, e1, e _ _ e2, k1.ex e, k2.ex e⟩
theorem Kn.da (h : Kn p v H) : Da K H v (pk p) := by
  obtain ⟨q, rfl, e⟩ := h
  exact .tup (SqT.of e) (.cons (.int _) (.cons (.int _) .nil))
theorem er_is {R' : V → Hp → Prop} (h : EvR R te σ H) (e : R = R') : EvR R' te σ H := e ▸ h
theorem er_var {k : Nat} (h : σ[k]? = some (some v)) (hd : ∀ H1, Ex H H1 → R v H1) : EvR R (tVar k) σ H := fun H1 e _ q => ⟨v, h, q v H1 (Ex.refl H1) (hd H1 e)⟩
theorem er_kn (h1 : EvD K t1 σ H (.int i)) (h2 : EvD K t2 σ H (.int j)) : EvR (Kn (i, j)) (tTup (tCons t1 (tCons t2 tNil))) σ H := fun H1 e Q q =>
  h1 H1 e _ fun x H2 e2 dx => h2 H2 (e.trans e2) _ fun y H3 e3 dy => by
    cases dp_intI dx
    cases dp_intI dy
    exact ⟨(by decide : 2 ≤ sizeLine), fun p hp => q _ _ ((e2.trans e3).trans (Ex.new hp)) ⟨p, rfl, upd_same⟩⟩
theorem er_kn2 (h1 : EvR (Kn p) t1 σ H) (h2 : EvR (Kn q) t2 σ H) : EvR (Kn2 p q) (tTup (tCons t1 (tCons t2 tNil))) σ H := fun H1 e Q k =>
  h1 H1 e _ fun x H2 e2 dx => h2 H2 (e.trans e2) _ fun y H3 e3 dy => ⟨(by decide : 2 ≤ sizeLine), fun t ht => k _ _ ((e2.trans e3).trans (Ex.new ht)) ⟨t, x, y, rfl, upd_same, (dx.ex e3).ex (Ex.new ht), dy.ex (Ex.new ht)⟩⟩
/-- defs that tell such values and change nothing -/
def SpR (K : PySem.W.Frag) (C : List PyData → (V → Hp → Prop) → Prop) : Sp := fun vs H Q _ => ∃ ds R, DaAll K H vs ds ∧ C ds R ∧ ∀ v H2, Ex H H2 → R v H2 → Q v H2
theorem er_call {C : List PyData → (V → Hp → Prop) → Prop} {E : XK} (h : EvDs K tr σ H ds) (hR : C ds R) : EvR R (tCall (SpR K C) [] E tr) σ H := fun H1 e Q q =>
  h H1 e _ fun xs H2 e2 dxs => ⟨ds, R, by rw [List.append_nil]; exact dxs, hR, fun v H3 e3 dv => q v H3 (e2.trans e3) dv⟩
theorem sr_ret (h : EvR R te σ H) (n : ∀ v H1, Ex H H1 → R v H1 → D.rt v H1) : tRet te D σ H := h H (Ex.refl H) _ n
def CKnots : List PyData → (V → Hp → Prop) → Prop := fun ds R => ∃ a b, Sheet a b ∧ ds = [shd a b] ∧ R = KnT (knotsZ a b)
def CEnds : List PyData → (V → Hp → Prop) → Prop := fun ds R => ∃ a b bar, Sheet a b ∧ ds = [shd a b, .int bar] ∧ R = Kn2 (endsB b bar).1 (endsB b bar).2

/-! ### a list of knots by a comprehension -/
structure GotK (H1 : Hp) (Dl : Addr) (ps : List Pt) (H : Hp) : Prop where
  nw : H1 Dl = none
  ex : Ex H1 H
  so : ∃ acc, H Dl = some (.lst acc) ∧ KnL ps acc H
def TurnK (K : PySem.W.Frag) (g : TG) (tt : TT) (te : TE) (vs : List Nat) (σ : L2.St) (H : Hp) (e : PyData) (f : Bool) (p : Pt) : Prop :=
  ∀ x H1, Ex H H1 → Da K H1 x e → ∃ σ2, wipe σ2 vs = wipe σ vs ∧ (∀ Q : L2.St → Hp → Prop, Q σ2 H1 → g x (wipe σ vs) H1 Q) ∧ EvT tt σ2 H1 f ∧ (f = true → EvR (Kn p) te σ2 H1)
theorem knl_snoc (h : KnL ps xs H) (k : Kn p v H) : KnL (ps ++ [p]) (xs ++ [v]) H := by
  refine ⟨by rw [List.length_append, List.length_append, h.1]; rfl, fun i w r e1 e2 => ?_⟩
  have hl := h.1
  by_cases lt : i < xs.length
  · rw [List.getElem?_append_left lt] at e1
    rw [List.getElem?_append_left (by omega)] at e2
    exact h.2 i w r e1 e2
  · have iz : i = xs.length := by
      have := (List.getElem?_eq_some_iff.mp e1).1
      simp at this
      omega
    subst iz
    simp at e1
    rw [hl] at e2
    simp at e2
    rw [← e1, ← e2]
    exact k
theorem gotk_more {H1 H2 H3 : Hp} {Dl : Addr} {y : V} (h : GotK H1 Dl ps H2) (e : Ex H2 H3) (hd : Kn p y H3) (hz : ps.length < 100000) :
    ∃ acc, H3 Dl = some (.lst acc) ∧ acc.length < sizeLine ∧ GotK H1 Dl (ps ++ [p]) (upd H3 Dl (.lst (acc ++ [y]))) := by
  obtain ⟨h1, h2, acc, h3, h4⟩ := h
  have h3' := e _ _ h3
  have t : Et H3 (upd H3 Dl (.lst (acc ++ [y]))) := Et.upd h3'
  have hl := h4.1
  exact ⟨acc, h3', sz_lt (by omega), h1, Ex.mut (h2.trans e) h1, acc ++ [y], upd_same, knl_snoc ((h4.ex e).et t) (hd.et t)⟩
theorem er_lcK {vs : List Nat} (f : PyData → Bool) (m : PyData → Pt) (h : ItD K wi σ H ds) (hz : ds.length ≤ 50000) (ht : ∀ e ∈ ds, TurnK K g tt te vs σ H e (f e) (m e)) :
    ∀ H0, Ex H H0 → ∀ Q : VK, (∀ l acc H2, H0 l = none → Ex H0 H2 → H2 l = some (.lst acc) → KnL ((ds.filter f).map m) acc H2 → Q (.ref l) H2) → tLc wi g tt te vs σ H0 Q := fun H0 e0 Q q =>
  h H0 e0 _ fun J H1 e1 wk Dl hD => by
    refine ⟨fun i k H' => k = ds.length - i ∧ i ≤ ds.length ∧ GotK H1 Dl (((ds.take i).filter f).map m) H', ⟨ds.length, rfl, Nat.zero_le _, hD, Ex.new hD, [], upd_same, rfl, fun i v p e => by simp at e⟩, fun i k H' hw => ?_⟩
    obtain ⟨rfl, le, k⟩ := hw
    obtain ⟨w1, w2⟩ := wk H' k.ex i
    by_cases lt : i < ds.length
    · obtain ⟨go, y⟩ := w1 lt
      refine Or.inr ⟨go, fun H2 => GotK H1 Dl (((ds.take (i + 1)).filter f).map m) H2, fun H2 k2 => ⟨ds.length - (i + 1), by omega, rfl, lt, k2⟩, fun x H2 hy => ?_⟩
      obtain ⟨rfl, e, he, dx⟩ := y x H2 hy
      have hm := List.mem_of_getElem? he
      have pl : (((ds.take i).filter f).map m).length ≤ ds.length := by
        rw [List.length_map]
        have h1 := List.length_filter_le f (ds.take i)
        rw [List.length_take] at h1
        omega
      obtain ⟨σ2, ws, hg, h1, h2⟩ := ht e hm x H2 ((e0.trans e1).trans k.ex) dx
      have tk : ((ds.take (i + 1)).filter f).map m = if f e = true then ((ds.take i).filter f).map m ++ [m e] else ((ds.take i).filter f).map m := by
        rw [List.take_add_one, he]
        show ((ds.take i ++ [e]).filter f).map m = _
        rw [List.filter_append, List.map_append]
        cases z : f e <;> simp [z]
      refine hg _ ⟨ws, h1 H2 (Ex.refl H2) _ fun H3 e3 => ?_⟩
      rw [tk]
      cases z : f e with
      | true =>
        rw [if_pos rfl, if_pos rfl]
        refine h2 z H3 e3 _ fun y H4 e4 dy => ?_
        exact gotk_more k (e3.trans e4) dy (by omega)
      | false =>
        rw [if_neg (by decide), if_neg (by decide)]
        obtain ⟨b1, b2, acc, b3, b4⟩ := k
        exact ⟨b1, b2.trans e3, acc, e3 _ _ b3, b4.ex e3⟩
    · have ie : i = ds.length := by omega
      subst ie
      refine Or.inl ⟨w2 rfl, ?_⟩
      rw [List.take_length] at k
      obtain ⟨b1, b2, acc, b3, b4⟩ := k
      exact q Dl acc H' (fresh_back e1 b1) (e1.trans b2) b3 b4
theorem turnK_pair {vs : List Nat} {i j : Nat} {N : Nat} {a b : PyData} {f : Bool} (hN : N = 2) (hw : ∀ x y, wipe (((wipe σ vs).set i (some x)).set j (some y)) vs = wipe σ vs)
    (ht : ∀ x y H1, Ex H H1 → Da K H1 x a → Da K H1 y b → EvT tt (((wipe σ vs).set i (some x)).set j (some y)) H1 f)
    (he : ∀ x y H1, Ex H H1 → Da K H1 x a → Da K H1 y b → f = true → EvR (Kn p) te (((wipe σ vs).set i (some x)).set j (some y)) H1) : TurnK K (gTup K N (gCons (gName i) (gCons (gName j) gNil))) tt te vs σ H (.tuple [a, b]) f p :=
  fun x H1 e1 dx => by
    obtain ⟨t, xs, rfl, htt, hx⟩ := dp_tupI dx
    cases hx with
    | cons h1 hx =>
      cases hx with
      | cons h2 hx =>
        cases hx
        exact ⟨_, hw _ _, fun Q q => ⟨t, _, rfl, htt, hN.symm, _, _, rfl, _, _, rfl, rfl, q⟩, ht _ _ H1 e1 h1 h2, fun hf => he _ _ H1 e1 h1 h2 hf⟩
theorem er_tupLc {vs : List Nat} (f : PyData → Bool) (m : PyData → Pt) (h : ItD K wi σ H ds) (hz : ds.length ≤ 50000) (ht : ∀ e ∈ ds, TurnK K g tt te vs σ H e (f e) (m e)) :
    EvR (KnT ((ds.filter f).map m)) (tCB (fTup K) (tCons (tLc wi g tt te vs) tNil)) σ H := fun H1 e1 Q q => by
  unfold tCB tCons tNil
  exact er_lcK f m h hz ht H1 e1 _ fun l acc H2 nl e2 hl kl => ⟨l, acc, rfl, Or.inl ⟨SqL.of hl, fun t ht => q _ _ (e2.trans (Ex.new ht)) ⟨t, acc, rfl, upd_same, kl.ex (Ex.new ht)⟩⟩⟩
end
end Mm

set_option Elab.async false
set_option linter.all false
set_option maxRecDepth 100000
set_option maxHeartbeats 4000000
namespace Mm
open PySem PySem.Spec PyProof.Rows L2 Evl

/-! ### a dict from knots to ints -/
def grp (ps : List Pt) (f : Pt → Int) : List (T2 × V) := ps.map fun p => (kp p, .int (f p))
theorem valV_grp (f : Pt → Int) (p : Pt) : ∀ ps : List Pt, valV (grp ps f) (kp p) = if p ∈ ps then some (.int (f p)) else none
  | [] => by simp [grp, valV]
  | q :: ps => by
    have ih := valV_grp f p ps
    show valV ((kp q, V.int (f q)) :: grp ps f) (kp p) = _
    by_cases e : q = p
    · subst e
      rw [valV_pos rfl, if_pos List.mem_cons_self]
    · rw [valV_neg (fun z => e (kp_inj z)), ih]
      simp [Ne.symm e]
theorem grp_len (ps : List Pt) (f : Pt → Int) : (grp ps f).length = ps.length := List.length_map _
theorem grp_snoc {ps : List Pt} {p : Pt} (f : Pt → Int) (h : p ∉ ps) : putK (grp ps f) (kp p) (.int (f p)) = grp (ps ++ [p]) f := by
  rw [putK_new _ (by rw [valV_grp, if_neg h])]
  simp [grp]
section
variable {K : PySem.W.Frag} {H H' : Hp} {σ : L2.St} {ta tb tc td te tl tk tv : TE} {tt : TT} {tr : TA} {ds : List PyData} {u z : TS} {g : TG} {p q : Pt} {v : V} {R : V → Hp → Prop} {wi : TI} {ps : List Pt} {xs : List V} {J : It} {vs : List Nat} {Q : VK}
theorem take_snoc {ps : List Pt} {k : Nat} {p : Pt} (h : ps[k]? = some p) : ps.take (k + 1) = ps.take k ++ [p] := by
  rw [List.take_add_one, h]
  rfl
theorem take_new {ps : List Pt} {k : Nat} {p : Pt} (nd : ps.Nodup) (h : ps[k]? = some p) : p ∉ ps.take k := by
  intro m
  obtain ⟨i, hi, e⟩ := List.mem_iff_getElem.mp m
  obtain ⟨hk, ek⟩ := List.getElem?_eq_some_iff.mp h
  rw [List.getElem_take] at e
  have lt : i < k := by
    rw [List.length_take] at hi
    omega
  exact List.pairwise_iff_getElem.mp nd i k (by omega) hk lt (e.trans ek.symm)
/-- what a walk and its turns must do -/
theorem dcT_run {H1 : Hp} {D : Addr} (f : Pt → Int) (nd : ps.Nodup) (small : ps.length ≤ 1000) (hD : H1 D = none)
    (go : ∀ k Hk, k < ps.length → Ex H1 Hk → J.go k Hk) (stop : ∀ Hk, Ex H1 Hk → J.stop ps.length Hk)
    (turn : ∀ (k : Nat) (p : Pt) (Hk : Hp) (x : V) (H' : Hp), ps[k]? = some p → Ex H1 Hk → J.yld k Hk x H' → ∀ Nx : L2.St → Hp → Prop, (∀ σ2 H2, wipe σ2 vs = wipe σ vs → Ex Hk H2 → EvR (Kn p) tk σ2 H2 → EvD K tv σ2 H2 (.int (f p)) → Nx σ2 H2) → g x (wipe σ vs) H' Nx)
    (fin : ∀ H', Ex H1 H' → H' D = some (.dT (grp ps f)) → Q (.ref D) H') :
    ∃ W : Nat → Nat → Hp → Prop, (∃ m, W 0 m (upd H1 D (.dT []))) ∧ ∀ i m H, W i m H →
    (J.stop i H ∧ Q (.ref D) H) ∨ (J.go i H ∧ ∃ Nx : Hp → Prop, (∀ H', Nx H' → ∃ m', m' < m ∧ W (i + 1) m' H') ∧ ∀ x H', J.yld i H x H' → stepT g tk tv vs σ D Nx x H') := by
  refine ⟨fun k m Hk => m = ps.length - k ∧ k ≤ ps.length ∧ Ex H1 Hk ∧ Hk D = some (.dT (grp (ps.take k) f)), ⟨ps.length, rfl, Nat.zero_le _, Ex.new hD, upd_same⟩, fun k m Hk hw => ?_⟩
  obtain ⟨rfl, le, ex, dd⟩ := hw
  by_cases lt : k < ps.length
  · have gp : ps[k]? = some ps[k] := List.getElem?_eq_getElem lt
    refine Or.inr ⟨go k Hk lt ex, fun H' => Ex H1 H' ∧ H' D = some (.dT (grp (ps.take (k + 1)) f)), fun H' h' => ⟨ps.length - (k + 1), by omega, rfl, lt, h'.1, h'.2⟩, fun x H' y => ?_⟩
    refine turn k ps[k] Hk x H' gp ex y _ fun σ2 H2 ws e2 kk kv => ⟨ws, kk H2 (Ex.refl H2) _ fun y3 H3 e3 k3 => kv H3 e3 _ fun z4 H4 e4 d4 => ?_⟩
    cases dp_intI d4
    obtain ⟨qa, rfl, hq⟩ := k3.ex e4
    have all := (e2.trans e3).trans e4
    have ln : (grp (ps.take k) f).length ≤ 1000 := by
      rw [grp_len, List.length_take]
      omega
    refine ⟨grp (ps.take k) f, kp ps[k], qa, rfl, hq, all _ _ dd, sz_lt (by omega), Ex.mut (ex.trans all) hD, ?_⟩
    rw [upd_same, grp_snoc f (take_new nd gp), take_snoc gp]
  · have e : k = ps.length := by omega
    subst e
    rw [List.take_length] at dd
    exact Or.inl ⟨stop Hk ex, fin Hk ex dd⟩
/-- over enumerate of a tuple of knots -/
theorem dcT_enum {i j : Nat} (f : Pt → Int) (nd : ps.Nodup) (small : ps.length ≤ 1000)
    (h : ∀ H1, Ex H H1 → ∀ Q : List V → Hp → Prop, (∀ v H2, Ex H1 H2 → KnT ps v H2 → Q [v] H2) → tr σ H1 Q)
    (turn : ∀ (k : Nat) (p : Pt) (x : V) (H' : Hp), ps[k]? = some p → Ex H H' → Kn p x H' → wipe (((wipe σ vs).set i (some (.int (k : Int)))).set j (some x)) vs = wipe σ vs ∧
      EvR (Kn p) tk (((wipe σ vs).set i (some (.int (k : Int)))).set j (some x)) H' ∧ EvD K tv (((wipe σ vs).set i (some (.int (k : Int)))).set j (some x)) H' (.int (f p)))
    (fin : ∀ D H', Ex H H' → H D = none → H' D = some (.dT (grp ps f)) → Q (.ref D) H') : tDcT (iEnumU K tr) (gTup K 2 (gCons (gName i) (gCons (gName j) gNil))) tk tv vs σ H Q := by
  refine h H (Ex.refl H) _ fun v H1 e1 kt => ?_
  obtain ⟨t, xs, rfl, ht, kl⟩ := kt
  refine ⟨t, xs, rfl, SqT.of ht, fun D hD => dcT_run (K := K) f nd small hD (fun k Hk lt ex => ?_) (fun Hk ex => ⟨xs, SqT.of (ex _ _ ht), kl.1⟩) (fun k p Hk x H' gp ex y Nx nx => ?_) (fun H' ex hd => fin D H' (e1.trans ex) (fresh_back e1 hD) hd)⟩
  · have : k < xs.length := by rw [kl.1]; exact lt
    exact ⟨xs, xs[k], SqT.of (ex _ _ ht), List.getElem?_eq_getElem this⟩
  · obtain ⟨T, x, rfl, nT, rfl, hx⟩ := y
    have ex2 : Ex Hk (upd Hk T (.tup [.int (k : Int), x])) := Ex.new nT
    have kx := (kl.ex (ex.trans ex2)).2 k x p (hx xs (SqT.of (ex _ _ ht))) gp
    obtain ⟨a1, a2, a3⟩ := turn k p x _ gp ((e1.trans ex).trans ex2) kx
    exact ⟨T, _, rfl, SqT.of upd_same, rfl, _, _, rfl, _, _, rfl, rfl, nx _ _ a1 ex2 a2 a3⟩
/-- over the items of such a dict, which is locked -/
theorem dcT_items {i j : Nat} {d : Addr} {o : Obj} {e : Pt → Int} (f : Pt → Int) (nd : ps.Nodup) (small : ps.length ≤ 1000) {s : Nat} (hs : σ[s]? = some (some (.ref d))) (hd : H d = some (.frz o (.dT (grp ps e))))
    (turn : ∀ (k : Nat) (p : Pt) (x : V) (H' : Hp), ps[k]? = some p → Ex H H' → Kn p x H' → wipe (((wipe σ vs).set i (some x)).set j (some (.int (e p)))) vs = wipe σ vs ∧
      EvR (Kn p) tk (((wipe σ vs).set i (some x)).set j (some (.int (e p)))) H' ∧ EvD K tv (((wipe σ vs).set i (some x)).set j (some (.int (e p)))) H' (.int (f p)))
    (fin : ∀ D H', Ex H H' → H D = none → H' D = some (.dT (grp ps f)) → Q (.ref D) H') : tDcT (iItemsT (tVar s)) (gTup K 2 (gCons (gName i) (gCons (gName j) gNil))) tk tv vs σ H Q := by
  refine ⟨.ref d, hs, d, o, grp ps e, rfl, hd, fun D hD => dcT_run (K := K) f nd small hD (fun k Hk lt ex => ⟨ex _ _ hd, by rw [grp_len]; exact lt⟩) (fun Hk ex => ⟨ex _ _ hd, by rw [grp_len]; exact Nat.le_refl _⟩) (fun k p Hk x H' gp ex y Nx nx => ?_) (fun H' ex hd => fin D H' ex hD hd)⟩
  obtain ⟨T, qa, kk, w, gk, rfl, nT, rfl, hq⟩ := y
  have g2 : (grp ps e)[k]? = some (kp p, .int (e p)) := by
    unfold grp
    rw [List.getElem?_map, gp]
    rfl
  rw [gk] at g2
  cases g2
  have ex2 : Ex Hk (upd Hk T (.tup [.ref qa, .int (e p)])) := Ex.new nT
  obtain ⟨a1, a2, a3⟩ := turn k p (.ref qa) _ gp (ex.trans ex2) ⟨qa, rfl, ex2 _ _ hq⟩
  exact ⟨T, _, rfl, SqT.of upd_same, rfl, _, _, rfl, _, _, rfl, rfl, nx _ _ a1 ex2 a2 a3⟩
/-- d[k] -/
theorem ed_dget {d : Addr} {e : Pt → Int} {s : Nat} (hs : σ[s]? = some (some (.ref d))) (hd : H d = some (.dT (grp ps e))) (hk : EvR (Kn p) te σ H) (hp : p ∈ ps) : EvD K (tDGet (tVar s) te) σ H (.int (e p)) := fun H1 e1 Q q =>
  ⟨.ref d, hs, hk H1 e1 _ fun y H2 e2 ky => by
    obtain ⟨qa, rfl, hq⟩ := ky
    have hd2 := (e1.trans e2) _ _ hd
    have g := DGet.t (k := kp p) hd2 hq
    rw [valV_grp, if_pos hp] at g
    exact ⟨d, _, rfl, g, q _ H2 e2 (.int _)⟩⟩
variable {D : Ends}
theorem qd_dcEnum {i j s : Nat} (f : Pt → Int) (nd : ps.Nodup) (small : ps.length ≤ 1000)
    (h : ∀ H1, Ex H H1 → ∀ Q : List V → Hp → Prop, (∀ v H2, Ex H1 H2 → KnT ps v H2 → Q [v] H2) → tr σ H1 Q)
    (turn : ∀ (k : Nat) (p : Pt) (x : V) (H' : Hp), ps[k]? = some p → Ex H H' → Kn p x H' → wipe (((wipe σ vs).set i (some (.int (k : Int)))).set j (some x)) vs = wipe σ vs ∧
      EvR (Kn p) tk (((wipe σ vs).set i (some (.int (k : Int)))).set j (some x)) H' ∧ EvD K tv (((wipe σ vs).set i (some (.int (k : Int)))).set j (some x)) H' (.int (f p)))
    (fin : ∀ D1 H', Ex H H' → H D1 = none → H' D1 = some (.dT (grp ps f)) → z D (σ.set s (some (.ref D1))) H') : tSeq (tAsg (tDcT (iEnumU K tr) (gTup K 2 (gCons (gName i) (gCons (gName j) gNil))) tk tv vs) (gName s)) z D σ H :=
  dcT_enum (K := K) (Q := fun v H1 => z D (σ.set s (some v)) H1) f nd small h turn fin
theorem sd_dcItems {i j s s2 : Nat} {d : Addr} {e : Pt → Int} (f : Pt → Int) (nd : ps.Nodup) (small : ps.length ≤ 1000) (hs : σ[s]? = some (some (.ref d))) (hd : H d = some (.dT (grp ps e)))
    (turn : ∀ (k : Nat) (p : Pt) (x : V) (H0 H' : Hp), ps[k]? = some p → (∀ a o, a ≠ d → H a = some o → H' a = some o) → Kn p x H' → wipe (((wipe σ vs).set i (some x)).set j (some (.int (e p)))) vs = wipe σ vs ∧
      EvR (Kn p) tk (((wipe σ vs).set i (some x)).set j (some (.int (e p)))) H' ∧ EvD K tv (((wipe σ vs).set i (some x)).set j (some (.int (e p)))) H' (.int (f p)))
    (fin : ∀ D1 H', Ex H H' → H D1 = none → H' D1 = some (.dT (grp ps f)) → D.nx (σ.set s2 (some (.ref D1))) H') : tLock (tAsg (tDcT (iItemsT (tVar s)) (gTup K 2 (gCons (gName i) (gCons (gName j) gNil))) tk tv vs) (gName s2)) D σ H := by
  refine ⟨d, _, hd, trivial, fun od => ?_⟩
  refine dcT_items (K := K) (d := d) (o := od) (e := e) (Q := fun v H1 => H1 d = some (.frz od (.dT (grp ps e))) ∧ D.nx (σ.set s2 (some v)) (upd H1 d (.dT (grp ps e)))) f nd small hs upd_same (fun k p x H' gp ex kx => turn k p x H H' gp (fun a o ne h => ex a o (by rw [upd_ne ne]; exact h)) kx) fun D1 H1 ex nD hD => ?_
  have ne : D1 ≠ d := fun z => by
    rw [z, upd_same] at nD
    cases nD
  rw [upd_ne ne] at nD
  refine ⟨ex _ _ upd_same, fin D1 _ (fun a o h => ?_) nD (by rw [upd_ne ne]; exact hD)⟩
  by_cases z : a = d
  · subst z
    rw [hd] at h
    cases h
    exact upd_same
  · rw [upd_ne z]
    exact ex a o (by rw [upd_ne z]; exact h)
theorem qd_un2R {i j : Nat} (h : EvR (Kn2 p q) te σ H) (n : ∀ x y H1, Ex H H1 → Kn p x H1 → Kn q y H1 → z D ((σ.set i (some x)).set j (some y)) H1) : tSeq (tAsg te (gTup K 2 (gCons (gName i) (gCons (gName j) gNil)))) z D σ H :=
  h H (Ex.refl H) _ fun v H1 e1 k => by
    obtain ⟨t, x, y, rfl, ht, k1, k2⟩ := k
    exact ⟨t, _, rfl, SqT.of ht, rfl, _, _, rfl, _, _, rfl, rfl, n x y H1 e1 k1 k2⟩
end
end Mm

set_option Elab.async false
set_option linter.all false
set_option maxRecDepth 100000
set_option maxHeartbeats 4000000
namespace Mm
open PySem PySem.Spec PyProof.Rows L2 Evl

/-! ### labels of knots, made alike bar by bar -/
def mrg (f : Pt → Int) (u l : Pt) : Pt → Int := fun p => if f p = f l then f u else f p
def labs (b : Int) (f : Pt → Int) (zs : List Int) : Pt → Int := zs.foldl (fun g z => mrg g (endsB b z).1 (endsB b z).2) f
theorem labs_snoc (b : Int) (f : Pt → Int) (zs : List Int) (z : Int) : labs b f (zs ++ [z]) = mrg (labs b f zs) (endsB b z).1 (endsB b z).2 := by
  unfold labs
  rw [List.foldl_append]
  rfl
theorem mrg_keep {f : Pt → Int} {u l p q : Pt} (h : f p = f q) : mrg f u l p = mrg f u l q := by
  unfold mrg
  rw [h]
theorem mrg_ends (f : Pt → Int) (u l : Pt) : mrg f u l u = mrg f u l l := by
  unfold mrg
  rw [if_pos (rfl : f l = f l)]
  split <;> rfl
def EndOf (b x : Int) (p : Pt) : Prop := (endsB b x).1 = p ∨ (endsB b x).2 = p
theorem near_of {b x y : Int} {p : Pt} (h : EndOf b x p) (k : EndOf b y p) : nearR b x y := by
  unfold nearR nearP
  simp only [List.mem_cons, List.mem_nil_iff, or_false, Bool.or_eq_true, decide_eq_true_eq]
  rcases h with h | h <;> rcases k with k | k
  · exact Or.inl (Or.inl (k.trans h.symm))
  · exact Or.inr (Or.inl (k.trans h.symm))
  · exact Or.inl (Or.inr (k.trans h.symm))
  · exact Or.inr (Or.inr (k.trans h.symm))
theorem near_end {b x y : Int} (h : nearR b x y) : ∃ p, EndOf b x p ∧ EndOf b y p := by
  unfold nearR nearP at h
  simp only [List.mem_cons, List.mem_nil_iff, or_false, Bool.or_eq_true, decide_eq_true_eq] at h
  rcases h with (h | h) | (h | h)
  · exact ⟨_, Or.inl rfl, Or.inl h⟩
  · exact ⟨_, Or.inr rfl, Or.inl h⟩
  · exact ⟨_, Or.inl rfl, Or.inr h⟩
  · exact ⟨_, Or.inr rfl, Or.inr h⟩
/-- one knot leads to another one over some bars -/
def Leads (b : Int) (zs : List Int) (p q : Pt) : Prop := p = q ∨ ∃ x y, x ∈ zs ∧ y ∈ zs ∧ EndOf b x p ∧ EndOf b y q ∧ Reach (nearR b) zs x y
theorem Leads.back {b : Int} {zs : List Int} {p q : Pt} (h : Leads b zs p q) : Leads b zs q p := by
  rcases h with h | ⟨x, y, hx, hy, ex, ey, r⟩
  · exact Or.inl h.symm
  · exact Or.inr ⟨y, x, hy, hx, ey, ex, r.back (nearR_sym b) hx⟩
theorem Leads.trans {b : Int} {zs : List Int} {p q r : Pt} (h : Leads b zs p q) (k : Leads b zs q r) : Leads b zs p r := by
  rcases h with rfl | ⟨x, y, hx, hy, ex, ey, c⟩
  · exact k
  · rcases k with rfl | ⟨x', y', hx', hy', ex', ey', c'⟩
    · exact Or.inr ⟨x, y, hx, hy, ex, ey, c⟩
    · exact Or.inr ⟨x, y', hx, hy', ex, ey', (Reach.step c (near_of ey ex') hx').trans c'⟩
/-- labels that are equal lead to one another -/
theorem labs_lead {b : Int} {zs : List Int} {S : Pt → Prop} {f : Pt → Int} (inj : ∀ p q, S p → S q → f p = f q → p = q) : ∀ (n : Nat) (xs : List Int), xs.length = n → (∀ x ∈ xs, x ∈ zs ∧ S (endsB b x).1 ∧ S (endsB b x).2) →
    ∀ p q, S p → S q → labs b f xs p = labs b f xs q → Leads b zs p q
  | 0, xs, hn, _, p, q, sp, sq, e => by
    obtain rfl := List.eq_nil_of_length_eq_zero hn
    exact Or.inl (inj p q sp sq e)
  | n + 1, xs, hn, hx, p, q, sp, sq, e => by
    obtain ⟨ys, z, rfl⟩ : ∃ ys z, xs = ys ++ [z] := by
      rcases List.eq_nil_or_concat xs with h | ⟨ys, z, h⟩
      · rw [h] at hn
        simp at hn
      · exact ⟨ys, z, by rw [h]; simp⟩
    have ih := labs_lead (zs := zs) inj n ys (by simpa using hn) (fun x h => hx x (List.mem_append_left _ h))
    obtain ⟨zz, su, sl⟩ := hx z (by simp)
    rw [labs_snoc] at e
    have ul : Leads b zs (endsB b z).1 (endsB b z).2 := Or.inr ⟨z, z, zz, zz, Or.inl rfl, Or.inr rfl, .here⟩
    unfold mrg at e
    by_cases h1 : labs b f ys p = labs b f ys (endsB b z).2
    · by_cases h2 : labs b f ys q = labs b f ys (endsB b z).2
      · exact (ih p _ sp sl h1).trans (ih q _ sq sl h2).back
      · rw [if_pos h1, if_neg h2] at e
        exact ((ih p _ sp sl h1).trans ul.back).trans (ih _ q su sq e)
    · by_cases h2 : labs b f ys q = labs b f ys (endsB b z).2
      · rw [if_neg h1, if_pos h2] at e
        exact ((ih p _ sp su e).trans ul).trans (ih q _ sq sl h2).back
      · rw [if_neg h1, if_neg h2] at e
        exact ih p q sp sq e
theorem labs_keep (b : Int) : ∀ (zs : List Int) (f : Pt → Int) (p q : Pt), f p = f q → labs b f zs p = labs b f zs q
  | [], _, _, _, h => h
  | z :: zs, f, p, q, h => labs_keep b zs _ p q (mrg_keep h)
theorem labs_ends (b : Int) : ∀ (zs : List Int) (f : Pt → Int) (z : Int), z ∈ zs → labs b f zs (endsB b z).1 = labs b f zs (endsB b z).2
  | y :: zs, f, z, h => by
    rcases List.mem_cons.mp h with rfl | h
    · exact labs_keep b zs _ _ _ (mrg_ends _ _ _)
    · exact labs_ends b zs _ z h

/-! ### bars by their labels -/
def addG (gs : List (Int × List Int)) (l x : Int) : List (Int × List Int) := if l ∈ gs.map (·.1) then gs.map (fun g => if g.1 = l then (l, g.2 ++ [x]) else g) else gs ++ [(l, [x])]
def grpG (F : Int → Int) (zs : List Int) : List (Int × List Int) := zs.foldl (fun gs x => addG gs (F x) x) []
theorem grpG_snoc (F : Int → Int) (zs : List Int) (z : Int) : grpG F (zs ++ [z]) = addG (grpG F zs) (F z) z := by
  unfold grpG
  rw [List.foldl_append]
  rfl
structure GInv (F : Int → Int) (zs : List Int) (gs : List (Int × List Int)) : Prop where
  nd : (gs.map (·.1)).Nodup
  val : ∀ g ∈ gs, g.2 = zs.filter (fun x => decide (F x = g.1)) ∧ g.2 ≠ []
  key : ∀ x ∈ zs, F x ∈ gs.map (·.1)
  ord : gs.Pairwise (fun g h => g.2.headD 0 < h.2.headD 0)
theorem headD_app {l : List Int} (h : l ≠ []) (x : Int) : (l ++ [x]).headD 0 = l.headD 0 := by
  cases l with
  | nil => exact absurd rfl h
  | cons y l => rfl
theorem headD_mem {l : List Int} (h : l ≠ []) : l.headD 0 ∈ l := by
  cases l with
  | nil => exact absurd rfl h
  | cons y l => exact List.mem_cons_self
theorem addG_inv {F : Int → Int} {zs : List Int} {gs : List (Int × List Int)} {x : Int} (h : GInv F zs gs) (up : ∀ y ∈ zs, y < x) : GInv F (zs ++ [x]) (addG gs (F x) x) := by
  unfold addG
  by_cases k : F x ∈ gs.map (·.1)
  · rw [if_pos k]
    have keys : (gs.map fun g => if g.1 = F x then (F x, g.2 ++ [x]) else g).map (·.1) = gs.map (·.1) := by
      rw [List.map_map]
      refine List.map_congr_left fun g _ => ?_
      show (if g.1 = F x then (F x, g.2 ++ [x]) else g).1 = g.1
      split
      · next e => exact e.symm
      · rfl
    refine ⟨by rw [keys]; exact h.nd, fun g hg => ?_, fun y hy => ?_, ?_⟩
    · obtain ⟨g0, h0, rfl⟩ := List.mem_map.mp hg
      obtain ⟨v1, v2⟩ := h.val g0 h0
      by_cases e : g0.1 = F x
      · rw [if_pos e]
        refine ⟨?_, by simp⟩
        rw [List.filter_append, v1, e]
        simp
      · rw [if_neg e]
        refine ⟨?_, v2⟩
        have ne : F x ≠ g0.1 := fun z => e z.symm
        rw [List.filter_append]
        simp [ne]
        exact v1
    · rw [keys]
      rcases List.mem_append.mp hy with hy | hy
      · exact h.key y hy
      · rw [List.mem_singleton.mp hy]
        exact k
    · rw [List.pairwise_map]
      refine h.ord.imp_of_mem fun {g g'} hg hg' lt => ?_
      have e1 : (if g.1 = F x then (F x, g.2 ++ [x]) else g).2.headD 0 = g.2.headD 0 := by
        split
        · exact headD_app (h.val g hg).2 x
        · rfl
      have e2 : (if g'.1 = F x then (F x, g'.2 ++ [x]) else g').2.headD 0 = g'.2.headD 0 := by
        split
        · exact headD_app (h.val g' hg').2 x
        · rfl
      rw [e1, e2]
      exact lt
  · rw [if_neg k]
    have none : ∀ y ∈ zs, F y ≠ F x := fun y hy e => k (e ▸ h.key y hy)
    refine ⟨?_, fun g hg => ?_, fun y hy => ?_, ?_⟩
    · rw [List.map_append]
      refine List.nodup_append.mpr ⟨h.nd, by simp, fun a ha b hb => ?_⟩
      have : b = F x := by simpa using hb
      rw [this]
      exact fun e => k (e ▸ ha)
    · rcases List.mem_append.mp hg with hg | hg
      · obtain ⟨v1, v2⟩ := h.val g hg
        refine ⟨?_, v2⟩
        rw [List.filter_append]
        have : F x ≠ g.1 := fun e => k (e ▸ List.mem_map.mpr ⟨g, hg, rfl⟩)
        simp [this]
        exact v1
      · rw [List.mem_singleton.mp hg]
        refine ⟨?_, by simp⟩
        rw [List.filter_append, List.filter_eq_nil_iff.mpr fun y hy => by simpa using none y hy]
        simp
    · rw [List.map_append]
      rcases List.mem_append.mp hy with hy | hy
      · exact List.mem_append_left _ (h.key y hy)
      · rw [List.mem_singleton.mp hy]
        simp
    · refine List.pairwise_append.mpr ⟨h.ord, by simp, fun g hg g' hg' => ?_⟩
      rw [List.mem_singleton.mp hg']
      obtain ⟨v1, v2⟩ := h.val g hg
      have m := headD_mem v2
      rw [v1] at m
      have := up _ (List.mem_filter.mp m).1
      rw [← v1] at this
      exact this
theorem grpG_inv (F : Int → Int) : ∀ (n : Nat) (zs : List Int), zs.length = n → zs.Pairwise (· < ·) → GInv F zs (grpG F zs)
  | 0, zs, hn, _ => by
    obtain rfl := List.eq_nil_of_length_eq_zero hn
    exact ⟨by simp [grpG], fun g hg => by simp [grpG] at hg, fun x hx => by simp at hx, by simp [grpG]⟩
  | n + 1, zs, hn, up => by
    obtain ⟨ys, z, rfl⟩ : ∃ ys z, zs = ys ++ [z] := by
      rcases List.eq_nil_or_concat zs with h | ⟨ys, z, h⟩
      · rw [h] at hn
        simp at hn
      · exact ⟨ys, z, by rw [h]; simp⟩
    obtain ⟨u1, _, u3⟩ := List.pairwise_append.mp up
    rw [grpG_snoc]
    exact addG_inv (grpG_inv F n ys (by simpa using hn) u1) fun y hy => u3 y hy z (by simp)
theorem ginv_comps {b : Int} {zs : List Int} {S : Pt → Prop} {f : Pt → Int} (inj : ∀ p q, S p → S q → f p = f q → p = q) (hS : ∀ x ∈ zs, S (endsB b x).1 ∧ S (endsB b x).2) (up : zs.Pairwise (· < ·)) :
    Comps (nearR b) zs ((grpG (fun x => labs b f zs (endsB b x).1) zs).map (·.2)) := by
  have g := grpG_inv (fun x => labs b f zs (endsB b x).1) _ zs rfl up
  have at_end : ∀ x ∈ zs, ∀ p, EndOf b x p → labs b f zs (endsB b x).1 = labs b f zs p := fun x hx p h => by
    rcases h with h | h
    · rw [h]
    · rw [← h]
      exact labs_ends b zs f x hx
  refine ⟨fun x => ⟨fun hx => ?_, fun ⟨c, hc, hx⟩ => ?_⟩, fun c hc => ?_, fun c hc => ?_, fun c hc x hx y hy nr => ?_, fun c hc x hx y hy => ?_, ?_⟩
  · obtain ⟨h, hh, e⟩ := List.mem_map.mp (g.key x hx)
    refine ⟨h.2, List.mem_map.mpr ⟨h, hh, rfl⟩, ?_⟩
    rw [(g.val h hh).1]
    exact List.mem_filter.mpr ⟨hx, decide_eq_true e.symm⟩
  · obtain ⟨h, hh, rfl⟩ := List.mem_map.mp hc
    rw [(g.val h hh).1] at hx
    exact (List.mem_filter.mp hx).1
  · obtain ⟨h, hh, rfl⟩ := List.mem_map.mp hc
    exact (g.val h hh).2
  · obtain ⟨h, hh, rfl⟩ := List.mem_map.mp hc
    rw [(g.val h hh).1]
    exact up.filter _
  · obtain ⟨h, hh, rfl⟩ := List.mem_map.mp hc
    rw [(g.val h hh).1] at hx ⊢
    obtain ⟨xz, xl⟩ := List.mem_filter.mp hx
    have xl := of_decide_eq_true xl
    obtain ⟨p, ep, eq⟩ := near_end nr
    exact List.mem_filter.mpr ⟨hy, decide_eq_true (((at_end y hy p eq).trans (at_end x xz p ep).symm).trans xl)⟩
  · obtain ⟨h, hh, rfl⟩ := List.mem_map.mp hc
    rw [(g.val h hh).1] at hx hy
    obtain ⟨xz, xl⟩ := List.mem_filter.mp hx
    obtain ⟨yz, yl⟩ := List.mem_filter.mp hy
    have xl := of_decide_eq_true xl
    have yl := of_decide_eq_true yl
    rcases labs_lead (zs := zs) inj _ zs rfl (fun x h => ⟨h, hS x h⟩) _ _ (hS x xz).1 (hS y yz).1 (xl.trans yl.symm) with e | ⟨x', y', hx', hy', ex, ey, r⟩
    · exact .step .here (near_of (Or.inl rfl) (Or.inl e.symm)) yz
    · exact .step ((Reach.step .here (near_of (Or.inl rfl) ex) hx').trans r) (near_of ey (Or.inl rfl)) yz
  · rw [List.pairwise_map]
    exact g.ord
end Mm

set_option Elab.async false
set_option linter.all false
set_option maxRecDepth 100000
set_option maxHeartbeats 4000000
namespace Mm
open PySem PySem.Spec PyProof.Rows L2 Evl

/-! ### a dict from ints to lists of ints -/
/-- the lists stand apart, each as told -/
structure Lots (H : Hp) (kvs : List (L2.Key × V)) (as : List Addr) (gs : List (Int × List Int)) : Prop where
  len : as.length = gs.length
  eq : kvs = (as.zip gs).map fun g => (Sum.inl g.2.1, V.ref g.1)
  nd : as.Nodup
  at_ : ∀ (i : Nat) (l : Addr) (g : Int × List Int), as[i]? = some l → gs[i]? = some g → H l = some (.lst (g.2.map V.int))
theorem Lots.same {H H' : Hp} {kvs : List (L2.Key × V)} {as : List Addr} {gs : List (Int × List Int)} (h : Lots H kvs as gs) (e : ∀ a ∈ as, ∀ o, H a = some o → H' a = some o) : Lots H' kvs as gs :=
  ⟨h.len, h.eq, h.nd, fun i l g e1 e2 => e l (List.mem_of_getElem? e1) _ (h.at_ i l g e1 e2)⟩
theorem zip_val : ∀ (as : List Addr) (gs : List (Int × List Int)) (l : Int), as.length = gs.length → (gs.map (·.1)).Nodup →
    (l ∉ gs.map (·.1) ∧ valV ((as.zip gs).map fun g => ((Sum.inl g.2.1 : L2.Key), V.ref g.1)) (Sum.inl l) = none) ∨
    (∃ (i : Nat) (a : Addr) (c : List Int), as[i]? = some a ∧ gs[i]? = some (l, c) ∧ valV ((as.zip gs).map fun g => ((Sum.inl g.2.1 : L2.Key), V.ref g.1)) (Sum.inl l) = some (.ref a))
  | [], [], l, _, _ => Or.inl ⟨by simp, rfl⟩
  | a :: as, g :: gs, l, h, nd => by
    obtain ⟨n1, n2⟩ := List.nodup_cons.mp (show (g.1 :: gs.map (·.1)).Nodup from nd)
    show (_ ∧ valV ((Sum.inl g.1, V.ref a) :: _) _ = none) ∨ (∃ (i : Nat) (a' : Addr) (c : List Int), (a :: as)[i]? = some a' ∧ (g :: gs)[i]? = some (l, c) ∧ valV ((Sum.inl g.1, V.ref a) :: _) _ = some (.ref a'))
    by_cases e : g.1 = l
    · refine Or.inr ⟨0, a, g.2, rfl, by rw [← e]; rfl, ?_⟩
      rw [valV_pos (by rw [e])]
    · rw [valV_neg (fun z => e (Sum.inl.inj z))]
      rcases zip_val as gs l (by simpa using h) n2 with ⟨x, y⟩ | ⟨i, a', c, x, y, z⟩
      · refine Or.inl ⟨?_, y⟩
        rw [List.map_cons, List.mem_cons]
        rintro (z | z)
        · exact e z.symm
        · exact x z
      · exact Or.inr ⟨i + 1, a', c, x, y, z⟩
/-- a bar is put to the others with its label -/
theorem lots_old {H : Hp} {kvs : List (L2.Key × V)} {as : List Addr} {gs : List (Int × List Int)} {l x : Int} {i : Nat} {a : Addr} {c : List Int} (h : Lots H kvs as gs) (nk : (gs.map (·.1)).Nodup) (ha : as[i]? = some a) (hg : gs[i]? = some (l, c)) :
    H a = some (.lst (c.map V.int)) ∧ Lots (upd H a (.lst (c.map V.int ++ [.int x]))) kvs as (addG gs l x) := by
  have mem : l ∈ gs.map (·.1) := List.mem_map.mpr ⟨_, List.mem_of_getElem? hg, rfl⟩
  refine ⟨h.at_ i a _ ha hg, ?_⟩
  unfold addG
  rw [if_pos mem]
  refine ⟨by rw [List.length_map]; exact h.len, ?_, h.nd, fun j b g' e1 e2 => ?_⟩
  · rw [h.eq]
    clear ha hg mem nk
    have : ∀ (as : List Addr) (gs : List (Int × List Int)), ((as.zip gs).map fun g => ((Sum.inl g.2.1 : L2.Key), V.ref g.1)) = (as.zip (gs.map fun g => if g.1 = l then (l, g.2 ++ [x]) else g)).map fun g => (Sum.inl g.2.1, V.ref g.1) := by
      intro as
      induction as with
      | nil => intro gs; rfl
      | cons b as ih =>
        intro gs
        cases gs with
        | nil => rfl
        | cons g gs =>
          show (Sum.inl g.1, V.ref b) :: _ = (Sum.inl (if g.1 = l then (l, g.2 ++ [x]) else g).1, V.ref b) :: _
          have e1 : (if g.1 = l then (l, g.2 ++ [x]) else g).1 = g.1 := by
            split
            · next e => exact e.symm
            · rfl
          rw [e1]
          exact congrArg (List.cons _) (ih gs)
    exact this as gs
  · rw [List.getElem?_map] at e2
    obtain ⟨g0, e3, e4⟩ := Option.map_eq_some_iff.mp e2
    by_cases ij : j = i
    · subst ij
      rw [ha] at e1
      cases e1
      rw [hg] at e3
      cases e3
      rw [if_pos rfl] at e4
      rw [upd_same, ← e4, List.map_append]
      rfl
    · have nb : b ≠ a := by
        intro z
        subst z
        obtain ⟨hi, ei⟩ := List.getElem?_eq_some_iff.mp ha
        obtain ⟨hj, ej⟩ := List.getElem?_eq_some_iff.mp e1
        rcases Nat.lt_or_gt_of_ne ij with lt | lt
        · exact List.pairwise_iff_getElem.mp h.nd j i hj hi lt (ej.trans ei.symm)
        · exact List.pairwise_iff_getElem.mp h.nd i j hi hj lt (ei.trans ej.symm)
      have nl : g0.1 ≠ l := by
        intro z
        have k1 : (gs.map (·.1))[j]? = some l := by rw [List.getElem?_map, e3]; exact congrArg some z
        have k2 : (gs.map (·.1))[i]? = some l := by rw [List.getElem?_map, hg]; rfl
        obtain ⟨hi, ei⟩ := List.getElem?_eq_some_iff.mp k2
        obtain ⟨hj, ej⟩ := List.getElem?_eq_some_iff.mp k1
        rcases Nat.lt_or_gt_of_ne ij with lt | lt
        · exact List.pairwise_iff_getElem.mp nk j i hj hi lt (ej.trans ei.symm)
        · exact List.pairwise_iff_getElem.mp nk i j hi hj lt (ei.trans ej.symm)
      rw [if_neg nl] at e4
      rw [upd_ne nb, ← e4]
      exact h.at_ j b g0 e1 e3
/-- the first bar with its label -/
theorem lots_new {H : Hp} {kvs : List (L2.Key × V)} {as : List Addr} {gs : List (Int × List Int)} {l x : Int} {a : Addr} (h : Lots H kvs as gs) (nm : l ∉ gs.map (·.1)) (na : a ∉ as) (hv : valV kvs (Sum.inl l) = none) (ha : H a = some (.lst [.int x])) :
    Lots H (putK kvs (Sum.inl l) (.ref a)) (as ++ [a]) (addG gs l x) := by
  unfold addG
  rw [if_neg nm, putK_new _ hv]
  have hl := h.len
  refine ⟨by simp [hl], ?_, ?_, fun j b g' e1 e2 => ?_⟩
  · rw [List.zip_append hl, List.map_append, h.eq]
    rfl
  · refine List.nodup_append.mpr ⟨h.nd, by simp, fun y hy z hz => ?_⟩
    rw [List.mem_singleton.mp hz]
    exact fun e => na (e ▸ hy)
  · by_cases lt : j < as.length
    · rw [List.getElem?_append_left lt] at e1
      rw [List.getElem?_append_left (by omega)] at e2
      exact h.at_ j b g' e1 e2
    · have jz : j = as.length := by
        have := (List.getElem?_eq_some_iff.mp e1).1
        simp at this
        omega
      subst jz
      simp at e1
      rw [hl] at e2
      simp at e2
      rw [← e1, ← e2]
      exact ha
theorem lots_kv {K : PySem.W.Frag} {H : Hp} {kvs : List (L2.Key × V)} {as : List Addr} {gs : List (Int × List Int)} (h : Lots H kvs as gs) (i : Nat) (x : V) (k : L2.Key) (e : kvs[i]? = some (k, x)) : ∃ g, gs[i]? = some g ∧ Da K H x (.list (g.2.map .int)) := by
  rw [h.eq, List.getElem?_map] at e
  obtain ⟨⟨a, g⟩, e1, e2⟩ := Option.map_eq_some_iff.mp e
  rw [List.getElem?_zip_eq_some] at e1
  cases e2
  exact ⟨g, e1.2, .lst (SqL.of (h.at_ i a g e1.1 e1.2)) (dps_ints _)⟩
theorem lots_len {H : Hp} {kvs : List (L2.Key × V)} {as : List Addr} {gs : List (Int × List Int)} (h : Lots H kvs as gs) : kvs.length = gs.length := by
  rw [h.eq, List.length_map, List.length_zip, h.len, Nat.min_self]
theorem it_lots {K : PySem.W.Frag} {σ : L2.St} {H : Hp} {d : Addr} {o : Obj} {s : Nat} {kvs : List (L2.Key × V)} {as : List Addr} {gs : List (Int × List Int)} (hs : σ[s]? = some (some (.ref d))) (hd : H d = some (.frz o (.dK kvs))) (h : Lots H kvs as gs) :
    ItD K (iVals (tVar s)) σ H (gs.map fun g => .list (g.2.map .int)) := fun H1 e1 R r => ⟨.ref d, hs, d, o, kvs, rfl, e1 _ _ hd, r _ H1 (Ex.refl H1) fun H2 e2 i => by
  have e := e1.trans e2
  have hl := lots_len h
  rw [List.length_map]
  refine ⟨fun lt => ⟨⟨e _ _ hd, by omega⟩, fun x H3 y => ?_⟩, fun z => ⟨e _ _ hd, by omega⟩⟩
  obtain ⟨rfl, k, hk⟩ := y
  obtain ⟨g, e4, d4⟩ := lots_kv (K := K) h i x k hk
  exact ⟨rfl, _, by rw [List.getElem?_map, e4]; rfl, dpm e d4⟩⟩
/-! the number of labels is small -/
theorem addG_len (gs : List (Int × List Int)) (l x : Int) : (addG gs l x).length ≤ gs.length + 1 := by
  unfold addG
  split
  · rw [List.length_map]
    omega
  · rw [List.length_append]
    simp
theorem grpG_len (F : Int → Int) : ∀ (n : Nat) (zs : List Int), zs.length = n → (grpG F zs).length ≤ n
  | 0, zs, hn => by
    obtain rfl := List.eq_nil_of_length_eq_zero hn
    simp [grpG]
  | n + 1, zs, hn => by
    obtain ⟨ys, z, rfl⟩ : ∃ ys z, zs = ys ++ [z] := by
      rcases List.eq_nil_or_concat zs with h | ⟨ys, z, h⟩
      · rw [h] at hn
        simp at hn
      · exact ⟨ys, z, by rw [h]; simp⟩
    rw [grpG_snoc]
    have := grpG_len F n ys (by simpa using hn)
    have := addG_len (grpG F ys) (F z) z
    omega
theorem knotsZ_nd {a b : Int} (sh : Sheet a b) : (knotsZ a b).Nodup := by
  obtain ⟨m, n, rfl, rfl, k⟩ := chk_of sh
  unfold chk at k
  simp only [Bool.and_eq_true] at k
  have up := incr_pw _ k.1.1.1.1
  show (knotsP (m : Int).toNat (n : Int).toNat).Nodup
  rw [Int.toNat_natCast, Int.toNat_natCast]
  exact List.Pairwise.imp (fun {p q} lt e => by rw [e] at lt; omega) (List.pairwise_map.mp up)
theorem ends_knots {a b : Int} (sh : Sheet a b) {x : Int} (h : 0 ≤ x ∧ x < a * b) : ((endsB b x).1 ∈ knotsZ a b ∧ (endsB b x).2 ∈ knotsZ a b) ∧ x ∈ atZ a b (endsB b x).1.1 (endsB b x).1.2 ∧ x ∈ atZ a b (endsB b x).2.1 (endsB b x).2.2 := by
  obtain ⟨m, n, rfl, rfl, k⟩ := chk_of sh
  unfold chk at k
  simp only [Bool.and_eq_true] at k
  obtain ⟨i, rfl⟩ := Int.eq_ofNat_of_zero_le h.1
  have lt : i < m * n := by
    have := h.2
    omega
  have c := List.all_eq_true.mp k.1.1.2 i (List.mem_range.mpr lt)
  unfold chkBar at c
  simp only [Bool.and_eq_true, decide_eq_true_eq] at c
  unfold knotsZ
  rw [Int.toNat_natCast, Int.toNat_natCast]
  exact ⟨c.1.1.2, c.2⟩
def zsOf : PyData → List Int
  | .tuple l => l.map intOf
  | _ => []
theorem zsOf_tear (c : List Int) : zsOf (tearD c) = c := by
  show (c.map PyData.int).map intOf = c
  rw [List.map_map]
  exact List.map_id _
theorem fr_sumK {X : Cx} {K : PySem.W.Frag} (h : X.K = K) (hc : X.calm = true) : CallR X (.builtin "sum") (rSum K) := h ▸ cr_sum hc
theorem ints_only {K : PySem.W.Frag} {H : Hp} : ∀ {zs : List Int} {xs : List V}, DaAll K H xs (zs.map .int) → xs = zs.map V.int
  | [], _, .nil => rfl
  | _ :: _, _, .cons h r => by rw [dp_intI h, ints_only r]; rfl
theorem cd_sum {K : PySem.W.Frag} {ns : List Int} : CallD K (rSum K) [.list (ns.map .int)] (.int ns.sum) := fun H1 xs hx Q q => by
  cases hx with
  | cons h t =>
    cases t
    obtain ⟨a, ys, rfl, hl, ha⟩ := dp_lstI h
    rw [ints_only ha] at hl
    exact ⟨a, ns, rfl, hl, q _ H1 (Ex.refl H1) (.int _)⟩
end Mm

set_option Elab.async false
set_option linter.all false
set_option maxRecDepth 100000
set_option maxHeartbeats 4000000
namespace Mm
open PySem PySem.Spec PyProof.Rows L2 Evl

/-! ### what goes over data and makes new pairs -/
def WalksN (K : PySem.W.Frag) (J : It) (H : Hp) (ds : List PyData) : Prop := ∀ H1, Ex H H1 → ∀ i,
  (i < ds.length → J.go i H1 ∧ ∀ x H2, J.yld i H1 x H2 → Ex H1 H2 ∧ ∃ d, ds[i]? = some d ∧ Da K H2 x d) ∧ (i = ds.length → J.stop i H1)
def ItN (K : PySem.W.Frag) (wi : TI) (σ : L2.St) (H : Hp) (ds : List PyData) : Prop := ∀ H1, Ex H H1 → ∀ R : It → Hp → Prop, (∀ J H2, Ex H1 H2 → WalksN K J H2 ds → R J H2) → wi σ H1 R
section
variable {K : PySem.W.Frag} {H H' : Hp} {σ : L2.St} {ta tb tc te tl : TE} {tt tu : TT} {tr : TA} {a b c d : PyData} {ds as bs : List PyData} {D : Ends} {u z : TS} {g g1 : TG} {p q : Bool} {wi wi1 : TI}
theorem Got.grow {H1 H2 H3 : Hp} {Dl : Addr} {es : List PyData} (h : Got K H1 Dl es H2) (e : Ex H2 H3) : Got K H1 Dl es H3 := by
  obtain ⟨b1, b2, ⟨acc, b3, b4⟩, b5⟩ := h
  exact ⟨b1, b2.trans e, ⟨acc, e _ _ b3, dpsm e b4⟩, b5⟩
theorem en_lcN {vs : List Nat} (f : PyData → Bool) (m : PyData → PyData) (h : ItN K wi σ H ds) (hz : ds.length ≤ 50000)
    (ht : ∀ e ∈ ds, TurnD K g tt te vs σ H e (f e) (m e)) (hf : ∀ e ∈ ds, f e = true → flat (m e) = true) : EvN K (tLc wi g tt te vs) σ H (picked f m ds) := fun H0 e0 Q q =>
  h H0 e0 _ fun J H1 e1 wk Dl hD => by
    refine ⟨fun i k H' => k = ds.length - i ∧ i ≤ ds.length ∧ Got K H1 Dl (picked f m (ds.take i)) H', ⟨ds.length, rfl, Nat.zero_le _, got_new hD⟩, fun i k H' hw => ?_⟩
    obtain ⟨rfl, le, k⟩ := hw
    obtain ⟨w1, w2⟩ := wk H' k.ex i
    by_cases lt : i < ds.length
    · obtain ⟨go, y⟩ := w1 lt
      refine Or.inr ⟨go, fun H2 => Got K H1 Dl (picked f m (ds.take (i + 1))) H2, fun H2 k2 => ⟨ds.length - (i + 1), by omega, rfl, lt, k2⟩, fun x H2 hy => ?_⟩
      obtain ⟨e2, e, he, dx⟩ := y x H2 hy
      have hm := List.mem_of_getElem? he
      have pl := picked_le f m ds i
      refine lc_turn (ht e hm) (e0.trans e1) dx (k.grow e2) (hf e hm) (by omega) fun H3 k3 => ?_
      have tk : picked f m (ds.take (i + 1)) = if f e = true then picked f m (ds.take i) ++ [m e] else picked f m (ds.take i) := picked_take f m he
      rw [tk]
      exact k3
    · have ie : i = ds.length := by omega
      subst ie
      refine Or.inl ⟨w2 rfl, ?_⟩
      rw [List.take_length] at k
      obtain ⟨b1, b2, ⟨acc, b3, b4⟩, b5⟩ := k
      exact q Dl acc H' (fresh_back e1 b1) (e1.trans b2) b3 b4
/-- pairs of the items of two -/
def zipD (as bs : List PyData) : List PyData := List.zipWith (fun x y => .tuple [x, y]) as bs
theorem it_zipL (h : EvDs K tr σ H [.list as, .list bs]) : ItN K (RZ.iZipA K tr) σ H (zipD as bs) := fun H1 e1 R r => h H1 e1 _ fun vs H2 e2 dv => by
  cases dv with
  | cons d1 dv =>
    cases dv with
    | cons d2 dv =>
      cases dv
      obtain ⟨p1, xs, rfl, hx, hA⟩ := dp_lstI d1
      obtain ⟨p2, ys, rfl, hy, hB⟩ := dp_lstI d2
      have l1 := dps_len hA
      have l2 := dps_len hB
      refine ⟨p1, p2, xs, ys, rfl, Or.inl ⟨hx, hy, r _ H2 e2 fun H3 e3 i => ?_⟩⟩
      have hx3 := ex_l e3 hx
      have hy3 := ex_l e3 hy
      unfold zipD
      rw [List.length_zipWith]
      refine ⟨fun lt => ⟨⟨xs, ys, xs[i]'(by omega), ys[i]'(by omega), hx3, hy3, List.getElem?_eq_getElem _, List.getElem?_eq_getElem _⟩, ?_⟩, fun ei => ⟨xs, ys, hx3, hy3, by omega⟩⟩
      rintro _ _ ⟨T, x, y, rfl, nT, rfl, ex, ey⟩
      obtain ⟨a, ea, da⟩ := dps_got (dpsm e3 hA) (ex xs hx3)
      obtain ⟨b, eb, db⟩ := dps_got (dpsm e3 hB) (ey ys hy3)
      have n := Ex.new (o := .tup [x, y]) nT
      exact ⟨n, _, by rw [List.getElem?_zipWith, ea, eb], .tup (SqT.of upd_same) (.cons (dpm n da) (.cons (dpm n db) .nil))⟩
theorem it_zipT (h : EvDs K tr σ H [.tuple as, .tuple bs]) : ItN K (RZ.iZipA K tr) σ H (zipD as bs) := fun H1 e1 R r => h H1 e1 _ fun vs H2 e2 dv => by
  cases dv with
  | cons d1 dv =>
    cases dv with
    | cons d2 dv =>
      cases dv
      obtain ⟨p1, xs, rfl, hx, hA⟩ := dp_tupI d1
      obtain ⟨p2, ys, rfl, hy, hB⟩ := dp_tupI d2
      have l1 := dps_len hA
      have l2 := dps_len hB
      refine ⟨p1, p2, xs, ys, rfl, Or.inr ⟨hx, hy, r _ H2 e2 fun H3 e3 i => ?_⟩⟩
      have hx3 := ex_t e3 hx
      have hy3 := ex_t e3 hy
      unfold zipD
      rw [List.length_zipWith]
      refine ⟨fun lt => ⟨⟨xs, ys, xs[i]'(by omega), ys[i]'(by omega), hx3, hy3, List.getElem?_eq_getElem _, List.getElem?_eq_getElem _⟩, ?_⟩, fun ei => ⟨xs, ys, hx3, hy3, by omega⟩⟩
      rintro _ _ ⟨T, x, y, rfl, nT, rfl, ex, ey⟩
      obtain ⟨a, ea, da⟩ := dps_got (dpsm e3 hA) (ex xs hx3)
      obtain ⟨b, eb, db⟩ := dps_got (dpsm e3 hB) (ey ys hy3)
      have n := Ex.new (o := .tup [x, y]) nT
      exact ⟨n, _, by rw [List.getElem?_zipWith, ea, eb], .tup (SqT.of upd_same) (.cons (dpm n da) (.cons (dpm n db) .nil))⟩
theorem pi_zipAK {X : Cx} {K : PySem.W.Frag} {e e2 : Expr} {ta : TA} {p pos tp : Pos} {els : List Expr} {kk : Nat} (hK : X.K = K) (hg : Gl X "zip") (hm : X.mg "zip" = none) (ha : PA X [e, e2] ta)
    (hs : starEach [e, e2] X.env = (false, eval e X.env) :: starEach [e2] X.env := by rfl) (hpl : (backTo pos (starEach [e2] X.env)).any (·.1) = false := by rfl) :
    PI X (.Tuple els kk tp) (.Call (.Name "zip" p) [e, e2] [] pos) (RZ.iZipA K ta) := hK ▸ RZ.pi_zipA hg hm ha hs hpl
end
end Mm

set_option Elab.async false
set_option linter.all false
set_option maxRecDepth 100000
set_option maxHeartbeats 4000000
namespace Mm
open PySem PySem.Spec PyProof.Rows L2 Evl HT

/-! ### xs[::k], k drawn, 1 or -1 -/
def tStepL (K : PySem.W.Frag) (te ts : TE) : TE := fun σ H Q => te σ H fun x H1 => tPart ts σ H1 fun o H2 => ∃ a xs k, x = .ref a ∧ o = some k ∧ SqL K H2 a xs ∧ ((k = 1 ∧ ∀ p, H2 p = none → Q (.ref p) (upd H2 p (.lst xs))) ∨ (k = -1 ∧ ∀ p, H2 p = none → Q (.ref p) (upd H2 p (.lst xs.reverse))))
theorem pe_stepL {X : Cx} {e es : Expr} {te ts : TE} {p3 pos : Pos} (he : PE X e te) (hs : PE X es ts) : PE X (.Subscript e (.Slice none none (some es) p3) pos) (tStepL X.K te ts) := by
  refine ⟨fun pins s σ H Q I h => ?_⟩
  refine Subscript_ (thn (he.run pins s σ H _ I h) fun v s1 ⟨x, H1, I1, r1, q1⟩ => ?_)
  refine wpAny_Slice (thn (po_none.run pins s1 σ H1 (fun o H2 => o = none ∧ H2 = H1) I1 ⟨rfl, rfl⟩) fun vl s2 ⟨l, H2, I2, pl, el, e2⟩ => ?_)
  subst el e2
  refine thn (po_none.run pins s2 σ H2 (fun o H3 => o = none ∧ H3 = H2) I2 ⟨rfl, rfl⟩) fun vu s3 ⟨u, H3, I3, pu, eu, e3⟩ => ?_
  subst eu e3
  refine thn ((po_some hs).run pins s3 σ H3 _ I3 q1) fun vs s4 ⟨o, H4, I4, ps, a, xs, k, ex, eo, hx, q⟩ => ?_
  subst eo ex
  cases r1
  have I5 : Inv X pins σ H4 { s4 with heap := s4.heap.push { cls := .type "slice", data := .fields #[vl, vu, vs] } } := I4.kept (t' := s4.toks) fun b ob q => Heap.get?_push_of_some _ q
  obtain ⟨its, r, ht, hz⟩ := I5.list hx
  have hlen := r.length
  show wpAny (model X.prog X.w) X.A (subscriptTail e (.Slice none none (some es) p3) (.ref a) (.ref s4.heap.objs.size)) (EP X pins σ Q) X.xe { s4 with heap := s4.heap.push { cls := .type "slice", data := .fields #[vl, vu, vs] } }
  refine tail_any (ops := [.ref a, .ref s4.heap.objs.size]) ht.isList.typeIs (PySem.slot_list_getitem.lookup) ?_ (by with_unfolding_all rfl)
  rcases q with ⟨rfl, q⟩ | ⟨rfl, q⟩
  · refine wpAny_getItem_list_slice ht.isList (Heap.IsSliceOf.new _ vl vu vs) pl pu ps (by decide) ?_ (by rw [List.size_toArray]; omega)
    have pick : slicePick its.toArray none none (some 1) = its.toArray := by
      have e := slicePick_cut its none none
      have e2 : slicePick its.toArray none none (some 1) = slicePick its.toArray none none none := rfl
      rw [e2, e, HT.sIx_none, HT.sIx_none, List.drop_zero, Nat.sub_zero, List.take_length]
    rw [pick]
    refine ⟨.ref _, _, I5.laid (t' := s4.toks) (o := .lst xs) (fun b ob q => Heap.get?_push_of_some _ q) (Nat.le_refl _) ?_, rfl, q _ (I5.hok.fresh (Nat.le_refl _))⟩
    exact ⟨hz, _, 0, r, Heap.get?_push_size _ rfl⟩
  · refine wpAny_getItem_list_slice ht.isList (Heap.IsSliceOf.new _ vl vu vs) pl pu ps (by decide) ?_ (by rw [List.size_toArray]; omega)
    rw [PySem.W.krv_pick]
    refine ⟨.ref _, _, I5.laid (t' := s4.toks) (o := .lst xs.reverse) (fun b ob q => Heap.get?_push_of_some _ q) (Nat.le_refl _) ?_, rfl, q _ (I5.hok.fresh (Nat.le_refl _))⟩
    exact ⟨by rw [List.length_reverse]; exact hz, _, 0, r.reverse, Heap.get?_push_size _ rfl⟩
theorem pe_stepLK {X : Cx} {K : PySem.W.Frag} {e es : Expr} {te ts : TE} {p3 pos : Pos} (hK : X.K = K) (he : PE X e te) (hs : PE X es ts) : PE X (.Subscript e (.Slice none none (some es) p3) pos) (tStepL K te ts) := hK ▸ pe_stepL he hs
end Mm

set_option Elab.async false
set_option linter.all false
set_option maxRecDepth 100000
set_option maxHeartbeats 4000000
namespace Mm
open PySem PySem.Spec PyProof.Rows L2 Evl

/-! ### twines walked -/
def Join (b z : Int) (p q : Pt) : Prop := ((endsB b z).1 = p ∧ (endsB b z).2 = q) ∨ ((endsB b z).1 = q ∧ (endsB b z).2 = p)
theorem bar_facts {a b : Int} (sh : Sheet a b) {z : Int} (h : 0 ≤ z ∧ z < a * b) : (endsB b z).2.1 = (endsB b z).1.1 + 1 ∧ iabs ((endsB b z).1.1 - (endsB b z).2.1) = 1 ∧ iabs ((endsB b z).1.2 - (endsB b z).2.2) = 1 ∧ imin (endsB b z).1.1 (endsB b z).2.1 * b + imin (endsB b z).1.2 (endsB b z).2.2 = z := by
  obtain ⟨m, n, rfl, rfl, k⟩ := chk_of sh
  unfold chk at k
  simp only [Bool.and_eq_true] at k
  obtain ⟨i, rfl⟩ := Int.eq_ofNat_of_zero_le h.1
  have lt : i < m * n := by
    have := h.2
    omega
  have c := List.all_eq_true.mp k.1.1.2 i (List.mem_range.mpr lt)
  unfold chkBar at c
  simp only [Bool.and_eq_true, decide_eq_true_eq] at c
  exact ⟨c.1.1.1, c.1.2.1.1, c.1.2.1.2, c.1.2.2⟩
theorem join_ne {a b : Int} (sh : Sheet a b) {z : Int} (h : 0 ≤ z ∧ z < a * b) {p q : Pt} (j : Join b z p q) : p ≠ q := by
  have f := (bar_facts sh h).1
  rintro rfl
  rcases j with ⟨j1, j2⟩ | ⟨j1, j2⟩ <;> (rw [j1, j2] at f; omega)
theorem betw_join {a b : Int} (sh : Sheet a b) {z : Int} (h : 0 ≤ z ∧ z < a * b) {p q : Pt} (j : Join b z p q) : betw b p.1 p.2 q.1 q.2 = .int z := by
  obtain ⟨_, f1, f2, f3⟩ := bar_facts sh h
  unfold betw
  rcases j with ⟨rfl, rfl⟩ | ⟨rfl, rfl⟩
  · rw [if_neg (by simp [f1, f2]), f3]
  · rw [iabs_sub, f1, iabs_sub, f2, imin_comm, imin_comm (endsB b z).2.2, f3]
    simp
theorem atI_two {α : Type} (l : List α) (x y : α) : atI (l ++ [x, y]) (-2) = some x := by
  unfold atI
  have e : ixN (l ++ [x, y]).length (-2) = some l.length := by
    unfold ixN
    rw [if_neg (by omega)]
    simp only [List.length_append, List.length_cons, List.length_nil]
    rw [if_pos (by omega)]
    congr 1
    omega
  rw [e]
  show (l ++ [x, y])[l.length]? = some x
  rw [List.getElem?_append_right (Nat.le_refl _), Nat.sub_self]
  rfl
theorem rem_ex {x : Int} : ∀ {ls : List Int}, ls.Nodup → x ∈ ls → ∃ j, ls[j]? = some x ∧ (∀ m : Nat, m < j → ls[m]? ≠ some x) ∧ (ls.eraseIdx j).length + 1 = ls.length ∧ (ls.eraseIdx j).Nodup ∧ ∀ y, y ∈ ls.eraseIdx j ↔ y ∈ ls ∧ y ≠ x
  | [], _, h => by cases h
  | y :: ls, nd, h => by
    obtain ⟨n1, n2⟩ := List.nodup_cons.mp nd
    by_cases e : y = x
    · subst e
      refine ⟨0, rfl, fun m hm => by omega, by simp, n2, fun z => ?_⟩
      rw [List.eraseIdx_cons_zero, List.mem_cons]
      constructor
      · intro hz
        exact ⟨Or.inr hz, fun e => n1 (e ▸ hz)⟩
      · rintro ⟨hz | hz, ne⟩
        · exact absurd hz ne
        · exact hz
    · have hx : x ∈ ls := by
        rcases List.mem_cons.mp h with z | z
        · exact absurd z.symm e
        · exact z
      obtain ⟨j, h1, h2, h3, h4, h5⟩ := rem_ex n2 hx
      refine ⟨j + 1, h1, fun m hm => ?_, by simp; omega, ?_, fun z => ?_⟩
      · cases m with
        | zero => exact fun z => e (Option.some.inj z)
        | succ m => exact h2 m (by omega)
      · rw [List.eraseIdx_cons_succ]
        exact List.nodup_cons.mpr ⟨fun m => n1 ((h5 y).mp m).1, h4⟩
      · rw [List.eraseIdx_cons_succ, List.mem_cons, List.mem_cons, h5]
        constructor
        · rintro (z | ⟨z1, z2⟩)
          · exact ⟨Or.inl z, z ▸ e⟩
          · exact ⟨Or.inr z1, z2⟩
        · rintro ⟨z | z, ne⟩
          · exact Or.inl z
          · exact Or.inr ⟨z, ne⟩
def twD (t : List Pt) : PyData := .tuple (t.map pk)
/-- the lists of a walk stand apart from all else -/
structure Apart (H : Hp) (L : Addr) (l : Addr) : Prop where
  own : ∀ u, H l = some u → Own u
  ne : l ≠ L
/-- what is left, what is found -/
structure WO (K : PySem.W.Frag) (H H' : Hp) (D L : Addr) (ns : List Int) (B : Nat) (ll lf : Addr) (ls : List Int) (fs : List V) (tws : List (List Pt)) : Prop where
  ey : Ey H H'
  dk : Dk H' D L ns B
  l : H' ll = some (.lst (ls.map V.int))
  f : H' lf = some (.lst fs)
  df : DaAll K H' fs (tws.map twD)
  al : Apart H L ll
  af : Apart H L lf
  ne : ll ≠ lf
theorem WO.go {K : PySem.W.Frag} {H H' H2 : Hp} {D L : Addr} {ns : List Int} {B B' : Nat} {ll lf : Addr} {ls : List Int} {fs : List V} {tws : List (List Pt)} (w : WO K H H' D L ns B ll lf ls fs tws) (e : Ey H' H2) (d : Dk H2 D L ns B') : WO K H H2 D L ns B' ll lf ls fs tws :=
  ⟨w.ey.trans e, d, e _ _ w.l (fun z => z), e _ _ w.f (fun z => z), dpsy e w.df, w.al, w.af, w.ne⟩
theorem WO.ex {K : PySem.W.Frag} {H H' H2 : Hp} {D L : Addr} {ns : List Int} {B : Nat} {ll lf : Addr} {ls : List Int} {fs : List V} {tws : List (List Pt)} (w : WO K H H' D L ns B ll lf ls fs tws) (e : Ex H' H2) : WO K H H2 D L ns B ll lf ls fs tws := w.go (Ey.of e) (dk_ex e w.dk)
theorem flats_tws (tws : List (List Pt)) : flats (tws.map twD) = true := flats_all fun d hd => by
  obtain ⟨t, _, rfl⟩ := List.mem_map.mp hd
  show flats (t.map pk) = true
  exact flats_all fun d hd => by
    obtain ⟨p, _, rfl⟩ := List.mem_map.mp hd
    exact flat_knd
/-- a list of one's own is changed -/
theorem WO.put {K : PySem.W.Frag} {H H' : Hp} {D L : Addr} {ns : List Int} {B : Nat} {ll lf l : Addr} {ls : List Int} {fs xs ys : List V} {tws : List (List Pt)} (w : WO K H H' D L ns B ll lf ls fs tws) (a : Apart H L l) (h : H' l = some (.lst xs)) (n1 : l ≠ ll) (n2 : l ≠ lf) : WO K H (upd H' l (.lst ys)) D L ns B ll lf ls fs tws :=
  ⟨ey_updN w.ey a.own, dk_upd w.dk h a.ne, by rw [upd_ne (Ne.symm n1)]; exact w.l, by rw [upd_ne (Ne.symm n2)]; exact w.f, dpst (Et.upd h) (flats_tws tws) w.df, w.al, w.af, w.ne⟩
theorem WO.left {K : PySem.W.Frag} {H H' : Hp} {D L : Addr} {ns : List Int} {B : Nat} {ll lf : Addr} {ls ls' : List Int} {fs : List V} {tws : List (List Pt)} (w : WO K H H' D L ns B ll lf ls fs tws) : WO K H (upd H' ll (.lst (ls'.map V.int))) D L ns B ll lf ls' fs tws :=
  ⟨ey_updN w.ey w.al.own, dk_upd w.dk w.l w.al.ne, upd_same, by rw [upd_ne (Ne.symm w.ne)]; exact w.f, dpst (Et.upd w.l) (flats_tws tws) w.df, w.al, w.af, w.ne⟩
theorem WO.found {K : PySem.W.Frag} {H H' : Hp} {D L : Addr} {ns : List Int} {B : Nat} {ll lf : Addr} {ls : List Int} {fs : List V} {tws : List (List Pt)} {v : V} {t : List Pt} (w : WO K H H' D L ns B ll lf ls fs tws) (d : Da K H' v (twD t)) : WO K H (upd H' lf (.lst (fs ++ [v]))) D L ns B ll lf ls (fs ++ [v]) (tws ++ [t]) := by
  refine ⟨ey_updN w.ey w.af.own, dk_upd w.dk w.f w.af.ne, by rw [upd_ne w.ne]; exact w.l, upd_same, ?_, w.al, w.af, w.ne⟩
  refine dpst (Et.upd w.f) (flats_tws _) ?_
  rw [List.map_append]
  exact dps_app w.df (.cons d .nil)
/-- a twine on its way: s0, p, q its knots, the last bar one that is gone -/
structure WP (a b : Int) (zs : List Int) (n0 : Nat) (ls : List Int) (s0 : List Pt) (p q : Pt) : Prop where
  nd : ls.Nodup
  sub : ∀ z ∈ ls, z ∈ zs
  kn : ∀ r ∈ s0 ++ [p, q], r ∈ knotsZ a b
  cnt : ls.length + s0.length + 1 = n0
  last : ∃ z, z ∈ zs ∧ z ∉ ls ∧ Join b z p q
def Tw (a b : Int) (t : List Pt) : Prop := 2 ≤ t.length ∧ t.length ≤ 66 ∧ ∀ p ∈ t, p ∈ knotsZ a b
def spWalked (K : PySem.W.Frag) : Sp := fun vs H Q _ => ∃ (D L : Addr) (ns : List Int) (B : Nat) (x y : V) (a b : Int) (zs : List Int), vs = [.ref D, x, y] ∧ Dk H D L ns B ∧ B < 700000000 ∧ Sheet a b ∧ Da K H x (shd a b) ∧ Tear a b zs ∧ Da K H y (tearD zs) ∧
  ∀ (v : V) (tws : List (List Pt)) (H' : Hp), Ey H H' → Dk H' D L ns (B + 10000) → (∀ t ∈ tws, Tw a b t) → tws.length ≤ 64 → Da K H' v (.tuple (tws.map twD)) → Q v H'
def badP (a b : Int) (zs : List Int) (p q r : Pt) : Bool := (decide (p.1 + r.1 = 2 * q.1) && decide (p.2 + r.2 = 2 * q.2)) && decide (((lackN a b zs q : Nat) : Int) > 2)
def RBad : List PyData → PyData → Prop := fun ds d => ∃ a b zs p q r, Sheet a b ∧ Tear a b zs ∧ q ∈ knotsZ a b ∧ ds = [shd a b, tearD zs, pk p, pk q, pk r] ∧ d = .bool (badP a b zs p q r)
theorem qy_stepL {K : PySem.W.Frag} {H : Hp} {σ : L2.St} {te ts : TE} {ds : List PyData} {D : Ends} {z : TS} {j : Nat} {Pk : Hp → Hp → Prop} (h1 : EvN K te σ H ds) (h2 : ∀ H1, Ex H H1 → ∀ Q : VK, (∀ (k : Int) (H2 : Hp), Ey H1 H2 → Pk H1 H2 → (k = 1 ∨ k = -1) → Q (.int k) H2) → ts σ H1 Q)
    (n : ∀ (lt : Addr) (xs : List V) (H1 H2 H3 : Hp), Ex H H1 → Ey H1 H2 → Pk H1 H2 → Ex H2 H3 → H2 lt = none → H3 lt = some (.lst xs) → (DaAll K H3 xs ds ∨ DaAll K H3 xs ds.reverse) → z D (σ.set j (some (.ref lt))) H3) : tSeq (tAsg (tStepL K te ts) (gName j)) z D σ H :=
  h1 H (Ex.refl H) _ fun l1 xs H1 nl1 e1 hl hx => h2 H1 e1 _ fun k H2 ey pk hk => by
    have hl2 := ey _ _ hl (fun z => z)
    have hx2 := dpsy ey hx
    refine ⟨k, rfl, l1, xs, k, rfl, rfl, SqL.of hl2, ?_⟩
    rcases hk with rfl | rfl
    · exact Or.inl ⟨rfl, fun p np => n p xs H1 H2 _ e1 ey pk (Ex.new np) np upd_same (Or.inl (dpsm (Ex.new np) hx2))⟩
    · exact Or.inr ⟨rfl, fun p np => n p xs.reverse H1 H2 _ e1 ey pk (Ex.new np) np upd_same (Or.inr (dpsm (Ex.new np) (dps_rev hx2)))⟩
theorem tw_last (s0 : List Pt) (p q : Pt) : atI ((s0 ++ [p, q]).map pk) (-1) = some (pk q) := by
  rw [show (s0 ++ [p, q]).map pk = (s0.map pk ++ [pk p]) ++ [pk q] by simp]
  exact Mm.atI_last _ _
theorem tw_two (s0 : List Pt) (p q : Pt) : atI ((s0 ++ [p, q]).map pk) (-2) = some (pk p) := by
  rw [show (s0 ++ [p, q]).map pk = s0.map pk ++ [pk p, pk q] by simp]
  exact atI_two _ _ _
theorem tw_first (s0 : List Pt) (p q : Pt) : ∃ h0 h1 r, s0 ++ [p, q] = h0 :: h1 :: r ∧ (s0 = [] → h0 = p) := by
  cases s0 with
  | nil => exact ⟨p, q, [], rfl, fun _ => rfl⟩
  | cons x s =>
    cases s with
    | nil => exact ⟨x, p, [q], rfl, fun z => nomatch z⟩
    | cons y s => exact ⟨x, y, s ++ [p, q], rfl, fun z => nomatch z⟩
def farB (b z : Int) (r : Pt) : Pt := if (endsB b z).1 = r then (endsB b z).2 else (endsB b z).1
theorem far_join {b z : Int} {r : Pt} (h : (endsB b z).1 = r ∨ (endsB b z).2 = r) : Join b z r (farB b z r) := by
  unfold farB Join
  by_cases e : (endsB b z).1 = r
  · rw [if_pos e]
    exact Or.inl ⟨e, rfl⟩
  · rw [if_neg e]
    exact Or.inr ⟨rfl, h.resolve_left e⟩
theorem far_pick {a b : Int} (sh : Sheet a b) {z : Int} (hz : 0 ≤ z ∧ z < a * b) {r : Pt} (h : (endsB b z).1 = r ∨ (endsB b z).2 = r) :
    (picked (fun d => !PyData.eqv d (pk r)) (fun d => d) [pk (endsB b z).1, pk (endsB b z).2])[0]? = some (pk (farB b z r)) := by
  have ne := join_ne sh hz (Or.inl ⟨rfl, rfl⟩ : Join b z (endsB b z).1 (endsB b z).2)
  unfold picked farB
  rw [List.map_id', List.filter_cons, List.filter_cons, List.filter_nil, eqv_pk, eqv_pk]
  by_cases e : (endsB b z).1 = r
  · have e2 : (endsB b z).2 ≠ r := fun k => ne (e.trans k.symm)
    rw [if_pos e]
    simp [e, e2]
  · rw [if_neg e]
    simp [e]
theorem eqv_pks_nil (ps : List Pt) : PyData.eqv (.list (ps.map pk)) (.list []) = ps.isEmpty := by
  cases ps <;> simp [PyData.eqv, PyData.eqvAll]
theorem dps_front {K : PySem.W.Frag} {H : Hp} : ∀ {vs : List V} {v : V} {ds : List PyData} {d : PyData}, vs.length = ds.length → DaAll K H (vs ++ [v]) (ds ++ [d]) → DaAll K H vs ds
  | [], _, [], _, _, _ => .nil
  | [], _, _ :: _, _, h, _ => by simp at h
  | _ :: _, _, [], _, h, _ => by simp at h
  | u :: vs, v, e :: ds, d, h, k => by
    cases k with
    | cons k1 k2 => exact .cons k1 (dps_front (by simpa using h) k2)
end Mm

set_option Elab.async false
set_option linter.all false
set_option maxRecDepth 100000
set_option maxHeartbeats 4000000
namespace Mm
open PySem PySem.Spec PyProof.Rows L2 Evl
section
variable {K : PySem.W.Frag} {H H' : Hp} {σ : L2.St} {ta tb tc te tl : TE} {tt tu : TT} {tr : TA} {a b c d : PyData} {ds : List PyData} {D : Ends} {u z : TS} {g g1 : TG} {p q : Bool} {wi wi1 : TI}
theorem dps_drop : ∀ {ds : List PyData} {vs : List V} (n : Nat), DaAll K H vs ds → DaAll K H (vs.drop n) (ds.drop n)
  | _, _, 0, h => h
  | _, _, _ + 1, .nil => .nil
  | _, _, n + 1, .cons _ r => dps_drop n r
theorem dps_take : ∀ {ds : List PyData} {vs : List V} (n : Nat), DaAll K H vs ds → DaAll K H (vs.take n) (ds.take n)
  | _, _, 0, _ => .nil
  | _, _, _ + 1, .nil => .nil
  | _, _, n + 1, .cons h r => .cons h (dps_take n r)
def cutD (ds : List PyData) (lo hi : Option Int) : List PyData := (ds.drop (HT.sIx ds.length 0 lo)).take (HT.sIx ds.length ds.length hi - HT.sIx ds.length 0 lo)
theorem ed_slT {tl th : TO} {lo hi : Option Int} (h : EvD K te σ H (.tuple ds)) (hl : ∀ H1, Ex H H1 → ∀ Q : Option Int → Hp → Prop, (∀ H2, Ex H1 H2 → Q lo H2) → tl σ H1 Q) (hh : ∀ H1, Ex H H1 → ∀ Q : Option Int → Hp → Prop, (∀ H2, Ex H1 H2 → Q hi H2) → th σ H1 Q) :
    EvD K (tSl (rSlA K) te tl th) σ H (.tuple (cutD ds lo hi)) := fun H1 e Q q => h H1 e _ fun v H2 e2 dv => hl H2 (e.trans e2) _ fun H3 e3 => hh H3 ((e.trans e2).trans e3) _ fun H4 e4 => by
  obtain ⟨t, xs, rfl, hx, hA⟩ := dp_tupI dv
  have len := dps_len hA
  have hx4 := ex_t (e3.trans e4) hx
  have hA4 := dpsm (e3.trans e4) hA
  have cut : DaAll K H4 (cutV xs lo hi) (cutD ds lo hi) := by
    unfold cutV cutD
    rw [len]
    exact dps_take _ (dps_drop _ hA4)
  refine ⟨t, xs, rfl, hx4, fun z => ?_, fun _ p np => ?_⟩
  · rw [cut_whole z] at cut
    exact q _ H4 ((e2.trans e3).trans e4) (.tup hx4 cut)
  · exact q _ _ (((e2.trans e3).trans e4).trans (Ex.new np)) (.tup (SqT.of upd_same) (dpsm (Ex.new np) cut))
theorem cutD_tail (ds : List PyData) : cutD ds (some 1) none = ds.drop 1 := by
  unfold cutD
  rw [HT.sIx_none, show HT.sIx ds.length 0 (some 1) = min 1 ds.length from HT.sIx_nat _ _ 1, List.take_of_length_le (by rw [List.length_drop]; exact Nat.le_refl _)]
  cases ds with
  | nil => rfl
  | cons d ds => rw [Nat.min_eq_left (by simp)]
theorem cutD_two (ds : List PyData) : cutD ds none (some 2) = ds.take 2 := by
  unfold cutD
  rw [HT.sIx_none, show HT.sIx ds.length ds.length (some 2) = min 2 ds.length from HT.sIx_nat _ _ 2, List.drop_zero, Nat.sub_zero]
  exact List.take_eq_take_iff.mpr (by omega)
/-- a for over a tuple that has come -/
theorem itt_run {v : V} {H1 : Hp} (dv : Da K H1 v (.tuple ds)) (W : Nat → L2.St → Hp → Prop) (h0 : W 0 σ H1) (hl : ∀ i σ' H', W i σ' H' → Da K H' v (.tuple ds))
    (hs : ∀ i e x σ' H', ds[i]? = some e → W i σ' H' → Da K H' x e → g x σ' H' fun σ2 H2 => u { D with nx := W (i + 1), ct := W (i + 1), bk := D.nx } σ2 H2) (hd : ∀ σ' H', W ds.length σ' H' → D.nx σ' H') :
    ∃ a, v = .ref a ∧ (∃ xs, SqT K H1 a xs) ∧ ∃ W : Nat → Nat → L2.St → Hp → Prop, (∃ m, W 0 m σ H1) ∧ ∀ i m σ H, W i m σ H →
      ((Itt K a).stop i H ∧ D.nx σ H) ∨ ((Itt K a).go i H ∧ ∃ N : L2.St → Hp → Prop, (∀ σ' H', N σ' H' → ∃ m', m' < m ∧ W (i + 1) m' σ' H') ∧ ∀ x H', (Itt K a).yld i H x H' → g x σ H' fun σ2 H2 => u { D with nx := N, ct := N, bk := D.nx } σ2 H2) := by
  have dv0 := dv
  obtain ⟨a, xs, rfl, hx, hA⟩ := dp_tupI dv
  refine ⟨a, rfl, ⟨xs, hx⟩, fun i m σ' H' => m = ds.length - i ∧ i ≤ ds.length ∧ W i σ' H', ⟨ds.length, rfl, Nat.zero_le _, h0⟩, fun i m σ' H' hw => ?_⟩
  obtain ⟨rfl, le, w⟩ := hw
  obtain ⟨a', xs', e1, hx', hA'⟩ := dp_tupI (hl i σ' H' w)
  cases e1
  have len := dps_len hA'
  by_cases lt : i < ds.length
  · have lt' : i < xs'.length := by omega
    refine Or.inr ⟨⟨xs', xs'[i], hx', List.getElem?_eq_getElem lt'⟩, fun σ2 H2 => W (i + 1) σ2 H2, fun σ2 H2 w2 => ⟨ds.length - (i + 1), by omega, rfl, lt, w2⟩, fun x H2 y => ?_⟩
    obtain ⟨rfl, y⟩ := y
    obtain ⟨dd, e2, dx⟩ := dps_got hA' (y xs' hx')
    exact hs i dd x σ' _ e2 w dx
  · have : i = ds.length := by omega
    subst this
    exact Or.inl ⟨⟨xs', hx', by omega⟩, hd σ' H' w⟩
end
/-- the bars along a twine -/
def along (b : Int) : List Pt → List PyData
  | p :: q :: r => betw b p.1 p.2 q.1 q.2 :: along b (q :: r)
  | _ => []
def betP (b : Int) : PyData → PyData
  | .tuple [x, y] => betw b (prI x).1 (prI x).2 (prI y).1 (prI y).2
  | _ => .none
theorem along_zip (b : Int) : ∀ t : List Pt, (zipD (t.map pk) ((t.map pk).drop 1)).map (betP b) = along b t
  | [] => rfl
  | [_] => rfl
  | p :: q :: r => by
    have ih := along_zip b (q :: r)
    show betw b p.1 p.2 q.1 q.2 :: (zipD ((q :: r).map pk) (((q :: r).map pk).drop 1)).map (betP b) = _
    rw [ih]
    rfl
theorem along_len (b : Int) : ∀ t : List Pt, (along b t).length = t.length - 1
  | [] => rfl
  | [_] => rfl
  | p :: q :: r => by
    have ih := along_len b (q :: r)
    show (along b (q :: r)).length + 1 = _
    rw [ih]
    simp
theorem along_get (b : Int) : ∀ (t : List Pt) (k : Nat) (p q : Pt), t[k]? = some p → t[k + 1]? = some q → (along b t)[k]? = some (betw b p.1 p.2 q.1 q.2)
  | [], _, _, _, h, _ => by simp at h
  | [_], k, _, _, _, h => by simp at h
  | x :: y :: r, 0, p, q, h, h2 => by
    cases h
    cases h2
    rfl
  | x :: y :: r, k + 1, p, q, h, h2 => along_get b (y :: r) k p q h h2
def RAlong : List PyData → PyData → Prop := fun ds d => ∃ a b t, Sheet a b ∧ t.length ≤ 40000 ∧ ds = [shd a b, twD t] ∧ d = .tuple (along b t)
theorem betw_small {b : Int} (hb : 0 ≤ b ∧ b ≤ 8) {p q : Pt} (hp : InP p) (hq : InP q) : betw b p.1 p.2 q.1 q.2 = .none ∨ ∃ z, betw b p.1 p.2 q.1 q.2 = .int z ∧ z.natAbs < 2 ^ 24 := by
  unfold betw
  split
  · exact Or.inl rfl
  · refine Or.inr ⟨_, rfl, ?_⟩
    have h1 : 0 ≤ imin p.1 q.1 ∧ imin p.1 q.1 < 64 := by
      have := hp.1
      have := hq.1
      unfold imin
      split <;> omega
    have h2 : 0 ≤ imin p.2 q.2 ∧ imin p.2 q.2 < 64 := by
      have := hp.2
      have := hq.2
      unfold imin
      split <;> omega
    have : imin p.1 q.1 * b ≤ 63 * 8 := by
      have := Int.mul_le_mul (show imin p.1 q.1 ≤ 63 by omega) hb.2 hb.1 (by decide)
      exact this
    have : 0 ≤ imin p.1 q.1 * b := Int.mul_nonneg h1.1 hb.1
    omega
theorem along_tame {b : Int} (hb : 0 ≤ b ∧ b ≤ 8) : ∀ t : List Pt, (∀ p ∈ t, InP p) → ∀ d ∈ along b t, Tame 0 24 d ∧ flat d = true
  | [], _, d, h => by cases h
  | [_], _, d, h => by cases h
  | p :: q :: r, ip, d, h => by
    rcases List.mem_cons.mp h with rfl | h
    · rcases betw_small hb (ip p (by simp)) (ip q (by simp)) with e | ⟨z, e, hz⟩
      · rw [e]
        exact ⟨tame_none, by simp [flat]⟩
      · rw [e]
        exact ⟨tame_int hz (Nat.le_refl _), by simp [flat]⟩
    · exact along_tame hb (q :: r) (fun x hx => ip x (List.mem_cons_of_mem _ hx)) d h
theorem zip_in : ∀ {as bs : List PyData} {e : PyData}, e ∈ zipD as bs → ∃ x y, x ∈ as ∧ y ∈ bs ∧ e = .tuple [x, y]
  | [], _, _, h => by simp [zipD] at h
  | _ :: _, [], _, h => by simp [zipD] at h
  | a :: as, b :: bs, e, h => by
    rcases List.mem_cons.mp (show e ∈ PyData.tuple [a, b] :: zipD as bs from h) with rfl | h
    · exact ⟨a, b, List.mem_cons_self, List.mem_cons_self, rfl⟩
    · obtain ⟨x, y, hx, hy, k⟩ := zip_in h
      exact ⟨x, y, List.mem_cons_of_mem _ hx, List.mem_cons_of_mem _ hy, k⟩
end Mm

set_option Elab.async false
set_option linter.all false
set_option maxRecDepth 100000
set_option maxHeartbeats 4000000
namespace Mm
open PySem PySem.Spec PyProof.Rows L2 Evl

/-! ### list(zip(a, b, c)) of three tuples -/
section
variable {prog : Program} {w : World} {A : Around} {E : Value → Shared → Prop} {s : Shared} {z TI TO i1 i2 i3 : Addr} {fp1 fp2 fp3 : List Addr} {n1 n2 n3 i : Nat} {P1 P2 P3 : Nat → Value → Prop} {St1 St2 St3 : Nat → Heap → Prop}
/-- a further triple: the one that is out stays out -/
theorem next3_held {T : Addr} {f : Bool} {oT : Obj} {Q : Value → Shared → Prop} (S : ZipSep3 z TI TO i1 i2 i3 fp1 fp2 fp3) (D1 : Draws prog w A i1 fp1 n1 P1 St1) (D2 : Draws prog w A i2 fp2 n2 P2 St2) (D3 : Draws prog w A i3 fp3 n3 P3 St3)
    (hz : IsZipHeld s.heap z TI TO T f) (hT : s.heap.get? T = some oT) (hTI : IsTupOf3 s.heap TI (.ref i1) (.ref i2) (.ref i3)) (t1 : St1 i s.heap) (t2 : St2 i s.heap) (t3 : St3 i s.heap) (l1 : i < n1) (l2 : i < n2) (l3 : i < n3)
    (q : ∀ x1 x2 x3 h' tk, P1 i x1 → P2 i x2 → P3 i x3 → IsZipHeld h' z TI TO T true → St1 (i + 1) h' → St2 (i + 1) h' → St3 (i + 1) h' → IsTupOf3 h' s.heap.objs.size x1 x2 x3 → h'.objs.size = s.heap.objs.size + 1 →
      (∀ c o, c ≠ z → c ≠ i1 → c ≠ i2 → c ≠ i3 → s.heap.get? c = some o → h'.get? c = some o) → Q (.ref s.heap.objs.size) { s with heap := h', toks := tk }) :
    wpAny (model prog w) A (Builtin.«zip.__next__» ⟨[.ref z], []⟩) (fun fin s' => ∃ v, fin = .done (.ret v) ∧ Q v s') E s := by
  obtain ⟨h0, gn, dr, tk, os⟩ := s
  show wpAny _ _ (field (.ref z) 2 >>= _) _ _ _
  refine wpAny_bind (wpAny_field hz rfl (x := .bool false) rfl ?_)
  show wpAny _ _ (field (.ref z) 3 >>= _) _ _ _
  refine wpAny_bind (wpAny_field hz rfl (x := .ref TI) rfl ?_)
  refine wpAny_bind (wpAny_seqItems hTI rfl ?_)
  show wpAny _ _ (Builtin.SmallTypes.ownedTupleIsFree (.ref z) >>= _) _ _ _
  refine wpAny_bind (wpAny_tupleHeld_zip hz hT fun g0 z0 b0 => ?_)
  replace b0 : Heap.SameBut z h0 g0 := b0
  simp only [Bool.false_eq_true, if_false]
  refine wpAny_bind ?_
  rw [← Array.forIn_toList]
  simp only [List.forIn_cons, List.forIn_nil]
  refine wpAny_bind (wpAny_bind (wpAny_holding ?_))
  show wpAny _ _ (Builtin.SmallTypes.nextOf (.ref i1) >>= _) _ _ ⟨g0, gn, dr, tk, os⟩
  refine wpAny_bind (D1.item i _ _ _ l1 (D1.over t1 b0 S.zf1) fun x1 g1 k1 p1 s1 b1 => wpAny_pure (wpAny_pure ?_))
  replace b1 : Heap.SameBut i1 g0 g1 := b1
  refine wpAny_bind (wpAny_bind (wpAny_holding ?_))
  show wpAny _ _ (Builtin.SmallTypes.nextOf (.ref i2) >>= _) _ _ ⟨g1, gn, dr, k1, os⟩
  refine wpAny_bind (D2.item i _ _ _ l2 (D2.over (D2.over t2 b0 S.zf2) b1 S.sep1_2) fun x2 g2 k2 p2 s2 b2 => wpAny_pure (wpAny_pure ?_))
  replace b2 : Heap.SameBut i2 g1 g2 := b2
  refine wpAny_bind (wpAny_bind (wpAny_holding ?_))
  show wpAny _ _ (Builtin.SmallTypes.nextOf (.ref i3) >>= _) _ _ ⟨g2, gn, dr, k2, os⟩
  refine wpAny_bind (D3.item i _ _ _ l3 (D3.over (D3.over (D3.over t3 b0 S.zf3) b1 S.sep1_3) b2 S.sep2_3) fun x3 g3 k3 p3 s3 b3 => wpAny_pure (wpAny_pure (wpAny_pure ?_)))
  replace b3 : Heap.SameBut i3 g2 g3 := b3
  show wpAny _ _ (newTuple [x1, x2, x3] >>= _) _ _ _
  refine wpAny_bind (wpAny_newTuple ?_)
  have sz : g3.objs.size = h0.objs.size := by rw [b3.1, b2.1, b1.1, b0.1]
  have zz : IsZipHeld g3 z TI TO T true := b3.extBut _ _ S.zi3 (b2.extBut _ _ S.zi2 (b1.extBut _ _ S.zi1 z0))
  have kk : ∀ c o, c ≠ z → c ≠ i1 → c ≠ i2 → c ≠ i3 → h0.get? c = some o → g3.get? c = some o := fun c o c0 c1 c2 c3 e => b3.extBut _ _ c3 (b2.extBut _ _ c2 (b1.extBut _ _ c1 (b0.extBut _ _ c0 e)))
  have u1 : St1 (i + 1) g3 := D1.over (D1.over s1 b2 S.sep2_1) b3 S.sep3_1
  have u2 : St2 (i + 1) g3 := D2.over s2 b3 S.sep3_2
  refine wpAny_pure ⟨_, rfl, ?_⟩
  show Q (.ref g3.objs.size) _
  have hp : IsTupOf3 (g3.push { cls := .type "tuple", data := .seq #[x1, x2, x3] }) g3.objs.size x1 x2 x3 := Heap.get?_push_size _ rfl
  have hs : (g3.push { cls := .type "tuple", data := .seq #[x1, x2, x3] }).objs.size = g3.objs.size + 1 := Heap.size_push ..
  rw [sz] at hp hs ⊢
  exact q x1 x2 x3 _ k3 p1 p2 p3 (Heap.get?_push_of_some _ zz) (D1.frame _ _ _ u1 fun b _ o e => Heap.get?_push_of_some _ e) (D2.frame _ _ _ u2 fun b _ o e => Heap.get?_push_of_some _ e) (D3.frame _ _ _ s3 fun b _ o e => Heap.get?_push_of_some _ e) hp hs
    fun c o c0 c1 c2 c3 e => Heap.get?_push_of_some _ (kk c o c0 c1 c2 c3 e)
/-- the first of the three has come to its end -/
theorem end3_held {T : Addr} {f : Bool} {oT : Obj} {Q : Fin → Shared → Prop} (S : ZipSep3 z TI TO i1 i2 i3 fp1 fp2 fp3) (D1 : Draws prog w A i1 fp1 n1 P1 St1)
    (hz : IsZipHeld s.heap z TI TO T f) (hT : s.heap.get? T = some oT) (hTI : IsTupOf3 s.heap TI (.ref i1) (.ref i2) (.ref i3)) (t1 : St1 n1 s.heap)
    (q : ∀ h' e, (∀ c o, c ≠ z → c ≠ i1 → s.heap.get? c = some o → h'.get? c = some o) → (∃ o, h'.get? e = some o ∧ o.cls = .type "StopIteration") → E (.ref e) { s with heap := h' }) :
    wpAny (model prog w) A (Builtin.«zip.__next__» ⟨[.ref z], []⟩) Q E s := by
  obtain ⟨h0, gn, dr, tk, os⟩ := s
  show wpAny _ _ (field (.ref z) 2 >>= _) _ _ _
  refine wpAny_bind (wpAny_field hz rfl (x := .bool false) rfl ?_)
  show wpAny _ _ (field (.ref z) 3 >>= _) _ _ _
  refine wpAny_bind (wpAny_field hz rfl (x := .ref TI) rfl ?_)
  refine wpAny_bind (wpAny_seqItems hTI rfl ?_)
  show wpAny _ _ (Builtin.SmallTypes.ownedTupleIsFree (.ref z) >>= _) _ _ _
  refine wpAny_bind (wpAny_tupleHeld_zip hz hT fun g0 z0 b0 => ?_)
  replace b0 : Heap.SameBut z h0 g0 := b0
  simp only [Bool.false_eq_true, if_false]
  refine wpAny_bind ?_
  rw [← Array.forIn_toList]
  simp only [List.forIn_cons, List.forIn_nil]
  refine wpAny_bind (wpAny_bind (wpAny_holding ?_))
  show wpAny _ _ (Builtin.SmallTypes.nextOf (.ref i1) >>= _) _ _ ⟨g0, gn, dr, tk, os⟩
  refine wpAny_bind (D1.done ⟨g0, gn, dr, tk, os⟩ _ _ (D1.over t1 b0 S.zf1) fun g1 e b1 he => ?_)
  replace b1 : Heap.ExtBut i1 g0 g1 := b1
  exact q g1 e (fun c o c0 c1 x => b1 _ _ c1 (b0.extBut _ _ c0 x)) he
theorem pyNext3_held {T : Addr} {f : Bool} {oT : Obj} {Q : Option Value → Shared → Prop} (S : ZipSep3 z TI TO i1 i2 i3 fp1 fp2 fp3) (D1 : Draws prog w A.in1 i1 fp1 n1 P1 St1) (D2 : Draws prog w A.in1 i2 fp2 n2 P2 St2) (D3 : Draws prog w A.in1 i3 fp3 n3 P3 St3)
    (hz : IsZipHeld s.heap z TI TO T f) (hT : s.heap.get? T = some oT) (hTI : IsTupOf3 s.heap TI (.ref i1) (.ref i2) (.ref i3)) (t1 : St1 i s.heap) (t2 : St2 i s.heap) (t3 : St3 i s.heap) (l1 : i < n1) (l2 : i < n2) (l3 : i < n3)
    (q : ∀ x1 x2 x3 h' tk, P1 i x1 → P2 i x2 → P3 i x3 → IsZipHeld h' z TI TO T true → St1 (i + 1) h' → St2 (i + 1) h' → St3 (i + 1) h' → IsTupOf3 h' s.heap.objs.size x1 x2 x3 → h'.objs.size = s.heap.objs.size + 1 →
      (∀ c o, c ≠ z → c ≠ i1 → c ≠ i2 → c ≠ i3 → s.heap.get? c = some o → h'.get? c = some o) → Q (some (.ref s.heap.objs.size)) { s with heap := h', toks := tk }) : wpAny (model prog w) A (pyNext (.ref z)) Q E s := by
  have ty : s.TypeIs (.ref z) "zip" := ⟨_, hz, rfl⟩
  unfold pyNext
  exact wpAny_bind (wpAny_attempt (wpAny_callSpecial?_slot (name := Str.ofString "__next__") ty F.slot_zip_next (wpAny_call_entry F.slot_zip_next ty F.entry_zip_next
    (next3_held S D1 D2 D3 hz hT hTI t1 t2 t3 l1 l2 l3 fun x1 x2 x3 h' tk a b c d e f g h i j => wpAny_pure (q x1 x2 x3 h' tk a b c d e f g h i j)) (F.args_zip_next_1 _))))
theorem pyEnd3_held {T : Addr} {f : Bool} {oT : Obj} {Q : Option Value → Shared → Prop} (S : ZipSep3 z TI TO i1 i2 i3 fp1 fp2 fp3) (D1 : Draws prog w A.in1 i1 fp1 n1 P1 St1)
    (hz : IsZipHeld s.heap z TI TO T f) (hT : s.heap.get? T = some oT) (hTI : IsTupOf3 s.heap TI (.ref i1) (.ref i2) (.ref i3)) (t1 : St1 n1 s.heap)
    (q : ∀ h', (∀ c o, c ≠ z → c ≠ i1 → s.heap.get? c = some o → h'.get? c = some o) → Q none { s with heap := h' }) : wpAny (model prog w) A (pyNext (.ref z)) Q E s := by
  have ty : s.TypeIs (.ref z) "zip" := ⟨_, hz, rfl⟩
  unfold pyNext
  refine wpAny_bind (wpAny_attempt (wpAny_callSpecial?_slot (name := Str.ofString "__next__") ty F.slot_zip_next (wpAny_call_entry F.slot_zip_next ty F.entry_zip_next (end3_held S D1 hz hT hTI t1 fun h' e hk he => ?_) (F.args_zip_next_1 _))))
  obtain ⟨o, ho, hc⟩ := he
  exact wpAny_bind (wpAny_isInstance (T := "StopIteration") (b := true) ⟨o, ho, hc⟩ isSubtype_stop (wpAny_pure (q _ hk)))
/-- the zip at turn i: nothing out yet, or a triple that is kept elsewhere -/
def Zst (z TI TO S i1 i2 i3 : Addr) (i : Nat) (h : Heap) : Prop :=
  (i = 0 ∧ IsZip h z TI TO .none ∧ ∃ a b c, IsTupOf3 h TO a b c) ∨ (∃ T f oT, IsZipHeld h z TI TO T f ∧ h.get? T = some oT ∧ T ≠ S ∧ T ≠ z ∧ T ≠ i1 ∧ T ≠ i2 ∧ T ≠ i3)
structure Tri (P1 P2 P3 : Nat → Value → Prop) (lo : Addr) (h : Heap) (as : List Addr) : Prop where
  rise : as.Pairwise (· < ·)
  above : ∀ a ∈ as, lo < a
  trip : ∀ (j : Nat) (a : Addr), as[j]? = some a → ∃ x y z, P1 j x ∧ P2 j y ∧ P3 j z ∧ IsTupOf3 h a x y z
theorem Tri.keep {lo : Addr} {h h' : Heap} {as : List Addr} (t : Tri P1 P2 P3 lo h as) (k : ∀ b o, lo < b → h.get? b = some o → h'.get? b = some o) : Tri P1 P2 P3 lo h' as :=
  ⟨t.rise, t.above, fun j a e => by
    obtain ⟨x, y, z, p1, p2, p3, tt⟩ := t.trip j a e
    exact ⟨x, y, z, p1, p2, p3, k _ _ (t.above a (List.mem_of_getElem? e)) tt⟩⟩
theorem Tri.low {lo : Addr} {h : Heap} {as : List Addr} (t : Tri P1 P2 P3 lo h as) {a : Addr} (ha : a ∈ as) : a < h.objs.size := by
  obtain ⟨j, hj, e⟩ := List.mem_iff_getElem.mp ha
  obtain ⟨x, y, z, _, _, _, tt⟩ := t.trip j a (by rw [List.getElem?_eq_getElem hj, e])
  exact Heap.lt_size tt
theorem Tri.snoc {lo : Addr} {h : Heap} {as : List Addr} {a : Addr} {x y z : Value} (t : Tri P1 P2 P3 lo h as) (ha : ∀ b ∈ as, b < a) (la : lo < a) (p1 : P1 as.length x) (p2 : P2 as.length y) (p3 : P3 as.length z) (e : IsTupOf3 h a x y z) : Tri P1 P2 P3 lo h (as ++ [a]) := by
  refine ⟨List.pairwise_append.mpr ⟨t.rise, by simp, fun b hb c hc => by rw [List.mem_singleton.mp hc]; exact ha b hb⟩, fun b hb => ?_, fun j b hb => ?_⟩
  · rcases List.mem_append.mp hb with hb | hb
    · exact t.above b hb
    · rw [List.mem_singleton.mp hb]
      exact la
  · by_cases lt : j < as.length
    · rw [List.getElem?_append_left lt] at hb
      exact t.trip j b hb
    · have jz : j = as.length := by
        have := (List.getElem?_eq_some_iff.mp hb).1
        simp at this
        omega
      subst jz
      simp at hb
      subst hb
      exact ⟨x, y, z, p1, p2, p3, e⟩
theorem zip3_loop {L : Addr} {h₁ : Heap} {gn : Array GenState} {dr : Drawn} {os : OsState} {R : Result → Shared → Prop} {res : Value} (hh : A.handled = none) (S : ZipSep3 z TI TO i1 i2 i3 fp1 fp2 fp3) (D1 : Draws prog w A.in1.in1 i1 fp1 n1 P1 St1) (D2 : Draws prog w A.in1.in1 i2 fp2 n2 P2 St2) (D3 : Draws prog w A.in1.in1 i3 fp3 n3 P3 St3)
    (le2 : n1 ≤ n2) (le3 : n1 ≤ n3) (small : n1 ≤ sizeLine) (zL : z < L) (tL : TO < L) (TL : TI < L) (a1 : i1 < L) (a2 : i2 < L) (a3 : i3 < L) (f1 : L ∉ fp1) (f2 : L ∉ fp2) (f3 : L ∉ fp3)
    (old : ∀ b o, h₁.get? b = some o → b ≠ z ∧ b ≠ TO ∧ b ≠ i1 ∧ b ≠ i2 ∧ b ≠ i3 ∧ b ≠ L)
    (q : ∀ h' tk acc c as, (∀ b o, h₁.get? b = some o → h'.get? b = some o) → h'.get? L = some { cls := .type "list", dict := none, data := .seq acc c, slots := #[] } → as.length = n1 → Tri P1 P2 P3 L h' as → acc.toList = as.map Value.ref → R (.ok (.ret res)) ⟨h', gn, dr, tk, os⟩) :
    ∀ (k i : Nat) (h : Heap) (tk : Nat) (acc : Array Value) (c : Nat) (as : List Addr), n1 - i = k → i ≤ n1 → Zst z TI TO L i1 i2 i3 i h → IsTupOf3 h TI (.ref i1) (.ref i2) (.ref i3) → St1 i h → St2 i h → St3 i h → (∀ b o, h₁.get? b = some o → h.get? b = some o) →
      h.get? L = some { cls := .type "list", dict := none, data := .seq acc c, slots := #[] } → as.length = i → Tri P1 P2 P3 L h as → acc.toList = as.map Value.ref →
      codeAny (model prog w) A (.builtin "list.extend.loop" ⟨[.ref L, .ref z, res], []⟩) R ⟨h, gn, dr, tk, os⟩
  | 0, i, h, tk, acc, c, as, hk, hi, zs, tI, t1, t2, t3, kp, hL, al, tr, ac => by
    have ei : i = n1 := by omega
    subst ei
    refine codeAny_builtin F.entry_extend_loop ?_
    rw [Around.under_plainId F.plain_extend_loop _]
    show wpAny _ A.in1 (pyNext (.ref z) >>= _) _ _ _
    have fin : ∀ h' tk', (∀ c o, c ≠ z → c ≠ TO → c ≠ i1 → c ≠ i2 → c ≠ i3 → h.get? c = some o → h'.get? c = some o) → R (.ok (.ret res)) ⟨h', gn, dr, tk', os⟩ := fun h' tk' kk =>
      q h' tk' acc c as (fun b o e => let n := old b o e; kk b o n.1 n.2.1 n.2.2.1 n.2.2.2.1 n.2.2.2.2.1 (kp b o e)) (kk L _ (Nat.ne_of_gt zL) (Nat.ne_of_gt tL) (Nat.ne_of_gt a1) (Nat.ne_of_gt a2) (Nat.ne_of_gt a3) hL) al
        (tr.keep fun b o lb e => kk b o (Nat.ne_of_gt (Nat.lt_trans zL lb)) (Nat.ne_of_gt (Nat.lt_trans tL lb)) (Nat.ne_of_gt (Nat.lt_trans a1 lb)) (Nat.ne_of_gt (Nat.lt_trans a2 lb)) (Nat.ne_of_gt (Nat.lt_trans a3 lb)) e) ac
    rcases zs with ⟨_, hz, a, b, d, hTO⟩ | ⟨T, f, oT, hz, hT, _⟩
    · exact wpAny_bind (wpAny_pyNext_zipD3_end S D1 D2 D3 hz tI hTO t1 t2 t3 (Nat.le_refl _) le2 le3 (Or.inl rfl) fun h' tk' kk => wpAny_pure (fin h' tk' kk))
    · exact wpAny_bind (pyEnd3_held S D1 hz hT tI t1 fun h' kk => wpAny_pure (fin h' tk fun c o c0 _ c1 _ _ e => kk c o c0 c1 e))
  | k + 1, i, h, tk, acc, c, as, hk, hi, zs, tI, t1, t2, t3, kp, hL, al, tr, ac => by
    have l1 : i < n1 := by omega
    have l2 : i < n2 := by omega
    have l3 : i < n3 := by omega
    refine codeAny_builtin F.entry_extend_loop ?_
    rw [Around.under_plainId F.plain_extend_loop _]
    show wpAny _ A.in1 (pyNext (.ref z) >>= _) _ _ _
    have asz : acc.size = i := by
      rw [← Array.length_toList, ac, List.length_map, al]
    have Ls : L < h.objs.size := Heap.lt_size hL
    have step : ∀ (x1 x2 x3 : Value) (h' : Heap) (tk' : Nat), P1 i x1 → P2 i x2 → P3 i x3 → (∀ g : Heap, (∀ b o, b ≠ L → h'.get? b = some o → g.get? b = some o) → Zst z TI TO L i1 i2 i3 (i + 1) g) → St1 (i + 1) h' → St2 (i + 1) h' → St3 (i + 1) h' → IsTupOf3 h' h.objs.size x1 x2 x3 →
        (∀ c o, c ≠ z → c ≠ TO → c ≠ i1 → c ≠ i2 → c ≠ i3 → h.get? c = some o → h'.get? c = some o) →
        wpAny (model prog w) A.in1 (updateSeq L (·.push (.ref h.objs.size)) >>= fun _ => again (.builtin "list.extend.loop" ⟨[.ref L, .ref z, res], []⟩)) (fun fin s' => match fin with | .done f => R (.ok f) s' | .again c' => c'.quiet = true ∧ codeAny (model prog w) A c' R s') (fun e s' => R (.error e) s') ⟨h', gn, dr, tk', os⟩ := by
      intro x1 x2 x3 h' tk' p1 p2 p3 zs' s1 s2 s3 hT kk
      have hL' := kk L _ (Nat.ne_of_gt zL) (Nat.ne_of_gt tL) (Nat.ne_of_gt a1) (Nat.ne_of_gt a2) (Nat.ne_of_gt a3) hL
      refine wpAny_bind ?_
      have ot : ∀ b o, b ≠ L → h'.get? b = some o → (h'.update L (Obj.mapSeq (·.push (.ref h.objs.size)))).get? b = some o := fun b o nb e => (Heap.get?_update_other _ _ (Ne.symm nb)).trans e
      refine wpAny_updateSeq hL' rfl (wpAny_pure ⟨plainId_quiet F.plain_extend_loop _, zip3_loop hh S D1 D2 D3 le2 le3 small zL tL TL a1 a2 a3 f1 f2 f3 old q k (i + 1) _ tk' (acc.push (.ref h.objs.size)) _ (as ++ [h.objs.size]) (by omega) l1 (zs' _ ot)
        (ot _ _ (Nat.ne_of_lt TL) (kk _ _ S.TIz S.TITO S.TIi1 S.TIi2 S.TIi3 tI)) (D1.frame _ _ _ s1 fun b hb o e => ot b o (fun z => f1 (z ▸ hb)) e) (D2.frame _ _ _ s2 fun b hb o e => ot b o (fun z => f2 (z ▸ hb)) e) (D3.frame _ _ _ s3 fun b hb o e => ot b o (fun z => f3 (z ▸ hb)) e)
        (fun b o e => let n := old b o e; ot b o n.2.2.2.2.2 (kk b o n.1 n.2.1 n.2.2.1 n.2.2.2.1 n.2.2.2.2.1 (kp b o e))) (Heap.get?_update_self _ hL' rfl) (by rw [List.length_append, al]; rfl) ?_ (by rw [Array.toList_push, ac, List.map_append]; rfl)⟩) (by rw [asz]; omega) (by show (acc.push _).size ≤ sizeLine + 1; rw [Array.size_push, asz]; omega)
      have tr' : Tri P1 P2 P3 L (h'.update L (Obj.mapSeq (·.push (.ref h.objs.size)))) as := tr.keep fun b o lb e => ot b o (Nat.ne_of_gt lb) (kk b o (Nat.ne_of_gt (Nat.lt_trans zL lb)) (Nat.ne_of_gt (Nat.lt_trans tL lb)) (Nat.ne_of_gt (Nat.lt_trans a1 lb)) (Nat.ne_of_gt (Nat.lt_trans a2 lb)) (Nat.ne_of_gt (Nat.lt_trans a3 lb)) e)
      exact tr'.snoc (fun b hb => tr.low hb) Ls (by rw [al]; exact p1) (by rw [al]; exact p2) (by rw [al]; exact p3) (ot _ _ (Nat.ne_of_gt Ls) hT)
    rcases zs with ⟨_, hz, a, b, d, hTO⟩ | ⟨T, f, oT, hz, hT, nS, nz, n1', n2', n3'⟩
    · refine wpAny_bind (wpAny_pyNext_zipD3_item S D1 D2 D3 hz tI hTO t1 t2 t3 l1 l2 l3 fun x1 x2 x3 h' tk' p1 p2 p3 hz' _ s1 s2 s3 hT _ kk => step x1 x2 x3 h' tk' p1 p2 p3 (fun g og => Or.inr ⟨h.objs.size, false, _, og _ _ (Nat.ne_of_lt zL) hz', og _ _ (Nat.ne_of_gt Ls) hT, Nat.ne_of_gt Ls, Nat.ne_of_gt (Nat.lt_trans zL Ls), Nat.ne_of_gt (Nat.lt_trans a1 Ls), Nat.ne_of_gt (Nat.lt_trans a2 Ls), Nat.ne_of_gt (Nat.lt_trans a3 Ls)⟩) s1 s2 s3 hT kk)
    · refine wpAny_bind (pyNext3_held S D1 D2 D3 hz hT tI t1 t2 t3 l1 l2 l3 fun x1 x2 x3 h' tk' p1 p2 p3 hz' s1 s2 s3 hT3 _ kk => step x1 x2 x3 h' tk' p1 p2 p3 (fun g og => Or.inr ⟨T, true, oT, og _ _ (Nat.ne_of_lt zL) hz', og _ _ nS (kk T oT nz n1' n2' n3' hT), nS, nz, n1', n2', n3'⟩) s1 s2 s3 hT3 (fun c o c0 _ c1 c2 c3 e => kk c o c0 c1 c2 c3 e))
end
end Mm

set_option Elab.async false
set_option linter.all false
set_option maxRecDepth 100000
set_option maxHeartbeats 4000000
namespace Mm
open PySem PySem.Spec PyProof.Rows L2 Evl
theorem zip_nolen : typeLookup (.type "zip") "__len__" = pure none := by rw [typeLookup_type, builtinLookup_eq_fast]; kernel_rfl
theorem zip_nohint : typeLookup (.type "zip") "__length_hint__" = pure none := by rw [typeLookup_type, builtinLookup_eq_fast]; kernel_rfl
section
variable {prog : Program} {w : World} {A : Around} {E : Value → Shared → Prop} {s : Shared} {z TI TO i1 i2 i3 : Addr} {fp1 fp2 fp3 : List Addr} {n1 n2 n3 i : Nat} {P1 P2 P3 : Nat → Value → Prop} {St1 St2 St3 : Nat → Heap → Prop}
theorem zip3_extend {L : Addr} {h₁ h : Heap} {gn : Array GenState} {dr : Drawn} {os : OsState} {tk : Nat} {R : Result → Shared → Prop} {res : Value} {c₀ : Nat} (hh : A.handled = none) (S : ZipSep3 z TI TO i1 i2 i3 fp1 fp2 fp3) (D1 : Draws prog w A.in1.in1 i1 fp1 n1 P1 St1) (D2 : Draws prog w A.in1.in1 i2 fp2 n2 P2 St2) (D3 : Draws prog w A.in1.in1 i3 fp3 n3 P3 St3)
    (le2 : n1 ≤ n2) (le3 : n1 ≤ n3) (small : n1 ≤ sizeLine) (zL : z < L) (tL : TO < L) (TL : TI < L) (a1 : i1 < L) (a2 : i2 < L) (a3 : i3 < L) (f1 : L ∉ fp1) (f2 : L ∉ fp2) (f3 : L ∉ fp3)
    (old : ∀ b o, h₁.get? b = some o → b ≠ z ∧ b ≠ TO ∧ b ≠ i1 ∧ b ≠ i2 ∧ b ≠ i3 ∧ b ≠ L)
    (hz : IsZip h z TI TO .none) (hTO : ∃ a b c, IsTupOf3 h TO a b c) (tI : IsTupOf3 h TI (.ref i1) (.ref i2) (.ref i3)) (t1 : St1 0 h) (t2 : St2 0 h) (t3 : St3 0 h) (kp : ∀ b o, h₁.get? b = some o → h.get? b = some o) (hL : h.get? L = some { cls := .type "list", data := .seq #[] c₀ })
    (q : ∀ h' tk acc c as, (∀ b o, h₁.get? b = some o → h'.get? b = some o) → h'.get? L = some { cls := .type "list", dict := none, data := .seq acc c, slots := #[] } → as.length = n1 → Tri P1 P2 P3 L h' as → acc.toList = as.map Value.ref → R (.ok (.ret res)) ⟨h', gn, dr, tk, os⟩) :
    wpAny (model prog w) A.in1 (Builtin.List.listExtendWith (.ref L) (.ref z) res) (fun fin s' => match fin with | .done f => R (.ok f) s' | .again c' => c'.quiet = true ∧ codeAny (model prog w) A c' R s') (fun e s' => R (.error e) s') ⟨h, gn, dr, tk, os⟩ := by
  have ty : Shared.TypeIs ⟨h, gn, dr, tk, os⟩ (.ref z) "zip" := ⟨_, hz, rfl⟩
  unfold Builtin.List.listExtendWith
  refine wpAny_bind (wpAny_typeOf ty ?_)
  have e1 : Builtin.List.listSameRef (.ref L) (.ref z) = false := by simp [Builtin.List.listSameRef, Nat.ne_of_gt zL]
  have e2 : (Value.type "zip" == Value.type "list") = false := by decide
  have e3 : (Value.type "zip" == Value.type "tuple") = false := by decide
  simp only [e1, e2, e3, Bool.or_false, Bool.false_eq_true, if_false]
  refine wpAny_bind (wpAny_pyIter_zip hz ?_)
  refine wpAny_bind (wpAny_holding ?_)
  unfold Builtin.List.listLengthHint
  refine wpAny_bind (wpAny_specialOf ty zip_nolen ?_)
  show wpAny _ A.in1 (specialOf (Value.ref z) (Str.ofString "__length_hint__") >>= _) _ _ _
  refine wpAny_bind (wpAny_specialOf ty zip_nohint ?_)
  refine wpAny_pure ?_
  show wpAny _ A.in1 (rule "list.extend.makes-room" >>= fun _ => Builtin.List.listTouch (.ref L) >>= fun _ => again (.builtin "list.extend.loop" ⟨[.ref L, .ref z, res], []⟩)) _ _ _
  refine wpAny_bind (wpAny_rule ?_)
  refine wpAny_bind ?_
  show wpAny _ A.in1 (updateSeq L (·.push .none) >>= fun _ => updateSeq L (·.pop)) _ _ _
  refine wpAny_bind (wpAny_updateSeq hL rfl ?_)
  have g2 := Heap.get?_update_self (Obj.mapSeq (·.push Value.none)) hL rfl
  refine wpAny_updateSeq (hz := by seq_fits) g2 rfl ?_
  have g3 := Heap.get?_update_self (Obj.mapSeq (·.pop)) g2 rfl
  have ot : ∀ b o, b ≠ L → h.get? b = some o → ((h.update L (Obj.mapSeq (·.push Value.none))).update L (Obj.mapSeq (·.pop))).get? b = some o :=
    fun b o nb e => (Heap.get?_update_other _ _ (Ne.symm nb)).trans ((Heap.get?_update_other _ _ (Ne.symm nb)).trans e)
  obtain ⟨x, y, u, hTO⟩ := hTO
  refine wpAny_pure ⟨plainId_quiet F.plain_extend_loop _, zip3_loop (h₁ := h₁) (A := A) hh S D1 D2 D3 le2 le3 small zL tL TL a1 a2 a3 f1 f2 f3 old q n1 0 _ tk #[] _ [] rfl (Nat.zero_le _) (Or.inl ⟨rfl, ot _ _ (Nat.ne_of_lt zL) hz, x, y, u, ot _ _ (Nat.ne_of_lt tL) hTO⟩) (ot _ _ (Nat.ne_of_lt TL) tI)
    (D1.frame _ _ _ t1 fun b hb o e => ot b o (fun z => f1 (z ▸ hb)) e) (D2.frame _ _ _ t2 fun b hb o e => ot b o (fun z => f2 (z ▸ hb)) e) (D3.frame _ _ _ t3 fun b hb o e => ot b o (fun z => f3 (z ▸ hb)) e)
    (fun b o e => ot b o (old b o e).2.2.2.2.2 (kp b o e)) g3 rfl ⟨.nil, fun a ha => (nomatch ha), fun j a e => by simp at e⟩ rfl⟩
theorem call_list_zip3 {t1 t2 t3 : Addr} {xs ys zs : Array Value} {Q : Value → Shared → Prop} (hh : A.handled = none) (ht1 : s.heap.IsTuple t1 xs) (ht2 : s.heap.IsTuple t2 ys) (ht3 : s.heap.IsTuple t3 zs) (le2 : xs.size ≤ ys.size) (le3 : xs.size ≤ zs.size) (small : xs.size ≤ sizeLine)
    (q : ∀ h' tk acc c as L, s.heap.objs.size ≤ L → (∀ b o, s.heap.get? b = some o → h'.get? b = some o) → h'.get? L = some { cls := .type "list", dict := none, data := .seq acc c, slots := #[] } → as.length = xs.size →
      Tri (fun j v => xs[j]? = some v) (fun j v => ys[j]? = some v) (fun j v => zs[j]? = some v) L h' as → acc.toList = as.map Value.ref → Q (.ref L) { s with heap := h', toks := tk }) :
    wpAny (model prog w) A (call (.type "zip") [.ref t1, .ref t2, .ref t3]) (fun zv s1 => wpAny (model prog w) A (call (.type "list") [zv]) Q E s1) E s := by
  obtain ⟨h0, gn, dr, tk, os⟩ := s
  have la1 : t1 < h0.objs.size := let ⟨_, e, _⟩ := ht1; Heap.lt_size e
  have la2 : t2 < h0.objs.size := let ⟨_, e, _⟩ := ht2; Heap.lt_size e
  have la3 : t3 < h0.objs.size := let ⟨_, e, _⟩ := ht3; Heap.lt_size e
  refine zip_begins3 (begins_tuple t1 xs) (begins_tuple t2 ys) (begins_tuple t3 zs) ht1 ht2 ht3 fun h hz hI hO g1 g2 g3 sz kp => ?_
  replace kp : ∀ b o, h0.get? b = some o → h.get? b = some o := kp
  replace sz : h.objs.size = h0.objs.size + 6 := sz
  generalize eN : h0.objs.size = N at la1 la2 la3 sz hz hI hO g1 g2 g3 ⊢
  have S : ZipSep3 (N + 5) (N + 3) (N + 4) N (N + 1) (N + 2) [N, t1] [N + 1, t2] [N + 2, t3] := zip_sep3 (fp1 := [t1]) (fp2 := [t2]) (fp3 := [t3]) (fun b hb => by rw [List.mem_singleton.mp hb]; exact la1) (fun b hb => by rw [List.mem_singleton.mp hb]; exact la2) (fun b hb => by rw [List.mem_singleton.mp hb]; exact la3)
  refine callType_codes (Q₁ := fun obj s₁ => obj = .ref (N + 6) ∧ s₁ = ⟨h.push { cls := .type "list", data := .seq #[] }, gn, dr, tk, os⟩) PySem.F.called_list (PySem.F.typeCall_list_1 _) PySem.F.entry_list_init
    (code_list_new _ ⟨by show Value.ref h.objs.size = _; rw [sz], rfl⟩) fun obj s₁ h₁ => ?_
  obtain ⟨rfl, rfl⟩ := h₁
  have hL : (h.push { cls := .type "list", data := .seq #[] }).get? (N + 6) = some { cls := .type "list", data := .seq #[] } := by
    rw [← sz]
    exact Heap.get?_push_size _ rfl
  refine ⟨⟨_, hL, rfl⟩, PySem.F.args_list_init_2 _ _, ?_⟩
  show wpAny _ A.in1.in1 (do let old ← Builtin.List.listItems (.ref (N + 6)); Builtin.List.listUpdate (.ref (N + 6)) (fun _ => #[]); letGo old.toList.reverse; Builtin.List.listExtendWith (.ref (N + 6)) (.ref (N + 5)) .none) _ _ _
  refine wpAny_bind ?_
  unfold Builtin.List.listItems
  refine wpAny_bind (wpAny_seqItems hL rfl (wpAny_pure ?_))
  show wpAny _ _ (updateSeq (N + 6) (fun _ => #[]) >>= fun _ => letGo (#[] : Array Value).toList.reverse >>= fun _ => Builtin.List.listExtendWith (.ref (N + 6)) (.ref (N + 5)) .none) _ _ _
  refine wpAny_bind (wpAny_updateSeq hL rfl ?_)
  have hL2 := Heap.get?_update_self (Obj.mapSeq (fun _ => (#[] : Array Value))) hL rfl
  have ot : ∀ b o, b < N + 6 → h.get? b = some o → ((h.push { cls := .type "list", data := .seq #[] }).update (N + 6) (Obj.mapSeq (fun _ => (#[] : Array Value)))).get? b = some o := fun b o lb e =>
    (Heap.get?_update_other _ _ (Nat.ne_of_gt lb)).trans (Heap.get?_push_of_some _ e)
  refine wpAny_bind (wpAny_letGo ?_)
  have lt0 : ∀ b o, h0.get? b = some o → b < N := fun b o e => by
    rw [← eN]
    exact Heap.lt_size e
  have nin : ∀ (x t : Addr), x < N + 6 → t < N → N + 6 ∉ [x, t] := fun x t hx ht hm => by
    simp only [List.mem_cons, List.mem_nil_iff, or_false] at hm
    rcases hm with hm | hm
    · exact Nat.ne_of_gt hx hm
    · exact Nat.ne_of_gt (Nat.lt_of_lt_of_le ht (Nat.le_add_right _ _)) hm
  have D1 := Draws.tuple (prog := prog) (w := w) (A := A.in1.in1.in1) hh N t1 (Nat.ne_of_lt la1) xs
  have D2 := Draws.tuple (prog := prog) (w := w) (A := A.in1.in1.in1) hh (N + 1) t2 (Nat.ne_of_lt (Nat.lt_succ_of_lt la2)) ys
  have D3 := Draws.tuple (prog := prog) (w := w) (A := A.in1.in1.in1) hh (N + 2) t3 (Nat.ne_of_lt (Nat.lt_succ_of_lt (Nat.lt_succ_of_lt la3))) zs
  have tup : ∀ (t : Addr) (vs : Array Value), h0.IsTuple t vs → t < N → ((h.push { cls := .type "list", data := .seq #[] }).update (N + 6) (Obj.mapSeq (fun _ => (#[] : Array Value)))).IsTuple t vs := fun t vs ht lt => ht.at fun o e => ot t o (Nat.lt_of_lt_of_le lt (Nat.le_add_right _ _)) (kp t o e)
  have lt_ : ∀ (k m : Nat), k < m → (N : Nat) + k < N + m := fun k m h => Nat.add_lt_add_left h _
  have lt6 : ∀ b : Nat, b < N → b < N + 6 := fun b h => Nat.lt_of_lt_of_le h (Nat.le_add_right _ _)
  have neN : ∀ (b : Nat) (k : Nat), b < N → b ≠ N + k := fun b k h => Nat.ne_of_lt (Nat.lt_of_lt_of_le h (Nat.le_add_right _ _))
  refine zip3_extend (A := A.in1) (h₁ := h0) hh S D1 D2 D3 le2 le3 small (lt_ 5 6 (by decide)) (lt_ 4 6 (by decide)) (lt_ 3 6 (by decide)) (lt_ 0 6 (by decide)) (lt_ 1 6 (by decide)) (lt_ 2 6 (by decide)) (nin _ _ (lt_ 0 6 (by decide)) la1) (nin _ _ (lt_ 1 6 (by decide)) la2) (nin _ _ (lt_ 2 6 (by decide)) la3) (fun b o e => ?_)
    (ot _ _ (lt_ 5 6 (by decide)) hz) ⟨_, _, _, ot _ _ (lt_ 4 6 (by decide)) hO⟩ (ot _ _ (lt_ 3 6 (by decide)) hI) ⟨⟨_, ot _ _ (lt_ 0 6 (by decide)) g1, rfl, rfl⟩, tup t1 xs ht1 la1⟩ ⟨⟨_, ot _ _ (lt_ 1 6 (by decide)) g2, rfl, rfl⟩, tup t2 ys ht2 la2⟩ ⟨⟨_, ot _ _ (lt_ 2 6 (by decide)) g3, rfl, rfl⟩, tup t3 zs ht3 la3⟩
    (fun b o e => ot b o (lt6 b (lt0 b o e)) (kp b o e)) hL2 (fun h' tk' acc c as k1 k2 k3 k4 k5 => ⟨rfl, q h' tk' acc c as (N + 6) (by show h0.objs.size ≤ N + 6; rw [eN]; exact Nat.le_add_right _ _) k1 k2 k3 k4 k5⟩)
  have lb := lt0 b o e
  exact ⟨neN b 5 lb, neN b 4 lb, neN b 0 lb, neN b 1 lb, neN b 2 lb, neN b 6 lb⟩
end
end Mm

set_option Elab.async false
set_option linter.all false
set_option maxRecDepth 100000
set_option maxHeartbeats 4000000
namespace Mm
open PySem PySem.Spec PyProof.Rows L2 Evl
/-- the triples at their addresses -/
def put3 : Hp → List Addr → List (List V) → Hp
  | H, a :: as, p :: ps => put3 (upd H a (.tup p)) as ps
  | H, _, _ => H
theorem put3_off {b : Addr} : ∀ (as : List Addr) (ps : List (List V)) (H : Hp), b ∉ as → put3 H as ps b = H b
  | [], _, _, _ => rfl
  | _ :: _, [], _, _ => rfl
  | a :: as, p :: ps, H, h => by
    show put3 (upd H a (.tup p)) as ps b = H b
    rw [put3_off as ps _ (fun z => h (List.mem_cons_of_mem _ z)), upd_ne (fun z => h (by rw [z]; exact List.mem_cons_self))]
theorem put3_at : ∀ (as : List Addr) (ps : List (List V)) (H : Hp), as.length = ps.length → as.Nodup → Paired (fun (t : Addr) (p : List V) => put3 H as ps t = some (.tup p)) as ps
  | [], [], _, _, _ => .nil
  | [], _ :: _, _, h, _ => by cases h
  | _ :: _, [], _, h, _ => by cases h
  | a :: as, p :: ps, H, h, hn => by
    have hn' := List.nodup_cons.mp hn
    have ih := put3_at as ps (upd H a (.tup p)) (Nat.succ.inj h) hn'.2
    refine .cons ?_ ih
    show put3 (upd H a (.tup p)) as ps a = some (.tup p)
    rw [put3_off as ps _ hn'.1, upd_same]
def trips : List V → List V → List V → List (List V)
  | x :: xs, y :: ys, z :: zs => [x, y, z] :: trips xs ys zs
  | _, _, _ => []
theorem trips_len : ∀ {xs ys zs : List V}, xs.length ≤ ys.length → xs.length ≤ zs.length → (trips xs ys zs).length = xs.length
  | [], _, _, _, _ => rfl
  | x :: xs, [], _, h, _ => by simp at h
  | x :: xs, y :: ys, [], _, h => by simp at h
  | x :: xs, y :: ys, z :: zs, h1, h2 => by
    show (trips xs ys zs).length + 1 = xs.length + 1
    rw [trips_len (Nat.le_of_succ_le_succ h1) (Nat.le_of_succ_le_succ h2)]
theorem trips_get : ∀ {xs ys zs : List V} {j : Nat} {p : List V}, (trips xs ys zs)[j]? = some p → ∃ x y z, p = [x, y, z] ∧ xs[j]? = some x ∧ ys[j]? = some y ∧ zs[j]? = some z
  | x :: xs, y :: ys, z :: zs, 0, p, h => ⟨x, y, z, (Option.some.inj h).symm, rfl, rfl, rfl⟩
  | x :: xs, y :: ys, z :: zs, j + 1, p, h => trips_get (xs := xs) (ys := ys) (zs := zs) (j := j) h
  | [], _, _, j, p, h => by simp [trips] at h
  | _ :: _, [], _, j, p, h => by simp [trips] at h
  | _ :: _, _ :: _, [], j, p, h => by simp [trips] at h
def tListZip3 (K : PySem.W.Frag) (ta : TA) : TE := fun σ H Q => ta σ H fun vs H1 => ∃ (t1 t2 t3 : Addr) (xs ys zs : List V), vs = [.ref t1, .ref t2, .ref t3] ∧ SqT K H1 t1 xs ∧ SqT K H1 t2 ys ∧ SqT K H1 t3 zs ∧ xs.length ≤ ys.length ∧ xs.length ≤ zs.length ∧
  ∀ (H' : Hp) (p : Addr) (ts : List Addr), (∀ b o, H1 b = some o → H' b = some o) → H1 p = none → (∀ t ∈ ts, H1 t = none) → H' p = some (.lst (ts.map V.ref)) → Paired (fun (t : Addr) (q : List V) => H' t = some (.tup q)) ts (trips xs ys zs) → Q (.ref p) H'
section
variable {X : Cx} {e1 e2 e3 : Expr} {ta : TA} {p zp cpos pos : Pos}
theorem vals_get : ∀ {xs : List V} {vs : List Value} {j : Nat} {x : V} {v : Value}, Vals xs vs → xs[j]? = some x → vs[j]? = some v → RelV x v
  | _, _, 0, x, v, .cons r _, h1, h2 => by
    cases h1
    cases h2
    exact r
  | _, _, j + 1, x, v, .cons _ t, h1, h2 => vals_get (j := j) t h1 h2
theorem laid3 {pins : List (Addr × Obj)} {σ : L2.St} {H : Hp} {s : Shared} {h' : Heap} {tk : Nat} {xs ys zs : List V} {us vs ws : List Value} {acc : Array Value} {c : Nat} {as : List Addr} {L : Addr} (I : Inv X pins σ H s) (hz : xs.length ≤ sizeLine) (l2 : xs.length ≤ ys.length) (l3 : xs.length ≤ zs.length) (k1 : Vals xs us) (k2 : Vals ys vs) (k3 : Vals zs ws)
    (hle : s.heap.objs.size ≤ L) (hk : ∀ b o, s.heap.get? b = some o → h'.get? b = some o) (hS : h'.get? L = some { cls := .type "list", dict := none, data := .seq acc c, slots := #[] }) (hl : as.length = us.length) (hG : Tri (fun j v => us.toArray[j]? = some v) (fun j v => vs.toArray[j]? = some v) (fun j v => ws.toArray[j]? = some v) L h' as) (hacc : acc.toList = as.map Value.ref) :
    ∃ H' : Hp, (∀ b o, H b = some o → H' b = some o) ∧ H L = none ∧ (∀ t ∈ as, H t = none) ∧ H' L = some (.lst (as.map V.ref)) ∧ Paired (fun (t : Addr) (q : List V) => H' t = some (.tup q)) as (trips xs ys zs) ∧ Inv X pins σ H' { s with heap := h', toks := tk } := by
  have lk : xs.length = us.length := Paired.length k1
  have lt : (trips xs ys zs).length = as.length := by rw [trips_len l2 l3, hl, lk]
  have hSn : L ∉ as := fun z => Nat.lt_irrefl _ (hG.above _ z)
  have nd : as.Nodup := List.Pairwise.imp (fun {a b} (h : a < b) => Nat.ne_of_lt h) hG.rise
  have new : ∀ t ∈ as, H t = none := fun t ht => I.hok.fresh (Nat.le_trans hle (Nat.le_of_lt (hG.above t ht)))
  have newS : H L = none := I.hok.fresh hle
  have atP := put3_at as (trips xs ys zs) (upd H L (.lst (as.map V.ref))) lt.symm nd
  have off : ∀ b, b ∉ as → b ≠ L → put3 (upd H L (.lst (as.map V.ref))) as (trips xs ys zs) b = H b := fun b h1 h2 => by rw [put3_off as _ _ h1, upd_ne h2]
  have low : ∀ b o, s.heap.get? b = some o → b ∉ as ∧ b ≠ L := fun b o e => ⟨fun z => absurd (Nat.lt_of_lt_of_le (Heap.lt_size e) hle) (Nat.not_lt.mpr (Nat.le_of_lt (hG.above b z))), Nat.ne_of_lt (Nat.lt_of_lt_of_le (Heap.lt_size e) hle)⟩
  have kp : ∀ b u, H b = some u → (put3 (upd H L (.lst (as.map V.ref))) as (trips xs ys zs)) b = some u := fun b u e => by
    rw [off b (fun z => by rw [new b z] at e; cases e) (fun z => by rw [z, newS] at e; cases e)]
    exact e
  have eS : put3 (upd H L (.lst (as.map V.ref))) as (trips xs ys zs) L = some (.lst (as.map V.ref)) := by rw [put3_off as _ _ hSn, upd_same]
  refine ⟨put3 (upd H L (.lst (as.map V.ref))) as (trips xs ys zs), kp, newS, new, eS, atP, ?_⟩
  refine I.call' (ch := []) rfl ⟨fun b o q _ _ _ => hk b o q, fun b o q _ _ _ => ⟨o.slots, hk b o q⟩, fun b o q n _ => ?_, fun b o q _ => ⟨o, hk b o q⟩, fun b xs q => kp b _ q, fun b o u q => kp b _ q, fun b ps q => ⟨#[], by rw [kp b _ q]; simp⟩⟩ (fun b u q => ?_) I.bare fun b z => by simp at z
  · obtain ⟨z1, z2⟩ := low b o q
    rw [off b z1 z2]
    exact n
  · by_cases hb : b ∈ as
    · obtain ⟨j, pk, e1, e2, e3⟩ := LiI.paired_ix atP hb
      rw [e3] at q
      cases q
      obtain ⟨x, y, z, f1, f2, f3, f4⟩ := hG.trip j b e1
      obtain ⟨x', y', z', rfl, g2, g3, g4⟩ := trips_get e2
      have r1 := vals_get k1 g2 (by simpa using f1)
      have r2 := vals_get k2 g3 (by simpa using f2)
      have r3 := vals_get k3 g4 (by simpa using f3)
      exact ⟨by show 3 ≤ sizeLine; decide, [x, y, z], .cons r1 (.cons r2 (.cons r3 .nil)), ⟨_, f4, rfl, _, rfl⟩⟩
    · by_cases hb2 : b = L
      · rw [hb2] at q ⊢
        rw [eS] at q
        cases q
        refine ⟨by rw [List.length_map]; omega, acc.toList, c, by rw [hacc]; exact LiI.vals_refs as, ?_⟩
        rw [Array.toArray_toList]
        exact hS
      · rw [off b hb hb2] at q
        exact (I.hok b u q).stay (fun d v _ y => hk d v y) (fun d y => kp d _ y) fun d xs y => kp d _ y
/-- list(zip(e1, e2, e3)) of tuples, the first one no longer than the others -/
theorem pe_listZip3 (hc : X.calm = true) (hg : Gl X "list") (hm : X.mg "list" = none) (hg2 : Gl X "zip") (hm2 : X.mg "zip" = none) (ha : PA X [e1, e2, e3] ta)
    (hs : starEach [.Call (.Name "zip" zp) [e1, e2, e3] [] cpos] X.env = (false, eval (.Call (.Name "zip" zp) [e1, e2, e3] [] cpos) X.env) :: starEach [] X.env := by rfl)
    (hs2 : starEach [e1, e2, e3] X.env = (false, eval e1 X.env) :: starEach [e2, e3] X.env := by rfl) (hpl : (backTo cpos (starEach [e2, e3] X.env)).any (·.1) = false := by rfl) :
    PE X (.Call (.Name "list" p) [.Call (.Name "zip" zp) [e1, e2, e3] [] cpos] [] pos) (tListZip3 X.K ta) := by
  refine ⟨fun pins s σ H Q I hq => ?_⟩
  refine wpAny_Call_Name_kw (ld_blt I hg hm (by rfl : bootBuiltins "list" = some (.type "list")) ?_)
  refine PyProof.Rows.callWith_type1 ?_ hs rfl
  rw [hs]
  show wpAny _ _ (spliced ((false, eval (.Call (.Name "zip" zp) [e1, e2, e3] [] cpos) X.env) :: backTo pos (starEach [] X.env))) _ _ s
  refine Calls.spliced_cons ?_
  refine Call_ (ld_blt I hg2 hm2 PyProof.Rows.boot_zip (PyProof.Rows.callWith_type1 (thn (ha.run cpos pins s σ H _ I hq) fun us s1 ⟨vs, H1, I1, r1, q1⟩ => ?_) hs2 hpl))
  obtain ⟨t1, t2, t3, xs, ys, zs, ex, h1, h2, h3, l2, l3, q⟩ := q1
  subst ex
  cases r1 with
  | cons r rr =>
    cases rr with
    | cons r' rr =>
      cases rr with
      | cons r'' rr =>
        cases rr
        cases r
        cases r'
        cases r''
        obtain ⟨vs1, v1, o1, hz⟩ := I1.tuple h1
        obtain ⟨vs2, v2, o2, _⟩ := I1.tuple h2
        obtain ⟨vs3, v3, o3, _⟩ := I1.tuple h3
        have n1 : xs.length = vs1.length := Paired.length v1
        have n2 : ys.length = vs2.length := Paired.length v2
        have n3 : zs.length = vs3.length := Paired.length v3
        refine wpAny_mono (call_list_zip3 (xs := vs1.toArray) (ys := vs2.toArray) (zs := vs3.toArray) (I1.ok.hd hc) o1 o2 o3 (by simp; omega) (by simp; omega) (by simp; omega)
          (Q := fun v s' => ∃ x H', Inv X pins σ H' s' ∧ RelV x v ∧ Q x H') fun h' tk acc c as L hle hk hS hl hG hacc => ?_) (fun v s' h => wpAny_mono (Calls.spliced_nil h) (fun _ _ h => h) fun _ _ h => h) fun _ _ h => h
        obtain ⟨H', k1, k2, k3, k4, k5, J⟩ := laid3 (tk := tk) I1 hz l2 l3 v1 v2 v3 hle hk hS (by simpa using hl) hG hacc
        exact ⟨.ref L, H', J, rfl, q H' L as k1 k2 k3 k4 k5⟩
theorem pe_listZip3K {K : PySem.W.Frag} (hK : X.K = K) (hc : X.calm = true) (hg : Gl X "list") (hm : X.mg "list" = none) (hg2 : Gl X "zip") (hm2 : X.mg "zip" = none) (ha : PA X [e1, e2, e3] ta)
    (hs : starEach [.Call (.Name "zip" zp) [e1, e2, e3] [] cpos] X.env = (false, eval (.Call (.Name "zip" zp) [e1, e2, e3] [] cpos) X.env) :: starEach [] X.env := by rfl)
    (hs2 : starEach [e1, e2, e3] X.env = (false, eval e1 X.env) :: starEach [e2, e3] X.env := by rfl) (hpl : (backTo cpos (starEach [e2, e3] X.env)).any (·.1) = false := by rfl) :
    PE X (.Call (.Name "list" p) [.Call (.Name "zip" zp) [e1, e2, e3] [] cpos] [] pos) (tListZip3 K ta) := hK ▸ pe_listZip3 hc hg hm hg2 hm2 ha hs hs2 hpl
end
end Mm

set_option Elab.async false
set_option linter.all false
set_option maxRecDepth 100000
set_option maxHeartbeats 4000000
namespace Mm
open PySem PySem.Spec PyProof.Rows L2 Evl
section
variable {prog : Program} {w : World} {A : Around} {E : Value → Shared → Prop} {s : Shared}
theorem call_set_tupI {l : Addr} {items : Array Value} {ns : List Int} {Q : Value → Shared → Prop}
    (calm : A.handled = none) (tup : s.heap.IsTuple l items) (hi : PyProof.Rows.IntsAre items.toList ns) (hb : items.size + 1 < scanBound)
    (fin : ∀ (h' : Heap) (tk : Nat), h'.SetOf (intKind prog w) s.heap.objs.size (fun k' => (PyProof.Rows.firstMet (fun i => ns.getD i 0) items.size).any (· == k')) (PyProof.Rows.firstMet (fun i => ns.getD i 0) items.size).length →
      (∀ b o, b < s.heap.objs.size → s.heap.get? b = some o → h'.get? b = some o) → Q (.ref s.heap.objs.size) { s with heap := h', toks := tk }) :
    wpAny (model prog w) A (call (.type "set") [.ref l]) Q E s := by
  obtain ⟨cM, tM, eM⟩ := F.called_set.mro
  have mM := F.called_set.made
  have bM := F.called_set.sub
  apply wpAny_call
  apply codeAny_of_tree
  show wpAny _ _ (callAny (.type "set") _) _ _ _
  refine wpAny_pure ⟨Code.quiet_builtin _ (by decide +kernel), codeAny_builtin F.entry_type_call ?_⟩
  rw [Around.under_plain (weight_type_call_type "set" [.ref l] []) rfl]
  have nT := F.called_set.notType
  have cC := F.called_set.canCreate
  have tC1 := F.typeCall_set_1 (.ref l)
  repeat (any_goals (first | assumption | wp_step))
  refine codeAny_mono (code_set_new_1 (.ref l) (E := E) (Q₁ := fun ob s1 => ∃ led : Bool, ob = .ref s.heap.objs.size ∧ s1 = { s with heap := s.heap.push { cls := .type "set", dict := none, data := .set #[] 0 (.fresh 0 0 led) } }) fun led => ⟨led, rfl, rfl⟩) fun r1 s1 hr1 => ?_
  match r1, hr1 with
  | .error e, z => exact z
  | .ok .next, z => exact z.elim
  | .ok .brk, z => exact z.elim
  | .ok .cont, z => exact z.elim
  | .ok (.ret ob), ⟨led, e1, e2⟩ =>
    subst e1
    subst e2
    have gS : (s.heap.push { cls := .type "set", dict := none, data := .set #[] 0 (.fresh 0 0 led) }).get? s.heap.objs.size = some { cls := .type "set", dict := none, data := .set #[] 0 (.fresh 0 0 led) } := Heap.get?_push_size _ rfl
    have tS : Shared.TypeIs { s with heap := s.heap.push { cls := .type "set", dict := none, data := .set #[] 0 (.fresh 0 0 led) } } (.ref s.heap.objs.size) "set" := ⟨_, gS, rfl⟩
    have iL := F.called_set.init.lookup
    have iB := F.called_set.init.bind (.ref s.heap.objs.size)
    repeat (any_goals (first | assumption | wp_step))
    refine codeAny_mono (codeAny_call_builtin (R := wants (fun r s2 => r = .none ∧ ∃ h' tk, s2 = { s with heap := h', toks := tk } ∧
      h'.SetOf (intKind prog w) s.heap.objs.size (fun k' => (PyProof.Rows.firstMet (fun i => ns.getD i 0) items.size).any (· == k')) (PyProof.Rows.firstMet (fun i => ns.getD i 0) items.size).length ∧
      (∀ b o, b < s.heap.objs.size → s.heap.get? b = some o → h'.get? b = some o)) E) F.called_set.init.plain F.entry_set_init (check_set_init_1 tS ?_)) fun r2 s2 hr2 => ?_
    · obtain ⟨oT, gT, cT, nT2, dT⟩ := tup
      obtain ⟨u1, u2, u3, u4⟩ := oT
      simp only at cT dT
      subst cT
      subst dT
      have gT2 : (s.heap.push { cls := .type "set", dict := none, data := .set #[] 0 (.fresh 0 0 led) }).get? l = some { cls := .type "tuple", dict := u2, data := .seq items nT2, slots := u4 } := Heap.get?_push_of_some _ gT
      have s1 := F.sub_tuple_set
      have s2 := F.sub_tuple_frozenset
      have ne : (Value.type "tuple" == Value.type "dict") = false := by decide
      have tup1 : (s.heap.push { cls := .type "set", dict := none, data := .set #[] 0 (.fresh 0 0 led) }).IsTuple l items := ⟨_, gT2, rfl, nT2, rfl⟩
      unfold Builtin.«set.__init__» noKeywords Builtin.Frozenset.updateFrom
      generalize ePI : pyIter = PI
      wp_walk
      subst ePI
      apply wpAny_pyIter_tuple tup1
      apply wpAny_bind
      apply wpAny_runValue
      have lt : l < s.heap.objs.size := Heap.lt_size gT
      have calm3 : A.in1.in1.in1.handled = none := by simp [calm]
      have neI : l ≠ (s.heap.push { cls := .type "set", dict := none, data := .set #[] 0 (.fresh 0 0 led) }).objs.size := by
        rw [Heap.size_push]
        exact Nat.ne_of_lt (Nat.lt_succ_of_lt lt)
      have notIn : s.heap.objs.size ∉ [(s.heap.push { cls := .type "set", dict := none, data := .set #[] 0 (.fresh 0 0 led) }).objs.size, l] := by
        rw [Heap.size_push]
        simp only [List.mem_cons, List.not_mem_nil, or_false, not_or]
        exact ⟨Nat.ne_of_lt (Nat.lt_succ_self _), Nat.ne_of_gt lt⟩
      have vals : ∀ (i : Nat) (v : Value), items[i]? = some v → ∃ t, v = .int ((fun i => ns.getD i 0) i) t := fun i v hv =>
        PyProof.Rows.IntsAre.int_at hi i v (by rw [Array.getElem?_toList]; exact hv)
      refine PyProof.Rows.codeAny_set_update_loopS ((Walks.tuple calm3 _ l neI items).toS) s.heap.objs.size
        notIn (fun i => ns.getD i 0) vals hb (items.size - 0) 0 _ (by omega) (Nat.zero_le _)
        ⟨⟨_, Heap.get?_push_size _ rfl, rfl, rfl⟩, (tup1.push _)⟩ ?start ?stop
      case start =>
        have get0 := Heap.get?_push_of_some { cls := .type "tuple_iterator", data := .fields #[.ref l, .int 0 0] } gS
        exact PyProof.Rows.SetOf_congr ((PyProof.Rows.setObjOf_fresh (knd := intKind prog w) led).setOf get0 (by unfold scanBound; omega)) (fun _ => rfl) rfl
      case stop =>
        intro s3 mv hS
        obtain ⟨h3, g3, d3, t3, o3⟩ := s3
        obtain rfl : g3 = s.gens := mv.gens
        obtain rfl : d3 = s.drawn := mv.drawn
        obtain rfl : o3 = s.os := mv.os
        show wpAny _ _ _ _ _ _
        apply wpAny_pure
        show wpAny _ _ (ret Value.none) _ _ _
        refine wpAny_pure ⟨rfl, h3, t3, rfl, hS, fun b o hb e => ?_⟩
        have b2 : b ≠ (s.heap.push { cls := .type "set", dict := none, data := .set #[] 0 (.fresh 0 0 led) }).objs.size := by
          rw [Heap.size_push]
          exact Nat.ne_of_lt (Nat.lt_succ_of_lt hb)
        exact mv.heap b o (by simp only [List.mem_cons, List.not_mem_nil, or_false, not_or]; exact ⟨Nat.ne_of_lt hb, b2⟩) (Heap.get?_push_of_some _ (Heap.get?_push_of_some _ e))
    · match r2, hr2 with
      | .error e, z => exact z
      | .ok .next, z => exact z.elim
      | .ok .brk, z => exact z.elim
      | .ok .cont, z => exact z.elim
      | .ok (.ret r), ⟨e3, g, tk, e4, hS, kp⟩ =>
        subst e3
        subst e4
        repeat (any_goals (first | assumption | wp_step))
        exact fin _ _ hS kp
end
/-- how many unlike ones -/
def unlike (ns : List Int) : Nat := (PyProof.Rows.firstMet (fun i => ns.getD i 0) ns.length).length
def tLenSetI (K : PySem.W.Frag) (ta : TE) : TE := fun σ H Q => ta σ H fun x H1 => ∃ (l : Addr) (ns : List Int), x = .ref l ∧ (SqL K H1 l (ns.map V.int) ∨ SqT K H1 l (ns.map V.int)) ∧ ns.length ≤ 4000 ∧ Q (.int ((unlike ns : Nat) : Int)) H1
theorem intsAre_of : ∀ {ns : List Int} {us : List Value}, Vals (ns.map V.int) us → PyProof.Rows.IntsAre us ns
  | [], _, .nil => .nil
  | n :: ns, _, .cons r t => by
    obtain ⟨k, rfl⟩ := r
    exact .cons n k (intsAre_of t)
section
variable {X : Cx} {a : Expr} {ta : TE}
theorem pe_lenSetI {p p2 q pos : Pos} (hc : X.calm = true) (hg : Gl X "len") (hm : X.mg "len" = none) (hg2 : Gl X "set") (hm2 : X.mg "set" = none) (ha : PE X a ta)
    (na : starEach [a] X.env = (false, eval a X.env) :: starEach [] X.env := by rfl) : PE X (.Call (.Name "len" p) [.Call (.Name "set" p2) [a] [] q] [] pos) (tLenSetI X.K ta) := by
  refine ⟨fun pins s σ H Q I h => ?_⟩
  refine Call_ (ld_blt I hg hm boot_len ?_)
  refine PyProof.Rows.callWith_builtin1 (PyProof.Rows.args_cons ?_ rfl) rfl rfl
  refine Call_ (ld_blt I hg2 hm2 boot_set ?_)
  refine PyProof.Rows.callWith_type1 (PyProof.Rows.args_cons (thn (ha.run pins s σ H _ I h) fun v s1 ⟨x, H1, I1, r1, q1⟩ => PyProof.Rows.args_nil ?_) na) na rfl
  obtain ⟨l, ns, rfl, hq, hn, q1⟩ := q1
  cases r1
  have fin : ∀ (its : List Value), Vals (ns.map V.int) its → ∀ (h' : Heap) (tk : Nat), h'.SetOf (PySem.intKind X.prog X.w) s1.heap.objs.size (fun k' => (PyProof.Rows.firstMet (fun i => ns.getD i 0) its.toArray.size).any (· == k')) (PyProof.Rows.firstMet (fun i => ns.getD i 0) its.toArray.size).length →
      (∀ b o, b < s1.heap.objs.size → s1.heap.get? b = some o → h'.get? b = some o) →
      wpAny (model X.prog X.w) X.A (spliced (backTo pos (starEach [] X.env))) (fun vs s₂ => wpAny (model X.prog X.w) X.A (call (.builtin "len") (Value.ref s1.heap.objs.size :: vs)) (EP X pins σ Q) X.xe s₂) X.xe { s1 with heap := h', toks := tk } := fun its r h' tk hS hk => by
    refine PyProof.Rows.args_nil ?_
    have hl : its.toArray.size = ns.length := by rw [List.size_toArray, ← r.length, List.length_map]
    rw [hl] at hS
    obtain ⟨o, es, ep, t, ho, hex, hd, _, _, _, hf, hsz⟩ := hS
    have I2 : Inv X pins σ H1 { s1 with heap := h', toks := tk } := I1.kept fun b o e => hk b o (Heap.lt_size e) e
    have le : (PyProof.Rows.firstMet (fun i => ns.getD i 0) ns.length).length ≤ ns.length := PyProof.Rows.firstMet_length_le _ _
    refine call_len_set ho hex hd hf (by rw [hsz]; omega) ⟨.int ((unlike ns : Nat) : Int), H1, I2.tok _, ⟨_, by rw [hsz]; rfl⟩, q1⟩
  rcases hq with hq | hq
  · obtain ⟨its, r, pl, hz⟩ := I1.list hq
    have hl : its.toArray.size = ns.length := by rw [List.size_toArray, ← r.length, List.length_map]
    exact PySem.call_set_list (I1.ok.hd hc) pl.isList (by simpa using intsAre_of r) (by rw [hl]; unfold scanBound; omega) fun h' tk hS hk => fin its r h' tk hS hk
  · obtain ⟨its, r, pl, hz⟩ := I1.tuple hq
    have hl : its.toArray.size = ns.length := by rw [List.size_toArray, ← r.length, List.length_map]
    exact call_set_tupI (I1.ok.hd hc) pl (by simpa using intsAre_of r) (by rw [hl]; unfold scanBound; omega) fun h' tk hS hk => fin its r h' tk hS hk
end
section
variable {X : Cx} {K : PySem.W.Frag}
theorem pe_lenSetIK {a : Expr} {ta : TE} {p p2 q pos : Pos} (hK : X.K = K) (hc : X.calm = true) (hg : Gl X "len") (hm : X.mg "len" = none) (hg2 : Gl X "set") (hm2 : X.mg "set" = none) (ha : PE X a ta)
    (na : starEach [a] X.env = (false, eval a X.env) :: starEach [] X.env := by rfl) : PE X (.Call (.Name "len" p) [.Call (.Name "set" p2) [a] [] q] [] pos) (tLenSetI K ta) := hK ▸ pe_lenSetI hc hg hm hg2 hm2 ha na
theorem fr_allK (h : X.K = K) (hc : X.calm = true) : CallR X (.builtin "all") (rAll K) := h ▸ cr_all hc
theorem fr_anyK (h : X.K = K) (hc : X.calm = true) : CallR X (.builtin "any") (rAny K) := h ▸ cr_any hc
theorem bools_only {H : Hp} : ∀ {bs : List Bool} {xs : List V}, DaAll K H xs (bs.map .bool) → xs = bs.map V.bl
  | [], _, .nil => rfl
  | b :: bs, _, .cons h t => by rw [bools_only t, dp_boolI h]; rfl
theorem cd_any {bs : List Bool} : CallD K (rAny K) [.list (bs.map .bool)] (.bool (bs.any id)) := fun H1 xs hx Q q => by
  cases hx with
  | cons h t =>
    cases t
    obtain ⟨a, ys, rfl, hl, ha⟩ := dp_lstI h
    rw [bools_only ha] at hl
    exact ⟨a, bs, rfl, hl, q _ H1 (Ex.refl H1) (.bl _)⟩
theorem cd_all {bs : List Bool} : CallD K (rAll K) [.list (bs.map .bool)] (.bool (bs.all id)) := fun H1 xs hx Q q => by
  cases hx with
  | cons h t =>
    cases t
    obtain ⟨a, ys, rfl, hl, ha⟩ := dp_lstI h
    rw [bools_only ha] at hl
    exact ⟨a, bs, rfl, hl, q _ H1 (Ex.refl H1) (.bl _)⟩
variable {σ : L2.St} {H : Hp} {te : TE}
theorem ed_lenSetT {ns : List Int} (h : EvD K te σ H (.tuple (ns.map .int))) (hz : ns.length ≤ 4000) : EvD K (tLenSetI K te) σ H (.int ((unlike ns : Nat) : Int)) := fun H1 e Q q =>
  h H1 e _ fun v H2 e2 dv => by
    obtain ⟨t, xs, rfl, ht, hA⟩ := dp_tupI dv
    rw [ints_only hA] at ht
    exact ⟨t, ns, rfl, Or.inr ht, hz, q _ H2 e2 (.int _)⟩
theorem ed_lenSetL {ns : List Int} (h : EvD K te σ H (.list (ns.map .int))) (hz : ns.length ≤ 4000) : EvD K (tLenSetI K te) σ H (.int ((unlike ns : Nat) : Int)) := fun H1 e Q q =>
  h H1 e _ fun v H2 e2 dv => by
    obtain ⟨t, xs, rfl, ht, hA⟩ := dp_lstI dv
    rw [ints_only hA] at ht
    exact ⟨t, ns, rfl, Or.inl ht, hz, q _ H2 e2 (.int _)⟩
end
end Mm

set_option Elab.async false
set_option linter.all false
set_option maxRecDepth 100000
set_option maxHeartbeats 4000000
namespace Mm
open PySem PySem.Spec PyProof.Rows L2 Evl

/-! ### two bars in a row that go on straight -/
theorem join_un {a b z : Int} (sh : Sheet a b) (h : 0 ≤ z ∧ z < a * b) {p q : Pt} (j : Join b z p q) : p ≠ q := by
  obtain ⟨f, _⟩ := bar_facts sh h
  rcases j with ⟨rfl, rfl⟩ | ⟨rfl, rfl⟩
  · intro e
    have := congrArg Prod.fst e
    omega
  · intro e
    have := congrArg Prod.fst e
    omega
theorem join_far {b z : Int} {p q : Pt} (j : Join b z p q) (ne : p ≠ q) : farP q (endsB b z) = p ∧ farP p (endsB b z) = q := by
  unfold farP
  rcases j with ⟨e1, e2⟩ | ⟨e1, e2⟩
  · rw [e1, e2]
    exact ⟨if_neg ne, if_pos rfl⟩
  · rw [e1, e2]
    exact ⟨if_pos rfl, if_neg (Ne.symm ne)⟩
theorem opp_straight {a b x y : Int} (sh : Sheet a b) (hx : 0 ≤ x ∧ x < a * b) (hy : 0 ≤ y ∧ y < a * b) {p q r : Pt} (j : Join b x p q) (k : Join b y q r) :
    oppP (endsB b (imin x y)) (endsB b (imax x y)) = (decide (p.1 + r.1 = 2 * q.1) && decide (p.2 + r.2 = 2 * q.2)) := by
  have n1 := join_un sh hx j
  have n2 := join_un sh hy k
  by_cases e : x = y
  · subst e
    have em : imin x x = x := by unfold imin; split <;> rfl
    have eM : imax x x = x := by unfold imax; split <;> rfl
    rw [em, eM]
    have f := (bar_facts sh hx).1
    have l : oppP (endsB b x) (endsB b x) = false := by
      unfold oppP
      rw [decide_eq_false (fun z => by have := congrArg Prod.fst z; omega)]
      rfl
    rw [l]
    symm
    have rp : r = p := by
      have a1 := (join_far j n1).1
      have a2 := (join_far k n2).2
      rw [← a1, ← a2]
    subst rp
    rw [Bool.and_eq_false_iff]
    by_cases c : r.1 + r.1 = 2 * q.1
    · right
      refine decide_eq_false fun c2 => n1 (Prod.ext (by omega) (by omega))
    · exact Or.inl (decide_eq_false c)
  · rw [opp_bars sh hx.1 hx.2 hy.1 hy.2 e]
    have rp : r ≠ p := fun z => by
      subst z
      have b1 := betw_join sh hx j
      have b2 := betw_join sh hy k
      rw [betw_swap] at b2
      rw [b1] at b2
      cases b2
      exact e rfl
    have hq : hitP q (endsB b x) (endsB b y) = (decide (p.1 + r.1 = 2 * q.1) && decide (p.2 + r.2 = 2 * q.2)) := by
      unfold hitP
      rw [(join_far j n1).1, (join_far k n2).2, decide_eq_true (p := (endsB b y).1 = q ∨ (endsB b y).2 = q) (k.elim (fun z => Or.inl z.1) fun z => Or.inr z.2), Bool.true_and]
    have hp : hitP p (endsB b x) (endsB b y) = false := by
      unfold hitP
      rw [decide_eq_false (p := (endsB b y).1 = p ∨ (endsB b y).2 = p)]
      · rfl
      · rcases k with ⟨k1, k2⟩ | ⟨k1, k2⟩
        · rw [k1, k2]
          rintro (z | z)
          · exact n1 z.symm
          · exact rp z
        · rw [k1, k2]
          rintro (z | z)
          · exact rp z
          · exact n1 z.symm
    unfold oppL
    rcases j with ⟨e1, e2⟩ | ⟨e1, e2⟩
    · rw [e1, e2, hp, hq, Bool.false_or]
    · rw [e1, e2, hp, hq, Bool.or_false]
theorem knotsZ_par {a b : Int} (sh : Sheet a b) {p : Pt} (h : p ∈ knotsZ a b) : (0 ≤ p.1 ∧ p.1 ≤ a) ∧ (0 ≤ p.2 ∧ p.2 ≤ b) ∧ (p.1 + p.2) % 2 = 0 := by
  have : pk p ∈ knotsD a b := by
    rw [knotsD_Z sh]
    exact List.mem_map.mpr ⟨p, h, rfl⟩
  obtain ⟨r, c, e, h1, h2, h3⟩ := knots_mem sh this
  have e : knd p.1 p.2 = knd r c := e
  unfold knd at e
  injection e with e
  injection e with e1 e2
  injection e2 with e2 _
  injection e1 with e1
  injection e2 with e2
  rw [e1, e2]
  exact ⟨⟨by omega, h1⟩, ⟨by omega, h2⟩, h3⟩
theorem join_of {a b z : Int} (sh : Sheet a b) {p q : Pt} (hp : p ∈ knotsZ a b) (hq : q ∈ knotsZ a b) (h : betw b p.1 p.2 q.1 q.2 = .int z) : Join b z p q := by
  obtain ⟨⟨a1, a2⟩, ⟨a3, a4⟩, a5⟩ := knotsZ_par sh hp
  obtain ⟨⟨c1, c2⟩, ⟨c3, c4⟩, c5⟩ := knotsZ_par sh hq
  have w1 := sh.w1
  unfold betw at h
  split at h
  · cases h
  · rename_i c
    injection h with h
    simp only [Bool.or_eq_true, Bool.not_eq_true', decide_eq_false_iff_not, not_or, Decidable.not_not] at c
    obtain ⟨d1, d2⟩ := c
    have hr : z / b = imin p.1 q.1 := by
      rw [← h, Int.add_ediv_of_dvd_left (Int.dvd_mul_left _ _), Int.mul_ediv_cancel _ (by omega), Int.ediv_eq_zero_of_lt (by unfold imin; split <;> omega) (by unfold imin iabs at *; split <;> split at d2 <;> omega)]
      omega
    have hc : z % b = imin p.2 q.2 := by
      rw [← h, Int.add_comm, Int.add_mul_emod_self_right, Int.emod_eq_of_lt (by unfold imin; split <;> omega) (by unfold imin iabs at *; split <;> split at d2 <;> omega)]
    have f1 : imin p.1 q.1 = p.1 ∧ q.1 = p.1 + 1 ∨ imin p.1 q.1 = q.1 ∧ p.1 = q.1 + 1 := by
      unfold imin iabs at *
      split <;> split at d1 <;> omega
    have f2 : imin p.2 q.2 = p.2 ∧ q.2 = p.2 + 1 ∨ imin p.2 q.2 = q.2 ∧ p.2 = q.2 + 1 := by
      unfold imin iabs at *
      split <;> split at d2 <;> omega
    unfold Join endsB endsP
    rw [hr, hc]
    rcases f1 with ⟨g1, g2⟩ | ⟨g1, g2⟩ <;> rcases f2 with ⟨g3, g4⟩ | ⟨g3, g4⟩ <;> rw [g1, g3]
    · left
      rw [if_pos (by omega)]
      exact ⟨rfl, Prod.ext (by simp only; omega) (by simp only; omega)⟩
    · left
      rw [if_neg (by omega)]
      exact ⟨Prod.ext rfl (by simp only; omega), Prod.ext (by simp only; omega) rfl⟩
    · right
      rw [if_neg (by omega)]
      exact ⟨Prod.ext rfl (by simp only; omega), Prod.ext (by simp only; omega) rfl⟩
    · right
      rw [if_pos (by omega)]
      exact ⟨rfl, Prod.ext (by simp only; omega) (by simp only; omega)⟩
end Mm

set_option Elab.async false
set_option linter.all false
set_option maxRecDepth 100000
set_option maxHeartbeats 4000000
namespace Mm
open PySem PySem.Spec PyProof.Rows L2 Evl
/-! ### what is a knot -/
def isKn (a b : Int) : PyData → Bool
  | .tuple [x, y] => inB 0 a x && inB 0 b y && decide ((intOf x + intOf y) % 2 = 0)
  | _ => false
def RIsKn : List PyData → PyData → Prop := fun ds d => ∃ a b x, Sheet a b ∧ ds = [shd a b, x] ∧ d = .bool (isKn a b x)
theorem inB_int {lo hi : Int} {x : PyData} (h : inB lo hi x = true) : ∃ i, x = .int i ∧ lo ≤ i ∧ i ≤ hi := by
  cases x <;> first | (simp [inB] at h; done) | skip
  rename_i i
  have : (decide (lo ≤ i) && decide (i ≤ hi)) = true := h
  simp at this
  exact ⟨i, rfl, this.1, this.2⟩
theorem mem_knotsZ {a b : Int} (sh : Sheet a b) {r c : Int} (h1 : 0 ≤ r ∧ r ≤ a) (h2 : 0 ≤ c ∧ c ≤ b) (h3 : (r + c) % 2 = 0) : (r, c) ∈ knotsZ a b := by
  unfold knotsZ knotsP knotsR
  refine List.mem_flatMap.mpr ⟨r.toNat, List.mem_range.mpr (by omega), List.mem_map.mpr ⟨c.toNat, List.mem_filter.mpr ⟨List.mem_range.mpr (by omega), decide_eq_true (by omega)⟩, ?_⟩⟩
  exact Prod.ext (by simp only; omega) (by simp only; omega)
theorem isKn_mem {a b : Int} (sh : Sheet a b) {d : PyData} (h : isKn a b d = true) : d = pk (prI d) ∧ prI d ∈ knotsZ a b := by
  unfold isKn at h
  split at h
  · rename_i x y
    simp only [Bool.and_eq_true, decide_eq_true_eq] at h
    obtain ⟨⟨h1, h2⟩, h3⟩ := h
    obtain ⟨r, rfl, r1, r2⟩ := inB_int h1
    obtain ⟨c, rfl, c1, c2⟩ := inB_int h2
    exact ⟨rfl, mem_knotsZ sh ⟨r1, r2⟩ ⟨c1, c2⟩ h3⟩
  · cases h
theorem knots_of {a b : Int} (sh : Sheet a b) : ∀ {ks : List PyData}, ks.all (isKn a b) = true → ks = (ks.map prI).map pk ∧ ∀ p ∈ ks.map prI, p ∈ knotsZ a b
  | [], _ => ⟨rfl, fun _ h => nomatch h⟩
  | d :: ks, h => by
    rw [List.all_cons, Bool.and_eq_true] at h
    obtain ⟨e, m⟩ := isKn_mem sh h.1
    obtain ⟨e2, m2⟩ := knots_of sh h.2
    refine ⟨?_, fun p hp => ?_⟩
    · rw [List.map_cons, List.map_cons, ← e, ← e2]
    · rcases List.mem_cons.mp hp with rfl | hp
      · exact m
      · exact m2 p hp
/-! ### passes -/
def tri : List Pt → List (Pt × Pt × Pt)
  | p :: q :: r :: t => (p, q, r) :: tri (q :: r :: t)
  | _ => []
def ptAt (t : List Pt) (k : Nat) : Pt := (t[k]?).getD (0, 0)
def ringP (t : List Pt) : List (Pt × Pt × Pt) := if ptAt t 0 = ptAt t (t.length - 1) then [(ptAt t (t.length - 2), ptAt t 0, ptAt t 1)] else []
def passP (t : List Pt) : List (Pt × Pt × Pt) := tri t ++ ringP t
def progD (b : Int) (x : Pt × Pt × Pt) : PyData := .tuple [pk x.2.1, betw b x.1.1 x.1.2 x.2.1.1 x.2.1.2, betw b x.2.1.1 x.2.1.2 x.2.2.1 x.2.2.2]
def lawD (x : Pt × Pt × Pt) : PyData := .tuple [pk x.1, pk x.2.1, pk x.2.2]
/-- a list of triples of three -/
def z3 : List PyData → List PyData → List PyData → List PyData
  | x :: xs, y :: ys, z :: zs => .tuple [x, y, z] :: z3 xs ys zs
  | _, _, _ => []
theorem z3_tri (b : Int) : ∀ t : List Pt, z3 ((t.map pk).drop 1).dropLast (along b t) ((along b t).drop 1) = (tri t).map (progD b)
  | [] => rfl
  | [_] => rfl
  | [_, _] => rfl
  | p :: q :: r :: t => by
    have ih := z3_tri b (q :: r :: t)
    show z3 ((q :: r :: t).map pk).dropLast (betw b p.1 p.2 q.1 q.2 :: along b (q :: r :: t)) (along b (q :: r :: t)) = progD b (p, q, r) :: (tri (q :: r :: t)).map (progD b)
    rw [← ih]
    show z3 (pk q :: ((r :: t).map pk).dropLast) (betw b p.1 p.2 q.1 q.2 :: along b (q :: r :: t)) (betw b q.1 q.2 r.1 r.2 :: along b (r :: t)) = _
    rfl
theorem tri_mem : ∀ {t : List Pt} {x : Pt × Pt × Pt}, x ∈ tri t → ∃ k, t[k]? = some x.1 ∧ t[k + 1]? = some x.2.1 ∧ t[k + 2]? = some x.2.2
  | [], _, h => nomatch h
  | [_], _, h => nomatch h
  | [_, _], _, h => nomatch h
  | p :: q :: r :: t, x, h => by
    rcases List.mem_cons.mp (show x ∈ (p, q, r) :: tri (q :: r :: t) from h) with rfl | h
    · exact ⟨0, rfl, rfl, rfl⟩
    · obtain ⟨k, k1, k2, k3⟩ := tri_mem h
      exact ⟨k + 1, k1, k2, k3⟩
theorem ptAt_some {t : List Pt} {k : Nat} (h : k < t.length) : t[k]? = some (ptAt t k) := by
  unfold ptAt
  rw [List.getElem?_eq_getElem h]
  rfl
theorem tri_len : ∀ t : List Pt, (tri t).length = t.length - 2
  | [] => rfl
  | [_] => rfl
  | [_, _] => rfl
  | p :: q :: r :: t => by
    show (tri (q :: r :: t)).length + 1 = _
    rw [tri_len (q :: r :: t)]
    simp
theorem tri_get : ∀ (t : List Pt) (k : Nat), k + 2 < t.length → (tri t)[k]? = some (ptAt t k, ptAt t (k + 1), ptAt t (k + 2))
  | [], _, h => by simp at h
  | [_], _, h => by simp at h
  | [_, _], _, h => absurd h (by simp)
  | p :: q :: r :: t, 0, _ => rfl
  | p :: q :: r :: t, k + 1, h => tri_get (q :: r :: t) k (by simp at h ⊢; omega)
/-- each pass: three knots in a row, or those about the first one of a ring -/
theorem pass_mem {t : List Pt} {x : Pt × Pt × Pt} (h2 : 2 ≤ t.length) (h : x ∈ passP t) :
    (∃ i, t[i]? = some x.1 ∧ t[i + 1]? = some x.2.1) ∧ (∃ i, t[i]? = some x.2.1 ∧ t[i + 1]? = some x.2.2) := by
  rcases List.mem_append.mp h with h | h
  · obtain ⟨k, k1, k2, k3⟩ := tri_mem h
    exact ⟨⟨k, k1, k2⟩, ⟨k + 1, k2, k3⟩⟩
  · unfold ringP at h
    split at h
    · rename_i e
      rw [List.mem_singleton] at h
      subst h
      refine ⟨⟨t.length - 2, ptAt_some (by omega), ?_⟩, ⟨0, ptAt_some (by omega), ptAt_some (by omega)⟩⟩
      rw [show t.length - 2 + 1 = t.length - 1 by omega, ptAt_some (by omega), e]
    · cases h
/-! ### what is wrong with an item -/
def inZ (zs : List Int) : PyData → Bool
  | .int z => decide (z ∈ zs)
  | _ => false
def numsOf (ds : List PyData) : List Int := ds.map intOf
def wordT (a b : Int) (zs used : List Int) (t : List Pt) : Option Str :=
  if (along b t).all (inZ zs) = true then
    if (decide (((unlike (numsOf (along b t)) : Nat) : Int) < ((numsOf (along b t)).length : Nat)) || (numsOf (along b t)).any fun n => decide (n ∈ used)) = true then some "twice"
    else if ((passP t).any fun x => badP a b zs x.1 x.2.1 x.2.2) = true then some "straight" else none
  else some "bar"
def wordD (a b : Int) (zs used : List Int) : PyData → Option Str
  | .tuple ks => if (decide (ks.length < 2) || !ks.all (isKn a b)) = true then some "twine" else wordT a b zs used (ks.map prI)
  | _ => some "twine"
def optS : Option Str → PyData
  | some w => .str w
  | none => .none
def barsOf (b : Int) : PyData → List Int
  | .tuple ks => numsOf (along b (ks.map prI))
  | _ => []
def faultFrom (a b : Int) (zs : List Int) : Nat → List Int → List PyData → PyData
  | k, used, e :: es => match wordD a b zs used e with
    | some w => .tuple [.int k, .str w]
    | none => faultFrom a b zs (k + 1) (used ++ barsOf b e) es
  | _, used, [] => if (used.length : Int) < (zs.length : Nat) then .tuple [.none, .str "lacking"] else .none
def faultD (a b : Int) (zs : List Int) : PyData → PyData
  | .tuple es => faultFrom a b zs 0 [] es
  | _ => .tuple [.none, .str "plan"]
/-- no longer than can be walked -/
def Short (x : PyData) : Prop := ∀ ks, x = .tuple ks → ks.length ≤ 400
def RWord : List PyData → PyData → Prop := fun ds d => ∃ a b zs used x, Sheet a b ∧ Tear a b zs ∧ (∀ u ∈ used, 0 ≤ u ∧ u < a * b) ∧ used.length ≤ 90000 ∧ Short x ∧ ds = [shd a b, tearD zs, x, .list (used.map .int)] ∧ d = optS (wordD a b zs used x)
def RFault : List PyData → PyData → Prop := fun ds d => ∃ a b zs x, Sheet a b ∧ Tear a b zs ∧ (∀ es, x = .tuple es → es.length ≤ 200 ∧ ∀ e ∈ es, Short e) ∧ ds = [shd a b, tearD zs, x] ∧ d = faultD a b zs x
def RBadPass : List PyData → PyData → Prop := fun ds d => ∃ a b zs q x y, Sheet a b ∧ Tear a b zs ∧ q ∈ knotsZ a b ∧ (0 ≤ x ∧ x < a * b) ∧ (0 ≤ y ∧ y < a * b) ∧ ds = [shd a b, tearD zs, pk q, .int x, .int y] ∧
  d = .bool (oppP (endsB b (imin x y)) (endsB b (imax x y)) && decide (((lackN a b zs q : Nat) : Int) > 2))
def RPasses : List PyData → PyData → Prop := fun ds d => ∃ a b t, Sheet a b ∧ 2 ≤ t.length ∧ t.length ≤ 400 ∧ (∀ p ∈ t, InP p) ∧ ds = [twD t, .tuple (along b t)] ∧ d = .list ((passP t).map (progD b))
theorem pass_bad {a b : Int} {zs : List Int} (sh : Sheet a b) {t : List Pt} (ht : 2 ≤ t.length) (kn : ∀ p ∈ t, p ∈ knotsZ a b) (te : Tear a b zs) (al : (along b t).all (inZ zs) = true) {x : Pt × Pt × Pt} (hx : x ∈ passP t) :
    x.2.1 ∈ knotsZ a b ∧ ∃ u v, (0 ≤ u ∧ u < a * b) ∧ (0 ≤ v ∧ v < a * b) ∧ progD b x = .tuple [pk x.2.1, .int u, .int v] ∧
      (oppP (endsB b (imin u v)) (endsB b (imax u v)) && decide (((lackN a b zs x.2.1 : Nat) : Int) > 2)) = badP a b zs x.1 x.2.1 x.2.2 := by
  obtain ⟨⟨i, i1, i2⟩, ⟨j, j1, j2⟩⟩ := pass_mem ht hx
  have one : ∀ {k : Nat} {p q : Pt}, t[k]? = some p → t[k + 1]? = some q → ∃ z, betw b p.1 p.2 q.1 q.2 = .int z ∧ (0 ≤ z ∧ z < a * b) ∧ Join b z p q := fun {k p q} h1 h2 => by
    have m := List.mem_of_getElem? (along_get b t k p q h1 h2)
    have z := List.all_eq_true.mp al _ m
    cases hb : betw b p.1 p.2 q.1 q.2 <;> rw [hb] at z <;> first | (simp [inZ] at z; done) | skip
    rename_i n
    exact ⟨n, rfl, te.inn n (of_decide_eq_true z), join_of sh (kn p (List.mem_of_getElem? h1)) (kn q (List.mem_of_getElem? h2)) hb⟩
  obtain ⟨u, u1, u2, u3⟩ := one i1 i2
  obtain ⟨v, v1, v2, v3⟩ := one j1 j2
  refine ⟨kn _ (List.mem_of_getElem? i2), u, v, u2, v2, ?_, ?_⟩
  · unfold progD
    rw [u1, v1]
  · unfold badP
    rw [opp_straight sh u2 v2 u3 v3]
end Mm

set_option Elab.async false
set_option linter.all false
set_option maxRecDepth 100000
set_option maxHeartbeats 4000000
namespace Mm
open PySem PySem.Spec PyProof.Rows L2 Evl
section
variable {K : PySem.W.Frag} {H H' : Hp} {σ : L2.St} {ta tb tc te : TE} {tr : TA} {a b c d : PyData} {ds es as bs cs : List PyData} {D : Ends} {u z : TS} {g : TG}
theorem trips_data : ∀ {xs ys zs : List V} {as bs cs : List PyData} {ts : List Addr}, DaAll K H xs as → DaAll K H ys bs → DaAll K H zs cs → Paired (fun (t : Addr) (q : List V) => H t = some (.tup q)) ts (trips xs ys zs) → DaAll K H (ts.map V.ref) (z3 as bs cs)
  | _, _, _, _, _, _, [], .nil, _, _, _ => by simp [z3]; exact .nil
  | _, _, _, _, _, _, [], .cons _ _, .nil, _, _ => by simp [z3]; exact .nil
  | _, _, _, _, _, _, [], .cons _ _, .cons _ _, .nil, _ => by simp [z3]; exact .nil
  | _, _, _, _, _, _, t :: ts, .cons h1 r1, .cons h2 r2, .cons h3 r3, .cons p ps => .cons (.tup (SqT.of p) (.cons h1 (.cons h2 (.cons h3 .nil)))) (trips_data r1 r2 r3 ps)
/-- list(zip(a, b, c)) on data -/
theorem en_zip3 (h : EvDs K tr σ H [.tuple as, .tuple bs, .tuple cs]) (l2 : as.length ≤ bs.length) (l3 : as.length ≤ cs.length) : EvN K (tListZip3 K tr) σ H (z3 as bs cs) := fun H1 e Q q =>
  h H1 e _ fun vs H2 e2 dv => by
    cases dv with
    | cons d1 dv =>
      cases dv with
      | cons d2 dv =>
        cases dv with
        | cons d3 dv =>
          cases dv
          obtain ⟨p1, xs, rfl, hx, hA⟩ := dp_tupI d1
          obtain ⟨p2, ys, rfl, hy, hB⟩ := dp_tupI d2
          obtain ⟨p3, zs, rfl, hz, hC⟩ := dp_tupI d3
          have n1 := dps_len hA
          have n2 := dps_len hB
          have n3 := dps_len hC
          refine ⟨p1, p2, p3, xs, ys, zs, rfl, hx, hy, hz, by omega, by omega, fun H' p ts kp np nt hp hpd => ?_⟩
          have ex : Ex H2 H' := fun b o e => kp b o e
          exact q p _ H' (fresh_back e2 np) (e2.trans ex) hp (trips_data (dpsm ex hA) (dpsm ex hB) (dpsm ex hC) hpd)
/-- for i, x in enumerate(name) -/
theorem sd_enumW {i j k0 : Nat} {v : V} (h : σ[k0]? = some (some v)) (dv0 : Da K H v (.tuple ds)) (W : Nat → L2.St → Hp → Prop) (h0 : W 0 σ H)
    (hl : ∀ k σ' H', W k σ' H' → Da K H' v (.tuple ds))
    (hs : ∀ k e x σ' H' H2, ds[k]? = some e → W k σ' H' → Ex H' H2 → Da K H2 x e → u { D with nx := W (k + 1), ct := W (k + 1), bk := D.nx } ((σ'.set i (some (.int (k : Int)))).set j (some x)) H2)
    (hd : ∀ σ' H', W ds.length σ' H' → D.nx σ' H') : tFor (iEnumU K (tCons (tVar k0) tNil)) (gTup K 2 (gCons (gName i) (gCons (gName j) gNil))) u D σ H := by
  obtain ⟨t, xs, rfl, hx, hA⟩ := dp_tupI dv0
  refine ⟨_, h, t, xs, rfl, hx, fun k m σ' H' => m = ds.length - k ∧ k ≤ ds.length ∧ W k σ' H', ⟨ds.length, rfl, Nat.zero_le _, h0⟩, fun k m σ' H' hw => ?_⟩
  obtain ⟨rfl, le, w⟩ := hw
  obtain ⟨t', xs', e2, hx', hA'⟩ := dp_tupI (hl k σ' H' w)
  cases e2
  have len := dps_len hA'
  by_cases lt : k < ds.length
  · have lt' : k < xs'.length := by omega
    refine Or.inr ⟨⟨xs', xs'[k], hx', List.getElem?_eq_getElem lt'⟩, fun σ2 H2 => W (k + 1) σ2 H2, fun σ2 H2 w2 => ⟨ds.length - (k + 1), by omega, rfl, lt, w2⟩, ?_⟩
    rintro _ _ ⟨T, x, rfl, nT, rfl, hxs⟩
    obtain ⟨dd, e3, dx⟩ := dps_got hA' (hxs xs' hx')
    have ex2 : Ex H' (upd H' T (.tup [.int (k : Int), x])) := Ex.new nT
    exact ⟨T, _, rfl, SqT.of upd_same, rfl, _, _, rfl, _, _, rfl, rfl, hs k dd x σ' H' _ e3 w ex2 (dpm ex2 dx)⟩
  · have : k = ds.length := by omega
    subst this
    exact Or.inl ⟨⟨xs', hx', by omega⟩, hd σ' H' w⟩
theorem qd_enumW {i j k0 : Nat} {v : V} (h : σ[k0]? = some (some v)) (dv0 : Da K H v (.tuple ds)) (W : Nat → L2.St → Hp → Prop) (h0 : W 0 σ H)
    (hl : ∀ k σ' H', W k σ' H' → Da K H' v (.tuple ds))
    (hs : ∀ k e x σ' H' H2, ds[k]? = some e → W k σ' H' → Ex H' H2 → Da K H2 x e → u { D with nx := W (k + 1), ct := W (k + 1), bk := z D } ((σ'.set i (some (.int (k : Int)))).set j (some x)) H2)
    (hd : ∀ σ' H', W ds.length σ' H' → z D σ' H') : tSeq (tFor (iEnumU K (tCons (tVar k0) tNil)) (gTup K 2 (gCons (gName i) (gCons (gName j) gNil))) u) z D σ H :=
  sd_enumW (D := { D with nx := z D }) h dv0 W h0 hl hs hd
theorem sd_extT {l : Addr} {xs : List V} {k : Nat} (hk : σ[k]? = some (some (.ref l))) (hl : H l = some (.lst xs)) (h : EvD K te σ H (.tuple ds)) (hz : xs.length + ds.length ≤ 100000)
    (n : ∀ vs H1, Ex H H1 → DaAll K H1 vs ds → D.nx σ (upd H1 l (.lst (xs ++ vs)))) : tDrop (tBM K "list" (rExtT K) (tVar k) (tCons te tNil)) D σ H :=
  ⟨.ref l, hk, Or.inl ⟨rfl, xs, sq_of hl⟩, h H (Ex.refl H) _ fun p H2 e2 dp => by
    obtain ⟨t, vs, rfl, hp, dv⟩ := dp_tupI dp
    exact ⟨l, t, xs, vs, rfl, rfl, e2 l _ hl, hp, sz_of (by rw [dps_len dv]; exact hz), n vs H2 e2 dv⟩⟩
theorem ex_upd {H0 : Hp} {l : Addr} {o : HO} (e : Ex H0 H) (n : H0 l = none) : Ex H0 (upd H l o) := fun a u h => by
  by_cases z : a = l
  · subst z
    rw [n] at h
    cases h
  · rw [upd_ne z]
    exact e a u h
theorem da_ints {l : Addr} {ns : List Int} (h : H l = some (.lst (ns.map V.int))) : Da K H (.ref l) (.list (ns.map .int)) := by
  refine .lst (SqL.of h) ?_
  clear h
  induction ns with
  | nil => exact .nil
  | cons n ns ih => exact .cons (.int _) ih
theorem cutD_mid (ds : List PyData) : cutD ds (some 1) (some (-1)) = (ds.drop 1).dropLast := by
  unfold cutD
  rw [show HT.sIx ds.length 0 (some 1) = min 1 ds.length from HT.sIx_nat _ _ 1]
  have e : HT.sIx ds.length ds.length (some (-1)) = ds.length - 1 := by
    show (if (-1 : Int) < 0 then ((-1 : Int) + (ds.length : Int)).toNat else min (-1 : Int).toNat ds.length) = ds.length - 1
    rw [if_pos (by decide)]
    omega
  rw [e, List.dropLast_eq_take, List.length_drop]
  cases ds with
  | nil => rfl
  | cons d ds =>
    rw [Nat.min_eq_left (by simp)]
theorem tame_pt {p : Pt} (h : InP p) : Tame 1 50 (pk p) := by
  obtain ⟨⟨h1, h2⟩, h3, h4⟩ := h
  exact tame_knd (by omega) (by omega)
theorem atI_end {α : Type} {xs : List α} {v : α} (h : 1 ≤ xs.length) (e : xs[xs.length - 1]? = some v) : atI xs (-1) = some v := by
  obtain ⟨l, x, rfl⟩ : ∃ l x, xs = l ++ [x] := ⟨xs.dropLast, xs.getLast (by intro z; rw [z] at h; simp at h), (List.dropLast_concat_getLast _).symm⟩
  rw [atI_last]
  rw [List.length_append, List.length_singleton, Nat.add_sub_cancel, List.getElem?_append_right (Nat.le_refl _), Nat.sub_self] at e
  exact e
theorem betw_flat (b p1 p2 q1 q2 : Int) : flat (betw b p1 p2 q1 q2) = true := by
  unfold betw
  split <;> simp [flat]
theorem flat_pk (p : Pt) : flat (pk p) = true := flat_knd
theorem flat_progD (b : Int) (x : Pt × Pt × Pt) : flat (progD b x) = true := by
  simp only [progD, flat, flats, flat_pk, betw_flat, Bool.and_self]
theorem flat_lawD (x : Pt × Pt × Pt) : flat (lawD x) = true := by
  simp only [lawD, flat, flats, flat_pk, Bool.and_self]
theorem flats_mapF {α : Type} {f : α → PyData} (h : ∀ x, flat (f x) = true) (l : List α) : flats (l.map f) = true := flats_all fun d hd => by
  obtain ⟨x, _, rfl⟩ := List.mem_map.mp hd
  exact h x
theorem any_inZ (zs : List Int) {e : PyData} (h : e = .none ∨ ∃ z, e = .int z) : ((zs.map .int).any fun z => PyData.eqv z e) = inZ zs e := by
  rcases h with rfl | ⟨z, rfl⟩
  · induction zs with
    | nil => rfl
    | cons y ys ih =>
      rw [List.map_cons, List.any_cons, ih]
      rfl
  · induction zs with
    | nil => rfl
    | cons y ys ih =>
      rw [List.map_cons, List.any_cons, ih, eqv_int]
      show (decide (y = z) || decide (z ∈ ys)) = decide (z ∈ y :: ys)
      by_cases h : z = y
      · subst h
        simp
      · have h2 : ¬ y = z := fun e => h e.symm
        simp [h, h2]
theorem along_shape {b : Int} : ∀ {t : List Pt} {e : PyData}, e ∈ along b t → e = .none ∨ ∃ z, e = .int z
  | [], _, h => nomatch h
  | [_], _, h => nomatch h
  | p :: q :: r, e, h => by
    rcases List.mem_cons.mp (show e ∈ betw b p.1 p.2 q.1 q.2 :: along b (q :: r) from h) with rfl | h
    · unfold betw
      split
      · exact Or.inl rfl
      · exact Or.inr ⟨_, rfl⟩
    · exact along_shape h
theorem nums_all {zs : List Int} : ∀ {ds : List PyData}, ds.all (inZ zs) = true → ds = (numsOf ds).map .int ∧ ∀ n ∈ numsOf ds, n ∈ zs
  | [], _ => ⟨rfl, fun _ h => nomatch h⟩
  | d :: ds, h => by
    rw [List.all_cons, Bool.and_eq_true] at h
    obtain ⟨e, m⟩ := nums_all h.2
    obtain ⟨z, rfl, hz⟩ : ∃ z, d = .int z ∧ z ∈ zs := by
      cases d <;> first | (simp [inZ] at h; done) | skip
      rename_i z
      exact ⟨z, rfl, of_decide_eq_true h.1⟩
    refine ⟨?_, fun n hn => ?_⟩
    · show PyData.int z :: ds = .int z :: (numsOf ds).map .int
      rw [← e]
    · rcases List.mem_cons.mp (show n ∈ z :: numsOf ds from hn) with rfl | hn
      · exact hz
      · exact m n hn
def badE (a b : Int) (zs : List Int) : PyData → Bool
  | .tuple [k, .int u, .int v] => oppP (endsB b (imin u v)) (endsB b (imax u v)) && decide (((lackN a b zs (prI k) : Nat) : Int) > 2)
  | _ => false
theorem passP_len {t : List Pt} (h : 1 ≤ t.length) : (passP t).length ≤ t.length := by
  unfold passP ringP
  rw [List.length_append, tri_len]
  split
  · rw [List.length_singleton]
    omega
  · rw [List.length_nil]
    omega
theorem faultFrom_some {a b : Int} {zs used : List Int} {k : Nat} {e : PyData} {es : List PyData} {w : Str} (h : wordD a b zs used e = some w) : faultFrom a b zs k used (e :: es) = .tuple [.int k, .str w] := by
  unfold faultFrom
  rw [h]
theorem faultFrom_none {a b : Int} {zs used : List Int} {k : Nat} {e : PyData} {es : List PyData} (h : wordD a b zs used e = none) : faultFrom a b zs k used (e :: es) = faultFrom a b zs (k + 1) (used ++ barsOf b e) es := by
  conv => lhs; unfold faultFrom
  rw [h]
/-- what an item that nothing is wrong with is -/
theorem word_none {a b : Int} {zs used : List Int} (sh : Sheet a b) (te : Tear a b zs) {e : PyData} (h : wordD a b zs used e = none) :
    ∃ ks t, e = .tuple ks ∧ ks = t.map pk ∧ (∀ p ∈ t, p ∈ knotsZ a b) ∧ 2 ≤ t.length ∧ along b t = (barsOf b e).map .int ∧ ∀ n ∈ barsOf b e, n ∈ zs := by
  unfold wordD at h
  split at h
  · rename_i ks
    split at h
    · cases h
    · rename_i c
      have c1 : 2 ≤ ks.length ∧ ks.all (isKn a b) = true := by
        simp only [Bool.or_eq_true, decide_eq_true_eq, Bool.not_eq_true', not_or] at c
        exact ⟨by omega, by simpa using c.2⟩
      obtain ⟨ek, kn⟩ := knots_of sh c1.2
      unfold wordT at h
      split at h
      · rename_i c3
        obtain ⟨en, nz⟩ := nums_all c3
        exact ⟨ks, ks.map prI, rfl, ek, kn, by rw [List.length_map]; exact c1.1, en, nz⟩
      · cases h
  · cases h
end
end Mm

set_option Elab.async false
set_option linter.all false
set_option maxRecDepth 100000
set_option maxHeartbeats 4000000
namespace Mm
open PySem PySem.Spec PyProof.Rows L2 Evl
def spWord (K : PySem.W.Frag) : Sp := fun vs H Q _ => ∃ (u : Addr) (v1 v2 v3 : V) (a b : Int) (zs used : List Int) (x : PyData), vs = [v1, v2, v3, .ref u] ∧ Sheet a b ∧ Tear a b zs ∧ (∀ n ∈ used, 0 ≤ n ∧ n < a * b) ∧ used.length ≤ 90000 ∧ Short x ∧
  Da K H v1 (shd a b) ∧ Da K H v2 (tearD zs) ∧ Da K H v3 x ∧ H u = some (.lst (used.map V.int)) ∧
  ∀ v H', (∀ H1, Ex H1 H → H1 u = none → Ex H1 H') → Da K H' v (optS (wordD a b zs used x)) →
    H' u = some (.lst ((match wordD a b zs used x with | none => used ++ barsOf b x | some _ => used).map V.int)) → Q v H'
section
variable {K : PySem.W.Frag} {H H' : Hp} {σ : L2.St} {ta tb tc te : TE} {tr : TA} {a b c d : PyData} {ds es as bs cs : List PyData} {D : Ends} {u z : TS} {g : TG}
theorem eqv_listNil : ∀ ds : List PyData, PyData.eqv (.list ds) (.list []) = ds.isEmpty
  | [] => by simp [PyData.eqv, PyData.eqvAll]
  | _ :: _ => by simp [PyData.eqv, PyData.eqvAll]
theorem opD_neNil {n w : Nat} (h : TameL n w ds) (hn : n ≤ 30) : OpD K (rNeA K) (.list ds) (.list []) (.bool (!ds.isEmpty)) := by
  have := opD_ne (K := K) (tame_list h) (tame_list (tameL_nil (n := 0) (w := 0))) (by omega) (by decide)
  rwa [eqv_listNil] at this
theorem qd_extL {l p : Addr} {xs vs : List V} {k m : Nat} (hk : σ[k]? = some (some (.ref l))) (hl : H l = some (.lst xs)) (hm : σ[m]? = some (some (.ref p))) (hp : H p = some (.lst vs)) (hz : xs.length + vs.length ≤ 100000)
    (n : z D σ (upd H l (.lst (xs ++ vs)))) : tSeq (tDrop (tBM K "list" rExtend (tVar k) (tCons (tVar m) tNil))) z D σ H :=
  ⟨.ref l, hk, Or.inl ⟨rfl, xs, sq_of hl⟩, ⟨.ref p, hm, l, p, xs, vs, rfl, rfl, hl, hp, sz_of hz, n⟩⟩
theorem ups_map {n : Nat} (l : List PyData) (hn : l.length = n) : ((ups 1 n).map fun d => (l[(intOf d).toNat - 1]?).getD .none) = l := by
  refine List.ext_getElem? fun k => ?_
  rw [List.getElem?_map]
  by_cases lt : k < n
  · rw [ups_get lt]
    have e : ((1 : Int) + (k : Int)).toNat - 1 = k := by omega
    show some ((l[((1 : Int) + (k : Int)).toNat - 1]?).getD .none) = _
    rw [e, List.getElem?_eq_getElem (by omega)]
    rfl
  · rw [List.getElem?_eq_none (by rw [ups_len]; omega), List.getElem?_eq_none (by omega)]
    rfl
theorem ups_mem {lo : Int} {n : Nat} {d : PyData} (h : d ∈ ups lo n) : ∃ i : Nat, i < n ∧ d = .int (lo + (i : Int)) := by
  unfold ups at h
  obtain ⟨i, hi, e⟩ := List.mem_map.mp h
  exact ⟨i, List.mem_range.mp hi, e.symm⟩
theorem ones_map (ks : List PyData) : (ks.map fun _ => PyData.int 1) = (ks.map fun _ => (1 : Int)).map .int := by
  rw [List.map_map]
  rfl
theorem filter_none {α : Type} (f : α → Bool) : ∀ ks : List α, (ks.filter fun d => !f d).isEmpty = ks.all f
  | [] => rfl
  | d :: ks => by
    rw [List.filter_cons, List.all_cons]
    cases f d with
    | true => exact filter_none f ks
    | false => rfl
theorem filter_some {α : Type} (f : α → Bool) : ∀ ks : List α, (ks.filter f).isEmpty = !ks.any f
  | [] => rfl
  | d :: ks => by
    rw [List.filter_cons, List.any_cons]
    cases f d with
    | true => rfl
    | false => exact filter_some f ks
theorem isEmpty_map {α β : Type} (f : α → β) : ∀ ks : List α, (ks.map f).isEmpty = ks.isEmpty
  | [] => rfl
  | _ :: _ => rfl
theorem inZ_nums (used : List Int) : ∀ ns : List Int, (ns.map PyData.int).any (inZ used) = ns.any fun n => decide (n ∈ used)
  | [] => rfl
  | n :: ns => by
    rw [List.map_cons, List.any_cons, List.any_cons, inZ_nums used ns]
    rfl
def badL (a b : Int) (zs : List Int) : PyData → Bool
  | .tuple [p, q, r] => badP a b zs (prI p) (prI q) (prI r)
  | _ => false
theorem badL_lawD (a b : Int) (zs : List Int) (x : Pt × Pt × Pt) : badL a b zs (lawD x) = badP a b zs x.1 x.2.1 x.2.2 := rfl
theorem badL_any (a b : Int) (zs : List Int) : ∀ l : List (Pt × Pt × Pt), (l.map lawD).any (badL a b zs) = l.any fun x => badP a b zs x.1 x.2.1 x.2.2
  | [] => rfl
  | x :: l => by
    rw [List.map_cons, List.any_cons, List.any_cons, badL_any a b zs l, badL_lawD]
theorem any_nots {α : Type} (f : α → Bool) : ∀ ks : List α, (ks.any fun d => !f d) = !ks.all f
  | [] => rfl
  | d :: ks => by
    rw [List.any_cons, List.all_cons, any_nots f ks, Bool.not_and]
theorem atI_two' {α : Type} {xs : List α} {v : α} (h : 2 ≤ xs.length) (e : xs[xs.length - 2]? = some v) : atI xs (-2) = some v := by
  unfold atI
  have e1 : ixN xs.length (-2) = some (xs.length - 2) := by
    unfold ixN
    rw [if_neg (by omega), if_pos (by omega)]
    congr 1
    omega
  rw [e1]
  exact e
end
end Mm

set_option Elab.async false
set_option linter.all false
set_option maxRecDepth 100000
set_option maxHeartbeats 4000000
namespace Mm
open PySem PySem.Spec PyProof.Rows L2 Evl
/-! ### rings about places in a slanting row -/
def sevens : List (Int × Int) := [(8, 8), (6, 5), (4, 4), (5, 8), (3, 3), (2, 4), (7, 3)]
def ringL (r c way : Int) (n : Nat) : List Pt := ((List.range (n + 1)).map fun k : Nat => (r - 1 + (k : Int), c + way * (k : Int))) ++ ((List.range (n + 1)).map fun k : Nat => (r + ((n : Int) + (k : Nat) * (-1)), c - way + way * ((n : Int) + (k : Nat) * (-1))))
/-- the bar ahead of each knot, the first one's from the last one -/
def ownB (b : Int) (t : List Pt) : List PyData := (List.range t.length).map fun k => let p := ptAt t (if k = 0 then t.length - 1 else k - 1); let q := ptAt t k; betw b p.1 p.2 q.1 q.2
def isI (lo hi : Int) : PyData → Bool
  | .int z => decide (lo ≤ z) && decide (z < hi)
  | _ => false
def noDup : List Int → Bool
  | [] => true
  | z :: zs => !zs.contains z && noDup zs
theorem noDup_nd : ∀ {zs : List Int}, noDup zs = true → zs.Nodup
  | [], _ => .nil
  | z :: zs, h => by
    have h' : (!zs.contains z) = true ∧ noDup zs = true := by simpa [noDup] using h
    refine List.nodup_cons.mpr ⟨fun m => ?_, noDup_nd h'.2⟩
    have := h'.1
    simp [m] at this
def ringOk (a b : Int) (t : List Pt) : Bool := decide (2 ≤ t.length) && decide (t.length ≤ 8) && (t.all fun p => (decide (0 ≤ p.1) && decide (p.1 < 64)) && (decide (0 ≤ p.2) && decide (p.2 < 64))) && (ownB b t).all (isI 0 (a * b)) && noDup (numsOf (ownB b t))
def fits (a b r c way : Int) (n : Nat) : Bool := (decide (1 ≤ r) && decide (r < a)) && (decide (1 ≤ c) && decide (c < b)) && decide ((r + c) % 2 = 1) && (decide (1 ≤ c + way * ((n : Int) - 1)) && decide (c + way * ((n : Int) - 1) < b)) && decide (r + (n : Int) - 1 < a)
theorem ring_all : (sevens.all fun s => [(1 : Int), -1].all fun way => [1, 2, 3].all fun n : Nat => (List.range 8).all fun r => (List.range 8).all fun c => !fits s.1 s.2 (r : Int) (c : Int) way n || ringOk s.1 s.2 (ringL (r : Int) (c : Int) way n)) = true := by decide +kernel
theorem seven_sheet {a b : Int} (h : (a, b) ∈ sevens) : Sheet a b ∧ 2 ≤ a ∧ 3 ≤ b := by
  simp only [sevens, List.mem_cons, List.mem_nil_iff, or_false, Prod.mk.injEq] at h
  rcases h with ⟨rfl, rfl⟩ | ⟨rfl, rfl⟩ | ⟨rfl, rfl⟩ | ⟨rfl, rfl⟩ | ⟨rfl, rfl⟩ | ⟨rfl, rfl⟩ | ⟨rfl, rfl⟩ <;> exact ⟨⟨by decide, by decide, by decide, by decide⟩, by decide, by decide⟩
theorem ring_ok {a b r c way : Int} {n : Nat} (hs : (a, b) ∈ sevens) (hw : way = 1 ∨ way = -1) (hn : n = 1 ∨ n = 2 ∨ n = 3) (hf : fits a b r c way n = true) : ringOk a b (ringL r c way n) = true := by
  obtain ⟨sh, _, _⟩ := seven_sheet hs
  have s1 := sh.d8
  have s2 := sh.w8
  have hf' := hf
  unfold fits at hf'
  simp only [Bool.and_eq_true, decide_eq_true_eq] at hf'
  obtain ⟨⟨⟨⟨⟨r1, r2⟩, c1, c2⟩, _⟩, _⟩, _⟩ := hf'
  have k := List.all_eq_true.mp ring_all (a, b) hs
  have k := List.all_eq_true.mp k way (by rcases hw with rfl | rfl <;> simp)
  have k := List.all_eq_true.mp k n (by rcases hn with rfl | rfl | rfl <;> simp)
  have k := List.all_eq_true.mp k r.toNat (List.mem_range.mpr (by omega))
  have k := List.all_eq_true.mp k c.toNat (List.mem_range.mpr (by omega))
  rw [show ((r.toNat : Nat) : Int) = r by omega, show ((c.toNat : Nat) : Int) = c by omega, hf] at k
  simpa using k
/-- what a ring is, as the law uses it -/
structure Ring (a b : Int) (t : List Pt) : Prop where
  l2 : 2 ≤ t.length
  l8 : t.length ≤ 8
  inp : ∀ p ∈ t, InP p
  own : ownB b t = (numsOf (ownB b t)).map .int
  inn : ∀ n ∈ numsOf (ownB b t), 0 ≤ n ∧ n < a * b
  nd : (numsOf (ownB b t)).Nodup
theorem isI_all {hi : Int} : ∀ {ds : List PyData}, ds.all (isI 0 hi) = true → ds = (numsOf ds).map .int ∧ ∀ n ∈ numsOf ds, 0 ≤ n ∧ n < hi
  | [], _ => ⟨rfl, fun _ h => nomatch h⟩
  | d :: ds, h => by
    rw [List.all_cons, Bool.and_eq_true] at h
    obtain ⟨e, m⟩ := isI_all h.2
    obtain ⟨z, rfl, hz⟩ : ∃ z, d = .int z ∧ 0 ≤ z ∧ z < hi := by
      cases d <;> first | (simp [isI] at h; done) | skip
      rename_i z
      have : (decide (0 ≤ z) && decide (z < hi)) = true := h.1
      simp at this
      exact ⟨z, rfl, this⟩
    refine ⟨?_, fun n hn => ?_⟩
    · show PyData.int z :: ds = .int z :: (numsOf ds).map .int
      rw [← e]
    · rcases List.mem_cons.mp (show n ∈ z :: numsOf ds from hn) with rfl | hn
      · exact hz
      · exact m n hn
theorem ring_of {a b : Int} {t : List Pt} (h : ringOk a b t = true) : Ring a b t := by
  unfold ringOk at h
  simp only [Bool.and_eq_true, decide_eq_true_eq] at h
  obtain ⟨⟨⟨⟨h1, h2⟩, h3⟩, h4⟩, h5⟩ := h
  obtain ⟨e, m⟩ := isI_all h4
  refine ⟨h1, h2, fun p hp => ?_, e, m, noDup_nd h5⟩
  have := List.all_eq_true.mp h3 p hp
  simp only [Bool.and_eq_true, decide_eq_true_eq] at this
  exact this
def spRing (K : PySem.W.Frag) : Sp := fun vs H Q _ => ∃ (D L : Addr) (ns : List Int) (B : Nat) (v : V) (a b : Int), vs = [.ref D, v] ∧ Dk H D L ns B ∧ B < 800000000 ∧ (a, b) ∈ sevens ∧ Da K H v (shd a b) ∧
  ∀ l xs t H', Ey H H' → Dk H' D L ns (B + 3) → Ring a b t → H' l = some (.lst xs) → DaAll K H' xs (t.map pk) → Q (.ref l) H'
section
variable {K : PySem.W.Frag} {H H' : Hp} {σ : L2.St} {ta tb tc te : TE} {tr : TA} {a b c d : PyData} {ds es as bs cs : List PyData} {D : Ends} {u z : TS} {g : TG}
theorem it_down {n : Int} {ta : TA} (h : EvDs K ta σ H [.int n, .int (-1), .int (-1)]) (hn : 0 ≤ n ∧ n ≤ 10000) : ItD K (iRng3 ta) σ H ((List.range (n + 1).toNat).map fun k : Nat => .int (n + (k : Nat) * (-1))) := fun H1 e R r => h H1 e _ fun vs H2 e2 dv => by
  cases dv with
  | cons h1 hx =>
    cases hx with
    | cons h2 hx =>
      cases hx with
      | cons h3 hx =>
        cases hx
        cases h1
        cases h2
        cases h3
        have en : (n - -1).toNat = (n + 1).toNat := by omega
        refine ⟨n, -1, -1, (n + 1).toNat, rfl, en ▸ RgC.neg (by omega) (by omega) (by decide) (by decide), r _ H2 e2 fun H3 e3 i => ⟨fun lt => ⟨?_, fun x H4 y => ?_⟩, fun ei => ?_⟩⟩
        · rw [List.length_map, List.length_range] at lt
          exact lt
        · rw [List.length_map, List.length_range] at lt
          obtain ⟨rfl, rfl⟩ := y
          exact ⟨rfl, _, by rw [List.getElem?_map, List.getElem?_range lt]; rfl, .int _⟩
        · rw [List.length_map, List.length_range] at ei
          exact (show (n + 1).toNat ≤ i by omega)
theorem sd_rng2 {j : Nat} {lo n : Int} {ta : TA} (h : EvDs K ta σ H [.int lo, .int n]) (hl : -100000 ≤ lo ∧ lo ≤ 100000) (hn : -100000 ≤ n ∧ n ≤ 100000) (W : Nat → L2.St → Hp → Prop) (h0 : ∀ H1, Ex H H1 → W 0 σ H1)
    (hs : ∀ (i : Nat) σ' H', (i : Int) < n - lo → W i σ' H' → u { D with nx := W (i + 1), ct := W (i + 1), bk := D.nx } (σ'.set j (some (.int (lo + (i : Int))))) H') (hd : ∀ σ' H', W (n - lo).toNat σ' H' → D.nx σ' H') : tFor (iRng2 ta) (gName j) u D σ H :=
  h H (Ex.refl H) _ fun vs H1 e dv => by
    cases dv with
    | cons h1 hx =>
      cases hx with
      | cons h2 hx =>
        cases hx
        cases h1
        cases h2
        exact ⟨lo, n, rfl, ⟨by omega, by omega, by omega, by omega⟩, for_range (lo := lo) (n := (n - lo).toNat) W (h0 H1 e) (fun i σ' H' hi p => hs i σ' H' (by omega) p) hd⟩
theorem qd_rng2 {j : Nat} {lo n : Int} {ta : TA} (h : EvDs K ta σ H [.int lo, .int n]) (hl : -100000 ≤ lo ∧ lo ≤ 100000) (hn : -100000 ≤ n ∧ n ≤ 100000) (W : Nat → L2.St → Hp → Prop) (h0 : ∀ H1, Ex H H1 → W 0 σ H1)
    (hs : ∀ (i : Nat) σ' H', (i : Int) < n - lo → W i σ' H' → u { D with nx := W (i + 1), ct := W (i + 1), bk := z D } (σ'.set j (some (.int (lo + (i : Int))))) H') (hd : ∀ σ' H', W (n - lo).toNat σ' H' → z D σ' H') : tSeq (tFor (iRng2 ta) (gName j) u) z D σ H :=
  sd_rng2 (D := { D with nx := z D }) h hl hn W h0 hs hd
theorem ed_slL {tl th : TO} {lo hi : Option Int} (h : EvD K te σ H (.list ds)) (hl : ∀ H1, Ex H H1 → ∀ Q : Option Int → Hp → Prop, (∀ H2, Ex H1 H2 → Q lo H2) → tl σ H1 Q) (hh : ∀ H1, Ex H H1 → ∀ Q : Option Int → Hp → Prop, (∀ H2, Ex H1 H2 → Q hi H2) → th σ H1 Q) :
    EvN K (tSl (rSlL K) te tl th) σ H (cutD ds lo hi) := fun H1 e Q q => h H1 e _ fun v H2 e2 dv => hl H2 (e.trans e2) _ fun H3 e3 => hh H3 ((e.trans e2).trans e3) _ fun H4 e4 => by
  obtain ⟨t, xs, rfl, hx, hA⟩ := dp_lstI dv
  have len := dps_len hA
  have hx4 := ex_l (e3.trans e4) hx
  have hA4 := dpsm (e3.trans e4) hA
  have cut : DaAll K H4 (cutV xs lo hi) (cutD ds lo hi) := by
    unfold cutV cutD
    rw [len]
    exact dps_take _ (dps_drop _ hA4)
  exact ⟨t, xs, rfl, hx4, fun p np => q p _ _ (fresh_back ((e2.trans e3).trans e4) np) (((e2.trans e3).trans e4).trans (Ex.new np)) upd_same (dpsm (Ex.new np) cut)⟩
theorem en_catN (h1 : EvN K ta σ H ds) (h2 : EvN K tb σ H es) (len : ds.length + es.length ≤ 100000) : EvN K (tOp rCat ta tb) σ H (ds ++ es) := fun H1 e Q q =>
  h1 H1 e _ fun l xs H2 n1 e2 hl hx => h2 H2 (e.trans e2) _ fun p ys H3 n2 e3 hp hy =>
    ⟨l, p, xs, ys, rfl, rfl, e3 _ _ hl, hp, sz_of (by rw [dps_len hx, dps_len hy]; exact len), fun r nr => q r _ _ (fresh_back (e2.trans e3) nr) ((e2.trans e3).trans (Ex.new nr)) upd_same (dpsm (Ex.new nr) (dps_app (dpsm e3 hx) hy))⟩
theorem cutD_mem {ds : List PyData} {lo hi : Option Int} {d : PyData} (h : d ∈ cutD ds lo hi) : d ∈ ds := by
  unfold cutD at h
  exact List.mem_of_mem_drop (List.mem_of_mem_take h)
theorem cutD_len (ds : List PyData) (lo hi : Option Int) : (cutD ds lo hi).length ≤ ds.length := by
  unfold cutD
  rw [List.length_take, List.length_drop]
  omega
theorem ev_ifV {tt : TT} {p : Bool} {i j : Nat} {x y : Addr} {Q : VK} (h : EvT tt σ H p) (hi : σ[i]? = some (some (.ref x))) (hj : σ[j]? = some (some (.ref y))) (q : ∀ H1, Ex H H1 → Q (.ref (if p = true then x else y)) H1) : tIf tt (tVar i) (tVar j) σ H Q :=
  h H (Ex.refl H) _ fun H1 e1 => by
    cases p with
    | true => exact ⟨_, hi, q H1 e1⟩
    | false => exact ⟨_, hj, q H1 e1⟩
end
end Mm

set_option Elab.async false
set_option linter.all false
set_option maxRecDepth 100000
set_option maxHeartbeats 4000000
namespace Mm
open PySem PySem.Spec PyProof.Rows L2 Evl
section
variable {K : PySem.W.Frag} {H H' : Hp} {σ : L2.St} {ta tb tc te : TE} {tt : TT} {tr : TA} {a b c d : PyData} {ds es as bs cs : List PyData} {D : Ends} {u z : TS} {g : TG}
/-- the numbers below n that are drawn, of which more is known -/
theorem ey_lcP {vs : List Nat} {j : Nat} {n : Int} {ta : TA} {Dd L : Addr} {ns : List Int} {B : Nat} (Pz : Int → Prop) (h : EvDs K ta σ H [.int n]) (hn : 0 ≤ n ∧ n ≤ 50000) (dk : Dk H Dd L ns B)
    (hw : ∀ x, wipe ((wipe σ vs).set j (some x)) vs = wipe σ vs) (hj : ∀ x, ((wipe σ vs).set j (some x))[j]? = some (some x))
    (ht : ∀ (i : Nat) H1, (i : Int) < n → Ey H H1 → Dk H1 Dd L ns (B + i) → ∀ Q : Bool → Hp → Prop, (∀ b H2, Ey H1 H2 → Dk H2 Dd L ns (B + i + 1) → (b = true → Pz (i : Int)) → Q b H2) → tt ((wipe σ vs).set j (some (.int (i : Int)))) H1 Q) :
    EvY (tLc (iRng1 ta) (gName j) tt (tVar j) vs) σ H (fun v H2 => ∃ (l : Addr) (zs : List Int), v = .ref l ∧ Ey H H2 ∧ Dk H2 Dd L ns (B + n.toNat) ∧ H2 l = some (.lst (zs.map V.int)) ∧ zs.Pairwise (· < ·) ∧ ∀ z ∈ zs, (0 ≤ z ∧ z < n) ∧ Pz z) := fun Q q => h H (Ex.refl H) _ fun ws H1 e1 dv => by
  cases dv with
  | cons h1 hx =>
    cases hx
    cases h1
    refine ⟨n, rfl, by omega, by omega, fun Dl hD => lc_range (lo := 0) (n := n.toNat) (fun i H' => ∃ zs : List Int, Ey H1 H' ∧ Dk H' Dd L ns (B + i) ∧ H' Dl = some (.lst (zs.map V.int)) ∧ zs.Pairwise (· < ·) ∧ zs.length ≤ i ∧ ∀ z ∈ zs, (0 ≤ z ∧ z < (i : Int)) ∧ Pz z)
      ⟨[], Ey.of (Ex.new hD), dk_ex (e1.trans (Ex.new hD)) dk, upd_same, .nil, Nat.le_refl _, fun _ z => nomatch z⟩ (fun i H' hi k => ?_) (fun H' k => ?_)⟩
    · obtain ⟨zs, ey, dk', hl, pw, len, all⟩ := k
      have e2 : (0 : Int) + (i : Int) = (i : Int) := Int.zero_add _
      show gName j (.int ((0 : Int) + (i : Int))) _ _ _
      rw [e2]
      refine ⟨hw _, ?_⟩
      refine ht i H' (by omega) ((Ey.of e1).trans ey) dk' _ fun b H2 ey2 dk2 hb => ?_
      have hl2 := ey2 _ _ hl (fun z => z)
      cases b with
      | false =>
        rw [if_neg (by decide)]
        exact ⟨zs, ey.trans ey2, dk2, hl2, pw, by omega, fun z hz => by
          have := all z hz
          exact ⟨⟨this.1.1, by omega⟩, this.2⟩⟩
      | true =>
        rw [if_pos rfl]
        refine ⟨_, hj _, _, hl2, sz_lt (by rw [List.length_map]; omega), zs ++ [(i : Int)], ey_upd (ey.trans ey2) hD, dk_upd dk2 hl2 (dk_new (dk_ex e1 dk) hD), ?_, ?_, by rw [List.length_append]; simp; omega, fun z hz => ?_⟩
        · rw [upd_same, List.map_append]
          rfl
        · exact List.pairwise_append.mpr ⟨pw, List.pairwise_singleton _ _, fun x hx y hy => by
            rw [List.mem_singleton.mp hy]
            exact (all x hx).1.2⟩
        · rcases List.mem_append.mp hz with y | y
          · have := all z y
            exact ⟨⟨this.1.1, by omega⟩, this.2⟩
          · rw [List.mem_singleton.mp y]
            exact ⟨⟨by omega, by omega⟩, hb rfl⟩
    · obtain ⟨zs, ey, dk', hl, pw, len, all⟩ := k
      exact q _ H' ⟨Dl, zs, rfl, (Ey.of e1).trans ey, dk', hl, pw, fun z hz => by
        have := all z hz
        exact ⟨⟨this.1.1, by omega⟩, this.2⟩⟩
theorem upto_map {n : Nat} (l : List PyData) (hn : l.length = n) : ((upto n).map fun d => (l[(intOf d).toNat]?).getD .none) = l := by
  refine List.ext_getElem? fun k => ?_
  rw [List.getElem?_map]
  by_cases lt : k < n
  · rw [upto_get lt]
    show some ((l[((k : Int)).toNat]?).getD .none) = _
    rw [Int.toNat_natCast, List.getElem?_eq_getElem (by omega)]
    rfl
  · rw [List.getElem?_eq_none (by rw [upto_len]; omega), List.getElem?_eq_none (by omega)]
    rfl
theorem ownB_len (b : Int) (t : List Pt) : (ownB b t).length = t.length := by
  unfold ownB
  rw [List.length_map, List.length_range]
theorem ownB_get (b : Int) {t : List Pt} {k : Nat} (h : k < t.length) : (ownB b t)[k]? = some (betw b (ptAt t (if k = 0 then t.length - 1 else k - 1)).1 (ptAt t (if k = 0 then t.length - 1 else k - 1)).2 (ptAt t k).1 (ptAt t k).2) := by
  unfold ownB
  rw [List.getElem?_map, List.getElem?_range h]
  rfl
theorem word_some {a b : Int} {zs used : List Int} {e : PyData} {w : Str} (h : wordD a b zs used e = some w) : w = Str.ofString "twine" ∨ w = Str.ofString "bar" ∨ w = Str.ofString "twice" ∨ w = Str.ofString "straight" := by
  unfold wordD at h
  split at h
  · split at h
    · exact Or.inl (Option.some.inj h).symm
    · unfold wordT at h
      split at h
      · split at h
        · exact Or.inr (Or.inr (Or.inl (Option.some.inj h).symm))
        · split at h
          · exact Or.inr (Or.inr (Or.inr (Option.some.inj h).symm))
          · cases h
      · exact Or.inr (Or.inl (Option.some.inj h).symm)
  · exact Or.inl (Option.some.inj h).symm
theorem tr_word {w : Str} (h : w = Str.ofString "twine" ∨ w = Str.ofString "bar" ∨ w = Str.ofString "twice" ∨ w = Str.ofString "straight" ∨ w = Str.ofString "lacking" ∨ w = Str.ofString "plan") : TameR 0 160 (.str w) := by
  rcases h with rfl | rfl | rfl | rfl | rfl | rfl <;> exact tr_leaf 0 rfl (fun i e => by cases e) (fun x e => by cases e <;> exact ⟨by decide +kernel, by decide +kernel⟩)
theorem tr_small {k : Nat} (h : k < 100000) : TameR 0 160 (.int (k : Int)) := tr_leaf 0 rfl (fun j e => by cases e; exact Nat.lt_of_lt_of_le (show (k : Int).natAbs < 100000 by omega) (by decide)) (fun x e => by cases e)
theorem faultFrom_tr {a b : Int} {zs : List Int} : ∀ (es : List PyData) (k : Nat) (used : List Int), k + es.length < 100000 → TameR 1 400 (faultFrom a b zs k used es)
  | [], k, used, _ => by
    show TameR 1 400 (if (used.length : Int) < (zs.length : Nat) then .tuple [.none, .str (Str.ofString "lacking")] else .none)
    split
    · exact (tr_tuple (trl_cons (tame_none (n := 0) (w := 100)).r (trl_cons (tr_word (by simp)) (trl_nil (n := 0) (w := 0))))).mono (by decide) (by decide)
    · exact (tame_none (n := 1) (w := 400)).r
  | e :: es, k, used, h => by
    rw [List.length_cons] at h
    cases hw : wordD a b zs used e with
    | some w =>
      rw [faultFrom_some hw]
      have := word_some hw
      exact (tr_tuple (trl_cons (tr_small (k := k) (by omega)) (trl_cons (tr_word (by rcases this with h | h | h | h <;> simp [h])) (trl_nil (n := 0) (w := 0))))).mono (by decide) (by decide)
    | none =>
      rw [faultFrom_none hw]
      exact faultFrom_tr es (k + 1) _ (by omega)
theorem fault_tr {a b : Int} {zs : List Int} {x : PyData} (h : ∀ es, x = .tuple es → es.length ≤ 50000) : TameR 40 200000 (faultD a b zs x) := by
  unfold faultD
  split
  · rename_i es
    have := h es rfl
    exact (faultFrom_tr es 0 [] (by omega)).mono (by decide) (by decide)
  · exact (tr_tuple (trl_cons (tame_none (n := 0) (w := 100)).r (trl_cons (tr_word (by simp)) (trl_nil (n := 0) (w := 0))))).mono (by decide) (by decide)
end
end Mm

set_option Elab.async false
set_option linter.all false
set_option maxRecDepth 100000
set_option maxHeartbeats 4000000
namespace Mm
open PySem PySem.Spec PyProof.Rows L2 Evl
/-- how many knots some twines have -/
def totL : List (List Pt) → Nat
  | [] => 0
  | t :: ts => t.length + totL ts
theorem totL_app : ∀ (as : List (List Pt)) (t : List Pt), totL (as ++ [t]) = totL as + t.length
  | [], t => by simp [totL]
  | a :: as, t => by
    show a.length + totL (as ++ [t]) = a.length + totL as + t.length
    rw [totL_app as t]
    omega
/-- as spWalked, and how many knots there are -/
def spWalkedT (K : PySem.W.Frag) : Sp := fun vs H Q _ => ∃ (D L : Addr) (ns : List Int) (B : Nat) (x y : V) (a b : Int) (zs : List Int), vs = [.ref D, x, y] ∧ Dk H D L ns B ∧ B < 700000000 ∧ Sheet a b ∧ Da K H x (shd a b) ∧ Tear a b zs ∧ Da K H y (tearD zs) ∧
  ∀ (v : V) (tws : List (List Pt)) (H' : Hp), Ey H H' → Dk H' D L ns (B + 10000) → (∀ t ∈ tws, Tw a b t) → tws.length ≤ 64 → totL tws ≤ 2 * zs.length → Da K H' v (.tuple (tws.map twD)) → Q v H'
end Mm

set_option Elab.async false
set_option linter.all false
set_option maxRecDepth 100000
set_option maxHeartbeats 4000000
namespace Mm
open PySem PySem.Spec PyProof.Rows L2 Evl
/-- a short tuple of numbers bent -/
def spBentK (K : PySem.W.Frag) : Sp := fun vs H Q _ => ∃ (D L : Addr) (ns : List Int) (B : Nat) (pv : Addr) (zs : List Int), vs = [.ref D, .ref pv] ∧ Dk H D L ns B ∧ B < 800000000 ∧ SqT K H pv (zs.map V.int) ∧ zs ≠ [] ∧ zs.length ≤ 2 ∧ (∀ z ∈ zs, 0 ≤ z ∧ z < 64) ∧
  ∀ x d H', Ey H H' → Dk H' D L ns (B + 30) → Da K (cutL H H') x d → TameR 10 7000 d → (∀ es, d = .tuple es → es.length ≤ 150) → Q x H'
theorem trl_app {n u v : Nat} : ∀ {as bs : List PyData}, TRL n u as → TRL n v bs → TRL n (u + v) (as ++ bs)
  | [], bs, _, h2 => ⟨h2.sh, h2.dp, h2.lf, Nat.le_trans h2.wt (Nat.le_add_left _ _)⟩
  | a :: as, bs, h1, h2 => by
    have s1 : a.showable = true ∧ PyData.showableAll as = true := by simpa [PyData.showableAll] using h1.sh
    have d1 : a.depth ≤ n ∧ PyData.depthAll as ≤ n := by
      have := h1.dp
      simp only [PyData.depthAll] at this
      omega
    have l1 : PyData.leavesShort 60 a = true ∧ PyData.leavesShortAll 60 as = true := by simpa [PyData.leavesShortAll] using h1.lf
    have w1 : a.weight + 1 + PyData.weightAll as ≤ u := by
      have := h1.wt
      simp only [PyData.weightAll] at this
      omega
    have ih := trl_app (u := PyData.weightAll as) ⟨s1.2, d1.2, l1.2, Nat.le_refl _⟩ h2
    refine ⟨?_, ?_, ?_, ?_⟩
    · simp only [List.cons_append, PyData.showableAll, s1.1, ih.sh, Bool.and_self]
    · have := ih.dp
      simp only [List.cons_append, PyData.depthAll]
      omega
    · simp only [List.cons_append, PyData.leavesShortAll, l1.1, ih.lf, Bool.and_self]
    · have := ih.wt
      simp only [List.cons_append, PyData.weightAll]
      omega
theorem trl_tail {n u : Nat} {a : PyData} {as : List PyData} (h1 : TRL n u (a :: as)) : TRL n u as := by
  refine ⟨?_, ?_, ?_, ?_⟩
  · have : a.showable = true ∧ PyData.showableAll as = true := by simpa [PyData.showableAll] using h1.sh
    exact this.2
  · have := h1.dp
    simp only [PyData.depthAll] at this
    omega
  · have : PyData.leavesShort 60 a = true ∧ PyData.leavesShortAll 60 as = true := by simpa [PyData.leavesShortAll] using h1.lf
    exact this.2
  · have := h1.wt
    simp only [PyData.weightAll] at this
    omega
theorem trl_drop {n u : Nat} : ∀ (k : Nat) {as : List PyData}, TRL n u as → TRL n u (as.drop k)
  | 0, _, h => h
  | _ + 1, [], h => h
  | k + 1, _ :: _, h => trl_drop k (trl_tail h)
theorem trl_head {n u : Nat} {a : PyData} {as : List PyData} (h1 : TRL n u (a :: as)) : TameR n a.weight a ∧ a.weight + 1 + PyData.weightAll as ≤ u := by
  have s1 : a.showable = true ∧ PyData.showableAll as = true := by simpa [PyData.showableAll] using h1.sh
  have l1 : PyData.leavesShort 60 a = true ∧ PyData.leavesShortAll 60 as = true := by simpa [PyData.leavesShortAll] using h1.lf
  have d1 := h1.dp
  have w1 := h1.wt
  simp only [PyData.depthAll, PyData.weightAll] at d1 w1
  exact ⟨⟨s1.1, by omega, l1.1, Nat.le_refl _⟩, by omega⟩
theorem trl_take {n u : Nat} : ∀ (k : Nat) {as : List PyData}, TRL n u as → TRL n u (as.take k)
  | 0, _, h => by
    rw [List.take_zero]
    exact trl_nil
  | _ + 1, [], h => h
  | k + 1, a :: as, h => by
    obtain ⟨h1, h2⟩ := trl_head h
    have t := trl_tail h
    have ih := trl_take (u := PyData.weightAll as) k (as := as) ⟨t.sh, t.dp, t.lf, Nat.le_refl _⟩
    have r := trl_cons h1 ih
    rw [List.take_succ_cons]
    exact ⟨r.sh, r.dp, r.lf, Nat.le_trans r.wt h2⟩
theorem trl_cut {n u : Nat} {as : List PyData} (lo hi : Option Int) (h : TRL n u as) : TRL n u (cutD as lo hi) := by
  unfold cutD
  exact trl_take _ (trl_drop _ h)
theorem trl_rev {n u : Nat} : ∀ {as : List PyData}, TRL n u as → TRL n u as.reverse
  | [], h => h
  | a :: as, h => by
    obtain ⟨h1, h2⟩ := trl_head h
    have t := trl_tail h
    have ih := trl_rev (u := PyData.weightAll as) (as := as) ⟨t.sh, t.dp, t.lf, Nat.le_refl _⟩
    have r := trl_app ih (trl_cons h1 (trl_nil (n := n) (w := 0)))
    rw [List.reverse_cons]
    exact ⟨r.sh, r.dp, r.lf, Nat.le_trans r.wt (by omega)⟩
end Mm

set_option Elab.async false
set_option linter.all false
set_option maxRecDepth 100000
set_option maxHeartbeats 4000000
namespace Mm
open PySem PySem.Spec PyProof.Rows L2 Evl
def Few0 (d : PyData) : Prop := ∀ es, d = .tuple es → es.length ≤ 3
def Few (d : PyData) : Prop := ∀ es, d = .tuple es → es.length ≤ 3 ∧ ∀ e ∈ es, Few0 e
theorem Few.zero {d : PyData} (h : Few d) : Few0 d := fun es e => (h es e).1
theorem few_leaf {d : PyData} (h : leafy d = true) : Few d := fun es e => by
  subst e
  cases h
structure AnyR (n w : Nat) (d : PyData) : Prop where
  tr : TameR n w d
  few : Few d
def spAnyR (K : PySem.W.Frag) (m : Nat) : Sp := fun vs H Q _ => ∃ (D L : Addr) (ns : List Int) (B n : Nat), n ≤ m ∧ vs = [.ref D, .int (n : Int)] ∧ Dk H D L ns B ∧ B + costA n < 900000000 ∧
  ∀ x d H', Ey H H' → Dk H' D L ns (B + costA n) → Da K (cut H H') x d → AnyR n (wideA n) d → Q x H'
theorem any_weak {K : PySem.W.Frag} {m m' : Nat} (hm : m' ≤ m) : ∀ vs H Q E, spAny K m' vs H Q E → spAnyR K m vs H Q E := fun vs H Q E h => by
  obtain ⟨D, L, ns, B, n, hn, rfl, dk, hb, q⟩ := h
  exact ⟨D, L, ns, B, n, by omega, rfl, dk, hb, fun x d H' ey dk' da r => q x d H' ey dk' da r.tr⟩
/-! ### plans and what they are made of -/
def Lev : Nat → PyData → Prop
  | 0, d => ∃ p : Pt, InP p ∧ d = pk p
  | 1, d => ∃ t : List Pt, 1 ≤ t.length ∧ t.length ≤ 66 ∧ (∀ p ∈ t, InP p) ∧ d = twD t
  | _ + 2, d => ∃ tws : List (List Pt), 1 ≤ tws.length ∧ tws.length ≤ 64 ∧ (∀ t ∈ tws, 1 ≤ t.length ∧ t.length ≤ 66 ∧ ∀ p ∈ t, InP p) ∧ totL tws ≤ 128 ∧ d = .tuple (tws.map twD)
def wB : Nat → Nat
  | 0 => 7000
  | 1 => 30000
  | _ => 60000
def spBentL (K : PySem.W.Frag) (m : Nat) : Sp := fun vs H Q _ => ∃ (D L : Addr) (ns : List Int) (B : Nat) (v : V) (d : PyData), vs = [.ref D, v] ∧ Dk H D L ns B ∧ B + 1000 * m < 800000000 ∧ Lev m d ∧ Da K H v d ∧
  ∀ x d' H', Ey H H' → Dk H' D L ns (B + 30 * (m + 1)) → Da K (cutL H H') x d' → TameR (10 + m) (wB m) d' → (∀ es, d' = .tuple es → es.length ≤ 150 ∧ (m = 2 → ∀ e ∈ es, Short e)) → Q x H'
theorem tr_pk {p : Pt} (h : InP p) : TameR 1 50 (pk p) := (tame_pt h).r
theorem trl_pks {t : List Pt} (h : ∀ p ∈ t, InP p) : TRL 1 (51 * t.length) (t.map pk) := by
  have := trl_all (n := 1) (a := 50) (ds := t.map pk) fun d hd => by
    obtain ⟨p, hp, rfl⟩ := List.mem_map.mp hd
    exact tr_pk (h p hp)
  rwa [List.length_map] at this
theorem trl_tws : ∀ {tws : List (List Pt)}, (∀ t ∈ tws, ∀ p ∈ t, InP p) → TRL 2 (51 * totL tws + tws.length) (tws.map twD)
  | [], _ => trl_nil
  | t :: ts, h => by
    have h1 := tr_tuple (trl_pks (h t List.mem_cons_self))
    have r := trl_cons h1 (trl_tws fun u hu => h u (List.mem_cons_of_mem _ hu))
    exact ⟨r.sh, r.dp, r.lf, Nat.le_trans r.wt (by simp only [totL, List.length_cons]; omega)⟩
/-- what a plan's or a twine's items are: tuples with items, all of one level; their weights -/
theorem lev_items {m : Nat} {d : PyData} (hm : m = 0 ∨ m = 1) (h : Lev (m + 1) d) : ∃ es, d = .tuple es ∧ 1 ≤ es.length ∧ es.length ≤ 66 ∧ (∀ e ∈ es, Lev m e) ∧ TRL 2 7000 es ∧ flats es = true ∧ (m = 1 → ∀ e ∈ es, Short e) := by
  rcases hm with rfl | rfl
  · obtain ⟨t, l1, l2, ip, rfl⟩ := h
    refine ⟨t.map pk, rfl, by rw [List.length_map]; exact l1, by rw [List.length_map]; exact l2, fun e he => ?_, ?_, flats_mapF flat_pk t, fun z => nomatch z⟩
    · obtain ⟨p, hp, rfl⟩ := List.mem_map.mp he
      exact ⟨p, ip p hp, rfl⟩
    · have t := trl_pks ip
      exact ⟨t.sh, Nat.le_trans t.dp (by decide), t.lf, Nat.le_trans t.wt (by omega)⟩
  · obtain ⟨tws, l1, l2, ip, tot, rfl⟩ := h
    refine ⟨tws.map twD, rfl, by rw [List.length_map]; exact l1, by rw [List.length_map]; omega, fun e he => ?_, ?_, flats_tws tws, fun _ e he ks hk => ?_⟩
    · obtain ⟨t, ht, rfl⟩ := List.mem_map.mp he
      exact ⟨t, (ip t ht).1, (ip t ht).2.1, (ip t ht).2.2, rfl⟩
    · have t := trl_tws fun t ht => (ip t ht).2.2
      exact ⟨t.sh, t.dp, t.lf, Nat.le_trans t.wt (by omega)⟩
    · obtain ⟨t, ht, rfl⟩ := List.mem_map.mp he
      have := (ip t ht).2.1
      injection hk with hk
      rw [← hk, List.length_map]
      omega
theorem lev_tup {m : Nat} {d : PyData} (hm : m = 0 ∨ m = 1) (h : Lev m d) : ∃ es, d = .tuple es ∧ 1 ≤ es.length ∧ PyData.eqv d (.tuple []) = false := by
  rcases hm with rfl | rfl
  · obtain ⟨p, ip, rfl⟩ := h
    exact ⟨_, rfl, by show 1 ≤ 2; decide, by simp [pk, knd, PyData.eqv, PyData.eqvAll]⟩
  · obtain ⟨t, l1, l2, ip, rfl⟩ := h
    refine ⟨_, rfl, by rw [List.length_map]; exact l1, ?_⟩
    cases t with
    | nil => simp at l1
    | cons p t => simp [twD, PyData.eqv, PyData.eqvAll]
theorem lev_tame {m : Nat} {d : PyData} (hm : m = 0 ∨ m = 1) (h : Lev m d) : Tame 2 5000 d := by
  rcases hm with rfl | rfl
  · obtain ⟨p, ip, rfl⟩ := h
    exact (tame_pt ip).mono (by decide) (by decide)
  · obtain ⟨t, l1, l2, ip, rfl⟩ := h
    exact (tame_tuple (tame_pks ip)).mono (by decide) (by omega)
end Mm

set_option Elab.async false
set_option linter.all false
set_option maxRecDepth 100000
set_option maxHeartbeats 4000000
namespace Mm
open PySem PySem.Spec PyProof.Rows L2 Evl
theorem catA_of {K : PySem.W.Frag} {H : Hp} {p r : Addr} {xs ys : List V} {Q : VK} (hp : SqT K H p xs) (hr : SqT K H r ys) (hl : xs.length + ys.length ≤ 100000) (q : ∀ t H', Ex H H' → SqT K H' t (xs ++ ys) → Q (.ref t) H') : rCatA K (.ref p) (.ref r) H Q :=
  ⟨p, r, xs, ys, rfl, rfl, hp, hr, sz_of hl, fun z => by
    subst z
    exact q r H (Ex.refl H) hr, fun _ z => by
    subst z
    rw [List.append_nil] at q
    exact q p H (Ex.refl H) hp, fun _ _ t nt => q t _ (Ex.new nt) (SqT.of upd_same)⟩
theorem trl_mono {n m u : Nat} {ds : List PyData} (h : TRL n u ds) (hn : n ≤ m) : TRL m u ds := ⟨h.sh, Nat.le_trans h.dp hn, h.lf, h.wt⟩
theorem dps_cut {K : PySem.W.Frag} {H : Hp} {xs : List V} {es : List PyData} (h : DaAll K H xs es) (lo hi : Option Int) : DaAll K H (cutV xs lo hi) (cutD es lo hi) := by
  unfold cutV cutD
  rw [dps_len h]
  exact dps_take _ (dps_drop _ h)
theorem few_short {d : PyData} (h : Few d) : Short d := fun ks e => Nat.le_trans (h ks e).1 (by decide)
end Mm

set_option Elab.async false
set_option linter.all false
set_option maxRecDepth 100000
set_option maxHeartbeats 4000000
namespace Mm
open PySem PySem.Spec PyProof.Rows L2 Evl
/-- a value that plan_error can be asked of, and that can be shown -/
def OkP (d : PyData) : Prop := TameR 20 100000 d ∧ ∀ es, d = .tuple es → es.length ≤ 200 ∧ ∀ e ∈ es, Short e
def shortB : PyData → Bool
  | .tuple ks => decide (ks.length ≤ 400)
  | _ => true
def okS : PyData → Bool
  | .tuple es => decide (es.length ≤ 200) && es.all shortB
  | _ => true
theorem short_of {d : PyData} (h : shortB d = true) : Short d := fun ks e => by
  subst e
  exact of_decide_eq_true h
theorem okS_of {d : PyData} (h : okS d = true) : ∀ es, d = .tuple es → es.length ≤ 200 ∧ ∀ e ∈ es, Short e := fun es e => by
  subst e
  have h' : decide (es.length ≤ 200) = true ∧ es.all shortB = true := by simpa [okS] using h
  exact ⟨of_decide_eq_true h'.1, fun e he => short_of (List.all_eq_true.mp h'.2 e he)⟩
def k2 (a b : Int) : PyData := .tuple [.int a, .int b]
def consts1 : List PyData := [.none, .bool true, .str (Str.ofString "plan"), .dict [], .int 0, .list [], .tuple [.none], .tuple [.tuple []], .tuple [.tuple [k2 0 0]], .tuple [.tuple [k2 0 0, k2 0 0]]]
def consts2 : List PyData := [.tuple [.tuple [.tuple [.bool true, .bool true], k2 0 0]], .tuple [.tuple [k2 0 0, k2 1 1, k2 0 0]], .tuple [.tuple [k2 1 1, .tuple [.bool false, .bool false]]]]
def consts3 : List PyData := [.tuple [.str (Str.ofString "ab"), .str (Str.ofString "cd")], .tuple [.tuple [.dict [], .dict []]], .tuple [.list [k2 0 0, k2 1 1]]]
theorem consts_chk : ((consts1 ++ consts2) ++ consts3).all (fun d => d.showable && decide (d.depth ≤ 20) && PyData.leavesShort 60 d && decide (d.weight ≤ 100000) && okS d) = true := by decide +kernel
theorem consts_ok : ∀ d ∈ (consts1 ++ consts2) ++ consts3, OkP d := fun d hd => by
  have h := List.all_eq_true.mp consts_chk d hd
  simp only [Bool.and_eq_true, decide_eq_true_eq] at h
  obtain ⟨⟨⟨⟨h1, h2⟩, h3⟩, h4⟩, h5⟩ := h
  exact ⟨⟨h1, h2, h3, h4⟩, okS_of h5⟩
theorem any_ok {n w : Nat} {d : PyData} (h : AnyR n w d) (hn : n ≤ 20) (hw : w ≤ 100000) : OkP d := ⟨h.tr.mono hn hw, fun es e => by
  obtain ⟨h1, h2⟩ := h.few es e
  exact ⟨by omega, fun e he ks hk => Nat.le_trans (h2 e he ks hk) (by decide)⟩⟩
theorem own_ok {tws : List (List Pt)} {a b : Int} (sh : Sheet a b) (tok : ∀ t ∈ tws, Tw a b t) (twl : tws.length ≤ 64) (tot : totL tws ≤ 128) : TRL 2 7000 (tws.map twD) ∧ ∀ e ∈ tws.map twD, Short e := by
  have t := trl_tws (tws := tws) fun t ht p hp => knotsZ_inP sh ((tok t ht).2.2 p hp)
  refine ⟨⟨t.sh, t.dp, t.lf, Nat.le_trans t.wt (by omega)⟩, fun e he ks hk => ?_⟩
  obtain ⟨t, ht, rfl⟩ := List.mem_map.mp he
  have := (tok t ht).2.1
  injection hk with hk
  rw [← hk, List.length_map]
  omega
theorem tame_plan {tws : List (List Pt)} (h : ∀ t ∈ tws, ∀ p ∈ t, InP p) (hl : ∀ t ∈ tws, t.length ≤ 66) (hn : tws.length ≤ 64) : Tame 3 300000 (.tuple (tws.map twD)) := by
  have k := tameL_all (n := 2) (a := 51 * 66) (ds := tws.map twD) fun d hd => by
    obtain ⟨t, ht, rfl⟩ := List.mem_map.mp hd
    have := hl t ht
    exact (tame_tuple (tame_pks (h t ht))).mono (by decide) (by omega)
  rw [List.length_map] at k
  exact (tame_tuple k).mono (by decide) (by omega)
end Mm

set_option Elab.async false
set_option linter.all false
set_option maxRecDepth 100000
set_option maxHeartbeats 4000000
namespace Mm
open PySem PySem.Spec PyProof.Rows L2 Evl
section
variable {prog : Program} {w : World} {A : Around} {E : Value → Shared → Prop} {s : Shared} {l : Addr} {its : List Value} {ns : List Int} {Q : Value → Shared → Prop}
theorem min_rawT (hh : A.handled = none) (hl : s.heap.IsTuple l its.toArray) (hi : PyProof.Rows.IntsAre its ns) (hne : 0 < ns.length)
    (h : ∀ h' tk M t', (∀ b o, s.heap.get? b = some o → h'.get? b = some o) → M ∈ ns → (∀ a, a ∈ ns → M ≤ a) → Q (.int M t') { s with heap := h', toks := tk }) : wpAny (model prog w) A (call (.builtin "min") [.ref l]) Q E s := by
  obtain ⟨xs, e⟩ := hi.allInts.items
  have hn : PySem.numsOf (intItems xs).toList = ns := by rw [← e]; exact hi.numsOf
  rw [nums_intItems] at hn
  subst hn
  rw [e] at hl
  have hsz : 0 < xs.size := by simpa using hne
  have lt : l < s.heap.objs.size := by
    obtain ⟨_, e, _⟩ := hl
    exact Heap.lt_size e
  refine call_min_walk (wpAny_pyIter_tuple hl ?_)
  refine ⟨_, _, _, _, _, _, _, rfl, Walks.tuple (A := A.in1) hh _ l (Nat.ne_of_lt lt) (intItems xs), ⟨⟨_, Heap.get?_push_size _ rfl, rfl, rfl⟩, hl.push _⟩, fun b hb => ?_, by simpa [intItems] using hsz, CmpOf.ints_lt (numAt xs) (fun _ _ => intItems_at), fun v h' tk hP hk => ?_⟩
  · show b < (s.heap.push _).objs.size
    rw [Heap.size_push]
    rcases List.mem_cons.mp hb with rfl | hb
    · exact Nat.lt_succ_self _
    · rw [List.mem_singleton.mp hb]
      exact Nat.lt_succ_of_lt lt
  · have hv : (intItems xs)[argBest (fun i j => decide (numAt xs i < numAt xs j)) (xs.size - 1)]? = some v := by simpa [intItems] using hP
    obtain ⟨t, rfl⟩ := intItems_at hv
    obtain ⟨h1, h2⟩ := argBest_lt (numAt xs) (xs.size - 1)
    refine h h' tk _ t (fun b o e => hk b o (fun hm => ?_) (Heap.get?_push_of_some _ e)) ?_ fun a ha => ?_
    · rw [List.mem_singleton.mp hm] at e
      exact absurd (Heap.lt_size e) (Nat.lt_irrefl _)
    · rw [numAt_eq]
      exact PySem.getD_mem (by rw [List.length_map, Array.length_toList]; omega)
    · obtain ⟨j, hj, rfl⟩ := mem_getD ha
      rw [List.length_map, Array.length_toList] at hj
      rw [← numAt_eq]
      exact h2 j (by omega)
end
/-- min of a tuple of numbers -/
def rMinT (K : PySem.W.Frag) : List V → Hp → VK → Prop := fun vs H Q => ∃ (a : Addr) (ns : List Int), vs = [V.ref a] ∧ SqT K H a (ns.map V.int) ∧ 0 < ns.length ∧ ∀ m, m ∈ ns → (∀ y, y ∈ ns → m ≤ y) → Q (.int m) H
theorem cr_minT {X : Cx} (hc : X.calm = true) : CallR X (.builtin "min") (rMinT X.K) := by
  intro pins s σ H vs us Q I r h
  obtain ⟨a, ns, rfl, hs, hne, q⟩ := h
  obtain ⟨its, rv, hl, _⟩ := I.tuple hs
  rw [Vals.ref1 r]
  exact min_rawT (I.ok.hd hc) hl (intsAre_of rv) hne fun h' tk m t' hk h1 h2 => ⟨.int _, H, I.kept hk, ⟨_, rfl⟩, q m h1 h2⟩
theorem fr_minT {X : Cx} {K : PySem.W.Frag} (h : X.K = K) (hc : X.calm = true) : CallR X (.builtin "min") (rMinT K) := h ▸ cr_minT hc
theorem op_repTK {X : Cx} {K : PySem.W.Frag} (h : X.K = K) : OpR X (binaryOp .Mult) (rRepT K) := h ▸ op_repT
section
variable {K : PySem.W.Frag} {ds : List PyData}
theorem cd_minT {ns : List Int} {m : Int} (hm : m ∈ ns) (hl : ∀ y ∈ ns, m ≤ y) : CallD K (rMinT K) [.tuple (ns.map .int)] (.int m) := fun H1 xs hx Q q => by
  cases hx with
  | cons h t =>
    cases t
    obtain ⟨a, ys, rfl, ht, ha⟩ := dp_tupI h
    rw [ints_only ha] at ht
    refine ⟨a, ns, rfl, ht, List.length_pos_of_mem hm, fun m' h1 h2 => ?_⟩
    have e : m' = m := by
      have := hl m' h1
      have := h2 m hm
      omega
    rw [e]
    exact q _ H1 (Ex.refl H1) (.int _)
theorem opD_rep2T (h1 : ds ≠ []) (h2 : ds.length ≤ 1000) : OpD K (rRepT K) (.tuple ds) (.int 2) (.tuple (ds ++ ds)) := fun H1 x y hx hy Q q => by
  obtain ⟨a, xs, rfl, ht, ha⟩ := dp_tupI hx
  have l := dps_len ha
  cases dp_intI hy
  refine ⟨a, 2, xs, rfl, rfl, ht, fun z => h1 (List.eq_nil_of_length_eq_zero (by rw [← l, z]; rfl)), by decide, by decide, by omega, fun p np => q _ _ (Ex.new np) (.tup (SqT.of upd_same) ?_)⟩
  have e : (List.replicate (2 : Int).toNat xs).flatten = xs ++ xs := by
    show [xs, xs].flatten = _
    simp
  rw [e]
  exact dpsm (Ex.new np) (dps_app ha ha)
end
section
variable {K : PySem.W.Frag} {H H' : Hp} {σ : L2.St} {te tl : TE} {ds : List PyData} {D : Ends} {u z : TS} {g : TG}
/-- over a list that is just made -/
theorem sd_seqN (h : EvN K tl σ H ds) (W : Addr → List V → Nat → L2.St → Hp → Prop) (h0 : ∀ l xs H1, H l = none → Ex H H1 → H1 l = some (.lst xs) → DaAll K H1 xs ds → W l xs 0 σ H1)
    (hl : ∀ l xs i σ' H', W l xs i σ' H' → H' l = some (.lst xs) ∧ DaAll K H' xs ds)
    (hs : ∀ l xs i e x σ' H', ds[i]? = some e → W l xs i σ' H' → Da K H' x e → g x σ' H' fun σ2 H2 => u { D with nx := W l xs (i + 1), ct := W l xs (i + 1), bk := D.nx } σ2 H2)
    (hd : ∀ l xs σ' H', W l xs ds.length σ' H' → D.nx σ' H') : tFor (iSeq K tl) g u D σ H :=
  Or.inl (h H (Ex.refl H) _ fun l xs H1 nl e hl1 hx => lst_loop (.lst (SqL.of hl1) hx) (W l xs) (h0 l xs H1 nl e hl1 hx) (fun i σ' H' w => .lst (SqL.of (hl l xs i σ' H' w).1) (hl l xs i σ' H' w).2) (fun i e x σ' H' => hs l xs i e x σ' H') (hd l xs))
theorem qd_seqN (h : EvN K tl σ H ds) (W : Addr → List V → Nat → L2.St → Hp → Prop) (h0 : ∀ l xs H1, H l = none → Ex H H1 → H1 l = some (.lst xs) → DaAll K H1 xs ds → W l xs 0 σ H1)
    (hl : ∀ l xs i σ' H', W l xs i σ' H' → H' l = some (.lst xs) ∧ DaAll K H' xs ds)
    (hs : ∀ l xs i e x σ' H', ds[i]? = some e → W l xs i σ' H' → Da K H' x e → g x σ' H' fun σ2 H2 => u { D with nx := W l xs (i + 1), ct := W l xs (i + 1), bk := z D } σ2 H2)
    (hd : ∀ l xs σ' H', W l xs ds.length σ' H' → z D σ' H') : tSeq (tFor (iSeq K tl) g u) z D σ H := sd_seqN (D := { D with nx := z D }) h W h0 hl hs hd
end
/-- places on the sheet or one beside it -/
def NearP (p : Pt) : Prop := (-2 < p.1 ∧ p.1 < 20) ∧ (-2 < p.2 ∧ p.2 < 20)
theorem opD_eqNil {K : PySem.W.Frag} {ds : List PyData} {n w : Nat} (h : TameL n w ds) (hn : n ≤ 30) : OpD K (rEqA K) (.list ds) (.list []) (.bool ds.isEmpty) := by
  have := opD_eq (K := K) (tame_list h) (tame_list (tameL_nil (n := 0) (w := 0))) (by omega) (by decide)
  rwa [eqv_listNil] at this
theorem min_of : ∀ (n : Int) (ns : List Int), ∃ m, m ∈ n :: ns ∧ ∀ y ∈ n :: ns, m ≤ y
  | n, [] => ⟨n, List.mem_cons_self, fun y hy => by rw [List.mem_singleton.mp hy]; exact Int.le_refl _⟩
  | n, k :: ns => by
    obtain ⟨m, h1, h2⟩ := min_of k ns
    by_cases c : n ≤ m
    · refine ⟨n, List.mem_cons_self, fun y hy => ?_⟩
      rcases List.mem_cons.mp hy with rfl | hy
      · exact Int.le_refl _
      · exact Int.le_trans c (h2 y hy)
    · refine ⟨m, List.mem_cons_of_mem _ h1, fun y hy => ?_⟩
      rcases List.mem_cons.mp hy with rfl | hy
      · omega
      · exact h2 y hy
theorem betw_tameN {b : Int} (hb : 0 ≤ b ∧ b ≤ 8) {p q : Pt} (hp : NearP p) (hq : NearP q) : Tame 0 24 (betw b p.1 p.2 q.1 q.2) := by
  obtain ⟨⟨a1, a2⟩, a3, a4⟩ := hp
  obtain ⟨⟨c1, c2⟩, c3, c4⟩ := hq
  unfold betw
  split
  · exact tame_none
  · refine tame_int ?_ (by decide)
    have m1 : -2 < imin p.1 q.1 ∧ imin p.1 q.1 < 20 := by unfold imin; split <;> omega
    have m2 : -2 < imin p.2 q.2 ∧ imin p.2 q.2 < 20 := by unfold imin; split <;> omega
    have l1 : imin p.1 q.1 * b ≤ 20 * 8 := by
      have h1 : imin p.1 q.1 * b ≤ 20 * b := Int.mul_le_mul_of_nonneg_right (by omega) hb.1
      omega
    have l2 : -2 * 8 ≤ imin p.1 q.1 * b := by
      have h1 : -2 * b ≤ imin p.1 q.1 * b := Int.mul_le_mul_of_nonneg_right (by omega) hb.1
      omega
    omega
theorem betw_shape (b p1 p2 q1 q2 : Int) : betw b p1 p2 q1 q2 = .none ∨ ∃ z, betw b p1 p2 q1 q2 = .int z := by
  unfold betw
  split
  · exact Or.inl rfl
  · exact Or.inr ⟨_, rfl⟩
theorem picked_tame {f : PyData → Bool} {ds : List PyData} {k : Nat} (h : ∀ d ∈ ds, Tame 0 24 d) (hk : ds.length ≤ k) : TameL 0 (25 * k) (picked f (fun d => d) ds) := by
  unfold picked
  rw [List.map_id']
  have t := tameL_all (n := 0) (a := 24) (ds := ds.filter f) fun d hd => h d (List.mem_filter.mp hd).1
  have l := List.length_filter_le f ds
  exact t.mono (Nat.le_refl _) (Nat.mul_le_mul (Nat.le_refl _) (Nat.le_trans l hk))
theorem lawD_tame {t : Pt × Pt × Pt} (h1 : NearP t.1) (h2 : NearP t.2.1) (h3 : NearP t.2.2) : Tame 2 160 (lawD t) := by
  have one : ∀ {p : Pt}, NearP p → Tame 1 50 (pk p) := fun {p} h => by
    obtain ⟨⟨a1, a2⟩, a3, a4⟩ := h
    exact tame_knd (by omega) (by omega)
  have k := tameL_all (n := 1) (a := 50) (ds := [pk t.1, pk t.2.1, pk t.2.2]) fun d hd => by
    simp only [List.mem_cons, List.mem_nil_iff, or_false] at hd
    rcases hd with rfl | rfl | rfl
    · exact one h1
    · exact one h2
    · exact one h3
  exact (tame_tuple k).mono (Nat.le_refl _) (by show (50 + 1) * 3 ≤ 160; decide)
end Mm

set_option Elab.async false
set_option linter.all false
set_option maxRecDepth 100000
set_option maxHeartbeats 4000000
namespace Mm
open PySem PySem.Spec PyProof.Rows L2 Evl
/-! ### what an expression tells without the lists of before -/
theorem cutL_mono {H0 H1 H2 : Hp} (e : Ex H1 H2) : Ex (cutL H0 H1) (cutL H0 H2) := fun a o h => by
  rw [cutL_of (cutL_no h)]
  exact e a o (cutL_ex H0 H1 a o h)
def EvC (K : PySem.W.Frag) (H0 : Hp) (te : TE) (σ : L2.St) (H : Hp) (d : PyData) : Prop := ∀ H1, Ex H H1 → ∀ Q : VK, (∀ v H2, Ex H1 H2 → Da K (cutL H0 H2) v d → Q v H2) → te σ H1 Q
def EvCs (K : PySem.W.Frag) (H0 : Hp) (ta : TA) (σ : L2.St) (H : Hp) (ds : List PyData) : Prop := ∀ H1, Ex H H1 → ∀ Q : List V → Hp → Prop, (∀ vs H2, Ex H1 H2 → DaAll K (cutL H0 H2) vs ds → Q vs H2) → ta σ H1 Q
/-- a list that is made new -/
def EvCN (K : PySem.W.Frag) (H0 : Hp) (te : TE) (σ : L2.St) (H : Hp) (ds : List PyData) : Prop := ∀ H1, Ex H H1 → ∀ Q : VK, (∀ l xs H2, H1 l = none → Ex H1 H2 → H2 l = some (.lst xs) → DaAll K (cutL H0 H2) xs ds → Q (.ref l) H2) → te σ H1 Q
section
variable {K : PySem.W.Frag} {H0 H H' : Hp} {σ : L2.St} {ta tb te tl : TE} {tr : TA} {a d : PyData} {ds es : List PyData} {u z : TS} {D : Ends}
theorem use_ec {Q : VK} (h : EvC K H0 te σ H d) (n : ∀ v H1, Ex H H1 → Da K (cutL H0 H1) v d → Q v H1) : te σ H Q := h H (Ex.refl H) Q n
theorem ec_flat (e0 : Ey H0 H) (h : EvD K te σ H d) (f : flat d = true) : EvC K H0 te σ H d := fun H1 e Q q => h H1 e Q fun v H2 e2 dv => q v H2 e2 (flat_cutL (e0.trans (Ey.of (e.trans e2))) f dv)
theorem ec_is (h : EvC K H0 te σ H a) (e : a = d) : EvC K H0 te σ H d := e ▸ h
theorem ec_var {k : Nat} {v : V} (hk : σ[k]? = some (some v)) (h : Da K (cutL H0 H) v d) : EvC K H0 (tVar k) σ H d := fun H1 e Q q => ⟨v, hk, q v H1 (Ex.refl H1) (dpm (cutL_mono e) h)⟩
theorem es_nil : EvCs K H0 tNil σ H [] := fun H1 _ _ q => q [] H1 (Ex.refl H1) .nil
theorem es_cons (h : EvC K H0 te σ H a) (hr : EvCs K H0 tr σ H ds) : EvCs K H0 (tCons te tr) σ H (a :: ds) := fun H1 e Q q =>
  h H1 e _ fun x H2 e2 dx => hr H2 (e.trans e2) _ fun xs H3 e3 dxs => q (x :: xs) H3 (e2.trans e3) (.cons (dpm (cutL_mono e3) dx) dxs)
theorem ec_tup (e0 : Ey H0 H) (h : EvCs K H0 tr σ H ds) (hl : ds.length ≤ 100000 := by simp) : EvC K H0 (tTup tr) σ H (.tuple ds) := fun H1 e Q q =>
  h H1 e _ fun xs H2 e2 dxs => ⟨sz_of (by rw [dps_len dxs]; exact hl), fun p hp => q _ _ (e2.trans (Ex.new hp)) (.tup (SqT.of (by rw [cutL_at (e0.trans (Ey.of (e.trans e2))) hp]; exact upd_same)) (dpsm (cutL_mono (Ex.new hp)) dxs))⟩
theorem ecn_lst (h : EvCs K H0 tr σ H ds) (hl : ds.length ≤ 100000 := by simp) : EvCN K H0 (tLst tr) σ H ds := fun H1 e Q q =>
  h H1 e _ fun xs H2 e2 dxs => ⟨sz_of (by rw [dps_len dxs]; exact hl), fun p hp => q p xs _ (fresh_back e2 hp) (e2.trans (Ex.new hp)) upd_same (dpsm (cutL_mono (Ex.new hp)) dxs)⟩
theorem ecn_is (h : EvCN K H0 te σ H ds) (e : ds = es) : EvCN K H0 te σ H es := e ▸ h
theorem ecn_cat {k : Nat} {l : Addr} {xs : List V} (hk : σ[k]? = some (some (.ref l))) (hl : H l = some (.lst xs)) (hx : DaAll K (cutL H0 H) xs ds) (h : EvCN K H0 tb σ H es) (len : ds.length + es.length ≤ 100000) : EvCN K H0 (tOp rCat (tVar k) tb) σ H (ds ++ es) := fun H1 e Q q =>
  ⟨.ref l, hk, h H1 e _ fun l2 ys H2 nl2 e2 hl2 hy => ⟨l, l2, xs, ys, rfl, rfl, (e.trans e2) _ _ hl, hl2, sz_of (by rw [dps_len hx, dps_len hy]; exact len), fun p np => q p _ _ (fresh_back e2 np) (e2.trans (Ex.new np)) upd_same (dps_app (dpsm (cutL_mono (e.trans (e2.trans (Ex.new np)))) hx) (dpsm (cutL_mono (Ex.new np)) hy))⟩⟩
theorem ec_of_n (e0 : Ey H0 H) (h : EvCN K H0 te σ H ds) : EvC K H0 te σ H (.list ds) := fun H1 e Q q =>
  h H1 e _ fun l xs H2 nl e2 hl dx => q _ H2 e2 (.lst (SqL.of (by rw [cutL_at (e0.trans (Ey.of e)) nl]; exact hl)) dx)
theorem ecn_lstT (e0 : Ey H0 H) (h : EvD K te σ H (.tuple ds)) (f : flats ds = true) : EvCN K H0 (tCB (fLst K) (tCons te tNil)) σ H ds := fun H1 e Q q =>
  en_lstT h H1 e Q fun l xs H2 nl e2 hl dx => q l xs H2 nl e2 hl (dpst (cutL_et (e0.trans (Ey.of (e.trans e2)))) f dx)
theorem ec_cat (e0 : Ey H0 H) (ha : EvC K H0 ta σ H (.tuple ds)) (hb : EvC K H0 tb σ H (.tuple es)) (len : ds.length + es.length ≤ 100000) : EvC K H0 (tOp (rCatA K) ta tb) σ H (.tuple (ds ++ es)) := fun H1 e Q q =>
  ha H1 e _ fun x H2 e2 dx => hb H2 (e.trans e2) _ fun y H3 e3 dy => by
    obtain ⟨p, xs, rfl, h1, a1⟩ := dp_tupI (dpm (cutL_mono e3) dx)
    obtain ⟨r, ys, rfl, h2, a2⟩ := dp_tupI dy
    have l1 := dps_len a1
    have l2 := dps_len a2
    have e03 : Ey H0 H3 := e0.trans (Ey.of ((e.trans e2).trans e3))
    refine ⟨p, r, xs, ys, rfl, rfl, ex_t (cutL_ex _ _) h1, ex_t (cutL_ex _ _) h2, sz_of (by omega), fun z => ?_, fun _ z => ?_, fun _ _ t nt => q _ _ ((e2.trans e3).trans (Ex.new nt)) (.tup (SqT.of (by rw [cutL_at e03 nt]; exact upd_same)) (dpsm (cutL_mono (Ex.new nt)) (dps_app a1 a2)))⟩
    · subst z
      cases a1
      exact q _ H3 (e2.trans e3) (.tup h2 a2)
    · subst z
      cases a2
      rw [List.append_nil] at q
      exact q _ H3 (e2.trans e3) (.tup h1 a1)
theorem ec_ixV {k : Nat} {l : Addr} {xs : List V} {i : Int} (hk : σ[k]? = some (some (.ref l))) (hl : H l = some (.lst xs)) (hx : DaAll K (cutL H0 H) xs ds) (hb : EvD K tb σ H (.int i)) (hi : atI ds i = some d) : EvC K H0 (tOp (rIxA K) (tVar k) tb) σ H d := fun H1 e Q q =>
  ⟨.ref l, hk, hb H1 e _ fun y H2 e2 dy => by
    cases dp_intI dy
    obtain ⟨v, e1, dv⟩ := atI_dp (dpsm (cutL_mono (e.trans e2)) hx) hi
    exact Or.inl ⟨l, xs, i, v, rfl, rfl, SqL.of ((e.trans e2) _ _ hl), e1, q v H2 e2 dv⟩⟩
theorem qc_asgN {k : Nat} (h : EvCN K H0 te σ H ds) (n : ∀ l xs H1, H l = none → Ex H H1 → H1 l = some (.lst xs) → DaAll K (cutL H0 H1) xs ds → z D (σ.set k (some (.ref l))) H1) : tSeq (tAsg te (gName k)) z D σ H :=
  h H (Ex.refl H) _ n
end
/-! ### what a spoilt plan is -/
/-- a twine otherwise: few items, all of them small -/
def ItP (d : PyData) : Prop := ∃ ks, (d = .tuple ks ∨ d = .list ks) ∧ ks.length ≤ 140 ∧ TRL 2 9000 ks
theorem it_short {d : PyData} (h : ItP d) : Short d := fun ks e => by
  obtain ⟨ks', hk, l, _⟩ := h
  rcases hk with rfl | rfl
  · injection e with e
    subst e
    omega
  · cases e
theorem it_tr {d : PyData} (h : ItP d) : TameR 3 9000 d := by
  obtain ⟨ks', hk, l, k⟩ := h
  rcases hk with rfl | rfl
  · exact (tr_tuple k).mono (Nat.le_refl _) (Nat.le_refl _)
  · exact (tr_list k).mono (Nat.le_refl _) (Nat.le_refl _)
theorem trl_w {n u v : Nat} {ds : List PyData} (h : TRL n u ds) (hn : u ≤ v) : TRL n v ds := ⟨h.sh, h.dp, h.lf, Nat.le_trans h.wt hn⟩
theorem it_of {ks : List PyData} {u : Nat} (l : ks.length ≤ 140) (h : TRL 2 u ks) (hu : u ≤ 9000) : ItP (.tuple ks) := ⟨ks, Or.inl rfl, l, trl_w h hu⟩
theorem fl_cut {ds : List PyData} {lo hi : Option Int} (h : flats ds = true) : flats (cutD ds lo hi) = true := flats_all fun d hd => flats_mem h (cutD_mem hd)
theorem fl_rev {ds : List PyData} (h : flats ds = true) : flats ds.reverse = true := flats_all fun d hd => flats_mem h (List.mem_reverse.mp hd)
theorem fl_app {as bs : List PyData} (h1 : flats as = true) (h2 : flats bs = true) : flats (as ++ bs) = true := by rw [flats_app, h1, h2]; rfl
theorem fl_tup {ds : List PyData} (h : flats ds = true) : flat (.tuple ds) = true := h
theorem fl_cons {d : PyData} {ds : List PyData} (h1 : flat d = true) (h2 : flats ds = true) : flats (d :: ds) = true := by simp only [flats, h1, h2, Bool.and_self]
theorem cutD_at0 {ds : List PyData} {i : Nat} (h : i < ds.length) : cutD ds (some (i : Int)) (some ((i : Int) + 1)) = [ds[i]] := by
  unfold cutD
  have e1 : HT.sIx ds.length 0 (some (i : Int)) = min i ds.length := HT.sIx_nat _ _ i
  have e2 : HT.sIx ds.length ds.length (some ((i : Int) + 1)) = min (i + 1) ds.length := by
    rw [show ((i : Int) + 1) = ((i + 1 : Nat) : Int) by omega]
    exact HT.sIx_nat _ _ (i + 1)
  rw [e1, e2, Nat.min_eq_left (by omega), Nat.min_eq_left (by omega), show i + 1 - i = 1 by omega, ← List.getElem_cons_drop h]
  rfl
theorem cutD_at' {ds : List PyData} {i : Nat} {d : PyData} (h : ds[i]? = some d) : cutD ds (some (i : Int)) (some ((i : Int) + 1)) = [d] := by
  obtain ⟨l, e⟩ := List.getElem?_eq_some_iff.mp h
  rw [cutD_at0 l, e]
/-- as spWalked, and how many knots there are -/
def spSpoilt (K : PySem.W.Frag) : Sp := fun vs H Q _ => ∃ (D L : Addr) (ns : List Int) (B : Nat) (x y : V) (a b : Int) (tws : List (List Pt)), vs = [.ref D, x, y] ∧ Dk H D L ns B ∧ B < 700000000 ∧ Sheet a b ∧ Da K H x (shd a b) ∧ (∀ t ∈ tws, Tw a b t) ∧ 1 ≤ tws.length ∧ tws.length ≤ 64 ∧ totL tws ≤ 128 ∧ Da K H y (.tuple (tws.map twD)) ∧
  ∀ (v : V) (d : PyData) (H' : Hp), Ey H H' → Dk H' D L ns (B + 10) → Da K (cutL H H') v d → OkP d → Q v H'
/-! ### a list that grows, and what lies in it -/
/-- the heap without one of its things -/
def hide (l : Addr) (H : Hp) : Hp := fun a => if a = l then none else H a
theorem hide_some {l a : Addr} {H : Hp} {o : HO} (h : hide l H a = some o) : a ≠ l ∧ H a = some o := by
  unfold hide at h
  split at h
  · cases h
  · exact ⟨‹_›, h⟩
theorem hide_at {l a : Addr} {H : Hp} (h : a ≠ l) : hide l H a = H a := if_neg h
theorem hide_ex (l : Addr) (H : Hp) : Ex (hide l H) H := fun a o h => (hide_some h).2
theorem hide_ey {l : Addr} {H H' : Hp} (e : Ey H H') : Ey (hide l H) (hide l H') := fun a o h n => by
  obtain ⟨h1, h2⟩ := hide_some h
  rw [hide_at h1]
  exact e a o h2 n
theorem hide_mono {l : Addr} {H H' : Hp} (e : Ex H H') : Ex (hide l H) (hide l H') := fun a o h => by
  obtain ⟨h1, h2⟩ := hide_some h
  rw [hide_at h1]
  exact e a o h2
theorem hide_upd {l : Addr} {H : Hp} {o : HO} : hide l (upd H l o) = hide l H := by
  funext a
  by_cases e : a = l
  · subst e
    unfold hide
    rw [if_pos rfl, if_pos rfl]
  · rw [hide_at e, hide_at e, upd_ne e]
theorem hide_new {l : Addr} {H H' : Hp} (n : H l = none) (e : Ex H H') : Ex H (hide l H') := fun a o h => by
  rw [hide_at fun z => by rw [z, n] at h; cases h]
  exact e a o h
theorem cutL_hide {l : Addr} {H0 H : Hp} {xs : List V} (h : H0 l = some (.lst xs)) : Ex (cutL H0 H) (hide l H) := fun a o e => by
  rw [hide_at fun z => cutL_no e xs (by rw [z]; exact h)]
  exact cutL_ex H0 H a o e
section
variable {K : PySem.W.Frag} {H H' : Hp} {σ : L2.St} {ta tb te tl : TE} {tr : TA} {ds es : List PyData} {u z : TS} {D : Ends}
theorem qh_asgL {k : Nat} (h : EvDs K tr σ H ds) (hl : ds.length ≤ 100000) (n : ∀ l xs H1, Ex H H1 → DaAll K H1 xs ds → H1 l = none → z D (σ.set k (some (.ref l))) (upd H1 l (.lst xs))) : tSeq (tAsg (tLst tr) (gName k)) z D σ H :=
  h H (Ex.refl H) _ fun xs H2 e2 dxs => ⟨sz_of (by rw [dps_len dxs]; exact hl), fun p hp => n p xs H2 e2 dxs hp⟩
theorem qh_asgCat {j k : Nat} {l : Addr} {xs : List V} (hk : σ[k]? = some (some (.ref l))) (hl : H l = some (.lst xs)) (hx : DaAll K H xs ds) (h : EvDs K tr σ H es) (len : ds.length + es.length ≤ 100000)
    (n : ∀ p ys H1, Ex H H1 → DaAll K H1 (xs ++ ys) (ds ++ es) → H1 p = none → z D (σ.set j (some (.ref p))) (upd H1 p (.lst (xs ++ ys)))) : tSeq (tAsg (tOp rCat (tVar k) (tLst tr)) (gName j)) z D σ H :=
  ⟨.ref l, hk, h H (Ex.refl H) _ fun ys H2 e2 dys => ⟨sz_of (by rw [dps_len dys]; omega), fun p hp =>
    have ex := Ex.new (o := .lst ys) hp
    ⟨l, p, xs, ys, rfl, rfl, ex _ _ (e2 _ _ hl), upd_same, sz_of (by rw [dps_len hx, dps_len dys]; exact len), fun q hq => n q ys _ (e2.trans ex) (dps_app (dpsm (e2.trans ex) hx) (dpsm ex dys)) hq⟩⟩⟩
end
theorem Et.hide {l : Addr} {H : Hp} {xs : List V} (h : H l = some (.lst xs)) : Et H (hide l H) := fun a o e k => by
  rw [hide_at fun z => ?_]
  · exact e
  · rw [z, h] at e
    cases e
    rcases k with ⟨_, z | ⟨_, z⟩⟩ <;> cases z
theorem tr_revT {n w : Nat} {es : List PyData} (h : TameR n w (.tuple es)) : TameR n w (.tuple es.reverse) := by
  have h0 := h
  obtain ⟨a, b, c, d⟩ := h
  simp only [PyData.showable, PyData.depth, PyData.leavesShort, PyData.weight] at a b c d
  have k : TRL (n - 1) (PyData.weightAll es) es := ⟨a, by omega, c, Nat.le_refl _⟩
  have r := tr_tuple (trl_rev k)
  exact r.mono (by omega) (by omega)
theorem trl_two {tws : List (List Pt)} (h : ∀ t ∈ tws, 2 ≤ t.length) : 2 * tws.length ≤ totL tws := by
  induction tws with
  | nil => simp [totL]
  | cons t ts ih =>
    have h1 := h t List.mem_cons_self
    have h2 := ih fun u hu => h u (List.mem_cons_of_mem _ hu)
    show 2 * (ts.length + 1) ≤ t.length + totL ts
    omega
/-- as spWalkedT, and there are twines where there are bars -/
def spWalkedU (K : PySem.W.Frag) : Sp := fun vs H Q _ => ∃ (D L : Addr) (ns : List Int) (B : Nat) (x y : V) (a b : Int) (zs : List Int), vs = [.ref D, x, y] ∧ Dk H D L ns B ∧ B < 700000000 ∧ Sheet a b ∧ Da K H x (shd a b) ∧ Tear a b zs ∧ Da K H y (tearD zs) ∧
  ∀ (v : V) (tws : List (List Pt)) (H' : Hp), Ey H H' → Dk H' D L ns (B + 10000) → (∀ t ∈ tws, Tw a b t) → tws.length ≤ 64 → totL tws ≤ 2 * zs.length → zs.length ≤ 64 * tws.length → Da K H' v (.tuple (tws.map twD)) → Q v H'
end Mm

set_option Elab.async false
set_option linter.all false
set_option maxRecDepth 100000
set_option maxHeartbeats 4000000
namespace Mm
open PySem PySem.Spec PyProof.Rows L2 Evl
/-! ### meshes taken -/
def tkI (l g k : Int) : Int := (k + 1) * g / l - k * g / l
def takD (l g : Int) : PyData := .tuple ((upto l.toNat).map fun d => .int (tkI l g (intOf d)))
theorem tk_bound {l g : Int} {k : Nat} (hl : 1 ≤ l) (kl : (k : Int) < l) (l1 : l ≤ 1000) (g0 : 0 ≤ g) (g1 : g ≤ 1000) : (0 ≤ ((k : Int) + 1) * g ∧ ((k : Int) + 1) * g ≤ 1000000) ∧ (0 ≤ (k : Int) * g ∧ (k : Int) * g ≤ 1000000) ∧ (tkI l g k).natAbs < 2 ^ 24 := by
  have a0 : 0 ≤ ((k : Int) + 1) * g := Int.mul_nonneg (by omega) g0
  have b0 : 0 ≤ (k : Int) * g := Int.mul_nonneg (by omega) g0
  have a1 : ((k : Int) + 1) * g ≤ 1000 * g := Int.mul_le_mul_of_nonneg_right (by omega) g0
  have b1 : (k : Int) * g ≤ 1000 * g := Int.mul_le_mul_of_nonneg_right (by omega) g0
  have a2 := Int.ediv_le_self l a0
  have b2 := Int.ediv_le_self l b0
  have a3 : 0 ≤ ((k : Int) + 1) * g / l := Int.ediv_nonneg a0 (by omega)
  have b3 : 0 ≤ (k : Int) * g / l := Int.ediv_nonneg b0 (by omega)
  refine ⟨⟨a0, by omega⟩, ⟨b0, by omega⟩, ?_⟩
  show ((((k : Int) + 1) * g / l - (k : Int) * g / l)).natAbs < 16777216
  omega
theorem take_tame {l g : Int} (hl : 1 ≤ l) (l1 : l ≤ 1000) (g0 : 0 ≤ g) (g1 : g ≤ 1000) : Tame 1 26000 (takD l g) := by
  have k : TameL 0 ((24 + 1) * ((upto l.toNat).map fun d => PyData.int (tkI l g (intOf d))).length) ((upto l.toNat).map fun d => PyData.int (tkI l g (intOf d))) := tameL_all fun d hd => by
    obtain ⟨e, he, rfl⟩ := List.mem_map.mp hd
    obtain ⟨i, hi, rfl⟩ := upto_mem he
    exact tame_int (n := 0) (w := 24) (tk_bound (k := i) hl (by omega) l1 g0 g1).2.2 (Nat.le_refl _)
  rw [List.length_map, upto_len] at k
  exact (tame_tuple k).mono (Nat.le_refl _) (by omega)
def RTak (ds : List PyData) (d : PyData) : Prop := ∃ x y : Int, (1 ≤ x ∧ x ≤ 1000) ∧ (1 ≤ y ∧ y ≤ 1000) ∧ ds = [.int x, .int y] ∧ d = takD (if y < x then y else x) (if y > x then y else x)
end Mm

set_option Elab.async false
set_option linter.all false
set_option maxRecDepth 100000
set_option maxHeartbeats 4000000
namespace Mm
open PySem PySem.Spec PyProof.Rows L2 Evl
open TL (tl tl_append joinL tl_join join_eq)
/-! ### texts: join, +, and lists of lists -/
def rJoinK (K : PySem.W.Frag) : V → List V → Hp → VK → Prop := fun x xs H Q => ∃ a p, ∃ ys : List Str, x = .str a ∧ xs = [.ref p] ∧ (SqL K H p (ys.map V.str) ∨ SqT K H p (ys.map V.str)) ∧
  (ys.map (·.length)).sum + ys.length * a.length ≤ 16777216 ∧ Q (.str (Txt.join a ys)) H
def rAddS : R2 := fun x y H Q => ∃ i j, x = .str i ∧ y = .str j ∧ i.length + j.length ≤ sizeLine ∧ Q (.str (i ++ j)) H
section
variable {X : Cx} {K : PySem.W.Frag} {o e : Expr} {to te : TE} {apos pos : Pos}
theorem pe_joinK (h : X.K = K) (ho : PE X o to) (he : PE X e te) (hs : starEach [e] X.env = [(false, eval e X.env)] := by rfl) (hbase : attributeBase o "join" X.env (eval o X.env) = eval o X.env := by rfl) (hline : (apos.endLine == pos.line) = true := by rfl) :
    PE X (.Call (.Attribute o "join" apos) [e] [] pos) (tM1 (rJoinK K) to te) := h ▸ pe_join ho he hs hbase hline
theorem op_addS : OpR X (binaryOp .Add) rAddS := op_add_str
end
section
variable {K : PySem.W.Frag} {H H' : Hp} {σ : L2.St} {ta tb te tl : TE} {trA : TA} {ds es : List PyData} {x y : Str}
theorem strs_of : ∀ {ys : List Str} {xs : List V}, DaAll K H xs (ys.map .str) → xs = ys.map V.str
  | [], _, .nil => rfl
  | y :: ys, _, .cons h r => by
    cases h
    rw [strs_of r]
    rfl
theorem ed_join {a : Str} {ys : List Str} (h : EvD K te σ H (.list (ys.map .str))) (hl : (ys.map (·.length)).sum + ys.length * a.length ≤ 16777216) : EvD K (tM1 (rJoinK K) (tC (.str a)) te) σ H (.str (Txt.join a ys)) := fun H1 e Q q =>
  ⟨⟨a, rfl⟩, h H1 e _ fun v H2 e2 dv => by
    obtain ⟨p, xs, rfl, hp, ha⟩ := dp_lstI dv
    rw [strs_of ha] at hp
    exact ⟨a, p, ys, rfl, rfl, Or.inl hp, hl, q _ H2 e2 (.str _)⟩⟩
theorem opD_addS (h : x.length + y.length ≤ 16777216) : OpD K rAddS (.str x) (.str y) (.str (x ++ y)) := fun H1 u v hu hv Q q => by
  cases hu
  cases hv
  exact ⟨x, y, rfl, rfl, by rw [sizeLine_eq]; exact h, q _ H1 (Ex.refl H1) (.str _)⟩
/-- rows of a list, each a list of its own -/
theorem en_lcRL {vs : List Nat} {j : Nat} {n : Int} (m : Nat → List PyData) (h : EvDs K trA σ H [.int n]) (hn : -100000 ≤ n ∧ n ≤ 50000) (hw : ∀ x, wipe ((wipe σ vs).set j (some x)) vs = wipe σ vs)
    (he : ∀ (i : Nat) H1, Ex H H1 → (i : Int) < n → EvN K te ((wipe σ vs).set j (some (.int (i : Int)))) H1 (m i)) (hf : ∀ i, flats (m i) = true) :
    EvN K (tLc (iRng1 trA) (gName j) tYes te vs) σ H ((List.range n.toNat).map fun i => .list (m i)) := fun H0 e0 Q q => h H0 e0 _ fun ws H1 e1 dv => by
  cases dv with
  | cons h1 hx =>
    cases hx
    cases h1
    refine ⟨n, rfl, by omega, by omega, fun Dl hD => lc_range (lo := 0) (n := n.toNat) (fun i H' => ∃ acc, Ex H1 H' ∧ H' Dl = some (.lst acc) ∧ DaAll K (hide Dl H') acc ((List.range i).map fun i => .list (m i))) ⟨[], Ex.new hD, upd_same, .nil⟩ (fun i H' hi k => ?_) (fun H' k => ?_)⟩
    · obtain ⟨acc, ex, hl, ha⟩ := k
      have e2 : (0 : Int) + (i : Int) = (i : Int) := Int.zero_add _
      show gName j (.int ((0 : Int) + (i : Int))) _ _ _
      rw [e2]
      refine ⟨hw _, ?_⟩
      unfold tYes
      dsimp only
      rw [if_pos rfl]
      refine he i H' ((e0.trans e1).trans ex) (by omega) H' (Ex.refl _) _ fun l xs H2 nl e2 hl2 hx => ?_
      have nld : l ≠ Dl := fun z => by
        rw [z, hl] at nl
        cases nl
      have al := dps_len ha
      rw [List.length_map, List.length_range] at al
      refine ⟨acc, e2 _ _ hl, sz_lt (by omega), acc ++ [.ref l], ex_upd (ex.trans e2) hD, upd_same, ?_⟩
      rw [hide_upd, List.range_succ, List.map_append]
      exact dps_app (dpsm (hide_mono e2) ha) (.cons (.lst (SqL.of (by rw [hide_at nld]; exact hl2)) (dpst (Et.hide (e2 _ _ hl)) (hf i) hx)) .nil)
    · obtain ⟨acc, ex, hl, ha⟩ := k
      exact q Dl acc H' (fresh_back e1 hD) (e1.trans ex) hl (dpsm (hide_ex _ _) ha)
end
theorem tl_len (z : Str) : z.length = (tl z).length := by
  show z.cps.size = z.cps.toList.length
  rw [Array.length_toList]
theorem len_addS (x y : Str) : (x ++ y).length = x.length + y.length := by
  rw [tl_len, tl_len, tl_len, tl_append, List.length_append]
theorem joinL_nil : ∀ (ps : List (List Nat)), joinL [] ps = ps.flatten
  | [] => rfl
  | [p] => by simp [joinL]
  | p :: q :: r => by
    show p ++ ([] ++ joinL [] (q :: r)) = _
    rw [joinL_nil (q :: r)]
    rfl
theorem tl_join0 (ys : List Str) : tl (Txt.join (Str.ofString "") ys) = (ys.map tl).flatten := by
  rw [join_eq, tl_join, show tl (Str.ofString "") = [] from rfl, joinL_nil]
theorem len_join0 (ys : List Str) : (Txt.join (Str.ofString "") ys).length = (ys.map (·.length)).sum := by
  rw [tl_len, tl_join0, List.length_flatten, List.map_map]
  congr 1
theorem sum_le {ys : List Str} {m : Nat} (h : ∀ y ∈ ys, y.length ≤ m) : (ys.map (·.length)).sum ≤ m * ys.length := by
  induction ys with
  | nil => simp
  | cons y ys ih =>
    have h1 := h y List.mem_cons_self
    have h2 := ih fun u hu => h u (List.mem_cons_of_mem _ hu)
    simp only [List.map_cons, List.sum_cons, List.length_cons, Nat.mul_add]
    omega
theorem join_ok {ys : List Str} {m : Nat} (h : ∀ y ∈ ys, y.length ≤ m) (k : m * ys.length ≤ 16777216) : (ys.map (·.length)).sum + ys.length * (Str.ofString "").length ≤ 16777216 := by
  have := sum_le h
  rw [show (Str.ofString "").length = 0 from rfl]
  omega
theorem tr_str {x : Str} (h : ∀ c ∈ tl x, c < 16 ^ 8) : TameR 0 x.length (.str x) := by
  refine ⟨?_, ?_, ?_, ?_⟩
  · rfl
  · simp [PyData.depth]
  · show (tl x).all _ = true
    rw [List.all_eq_true]
    exact fun c hc => decide_eq_true (h c hc)
  · exact Nat.le_refl _
/-! ### the text of a net -/
def wholeS (r c : Int) : Str := if decide ((r + c) % 2 = 0) = true then Str.ofString "\\" else Str.ofString "/"
def signS (b : Int) (zs : List Int) (r c : Int) : Str := if ((zs.map PyData.int).any fun z => PyData.eqv z (.int (r * b + c))) = true then Str.ofString "." else wholeS r c
def rowS (b : Int) (zs : List Int) (r : Int) : List Str := (List.range b.toNat).map fun c : Nat => signS b zs r (c : Int)
def lineS (b : Int) (zs : List Int) (r : Int) : Str := Txt.join (Str.ofString "") (rowS b zs r) ++ Str.ofString "\n"
def textS (a b : Int) (zs : List Int) : Str := Txt.join (Str.ofString "") ((List.range a.toNat).map fun r : Nat => lineS b zs (r : Int))
theorem whole_one (r c : Int) : (wholeS r c).length = 1 ∧ ∀ u ∈ tl (wholeS r c), u < 16 ^ 8 := by
  unfold wholeS
  split <;> exact ⟨rfl, by decide⟩
theorem sign_one (b : Int) (zs : List Int) (r c : Int) : (signS b zs r c).length = 1 ∧ ∀ u ∈ tl (signS b zs r c), u < 16 ^ 8 := by
  unfold signS
  split
  · exact ⟨rfl, by decide⟩
  · exact whole_one r c
theorem row_ok {b : Int} (hb : b ≤ 8) (zs : List Int) (r : Int) : (∀ y ∈ rowS b zs r, y.length ≤ 1) ∧ (rowS b zs r).length ≤ 8 := by
  refine ⟨fun y hy => ?_, ?_⟩
  · obtain ⟨c, _, rfl⟩ := List.mem_map.mp hy
    exact Nat.le_of_eq (sign_one _ _ _ _).1
  · unfold rowS
    rw [List.length_map, List.length_range]
    omega
theorem line_ok {b : Int} (hb : b ≤ 8) (zs : List Int) (r : Int) : (lineS b zs r).length ≤ 9 ∧ ∀ u ∈ tl (lineS b zs r), u < 16 ^ 8 := by
  obtain ⟨h1, h2⟩ := row_ok hb zs r
  have := sum_le h1
  refine ⟨?_, fun u hu => ?_⟩
  · unfold lineS
    rw [len_addS, len_join0, show (Str.ofString "\n").length = 1 from rfl]
    omega
  · unfold lineS at hu
    rw [tl_append, tl_join0] at hu
    rcases List.mem_append.mp hu with h | h
    · obtain ⟨l, hl, hu⟩ := List.mem_flatten.mp h
      obtain ⟨y, hy, rfl⟩ := List.mem_map.mp hl
      obtain ⟨c, _, rfl⟩ := List.mem_map.mp hy
      exact (sign_one _ _ _ _).2 u hu
    · exact (show ∀ u ∈ tl (Str.ofString "\n"), u < 16 ^ 8 by decide) u h
theorem lines_ok {a b : Int} (ha : a ≤ 8) (hb : b ≤ 8) (zs : List Int) : (∀ y ∈ (List.range a.toNat).map fun r : Nat => lineS b zs (r : Int), y.length ≤ 9) ∧ ((List.range a.toNat).map fun r : Nat => lineS b zs (r : Int)).length ≤ 8 := by
  refine ⟨fun y hy => ?_, ?_⟩
  · obtain ⟨c, _, rfl⟩ := List.mem_map.mp hy
    exact (line_ok hb _ _).1
  · rw [List.length_map, List.length_range]
    omega
theorem text_tr {a b : Int} (ha : a ≤ 8) (hb : b ≤ 8) (zs : List Int) : TameR 0 80 (.str (textS a b zs)) := by
  obtain ⟨h1, h2⟩ := lines_ok ha hb zs
  have := sum_le h1
  refine (tr_str fun u hu => ?_).mono (Nat.le_refl _) (by unfold textS; rw [len_join0]; omega)
  unfold textS at hu
  rw [tl_join0] at hu
  obtain ⟨l, hl, hu⟩ := List.mem_flatten.mp hu
  obtain ⟨y, hy, rfl⟩ := List.mem_map.mp hl
  obtain ⟨c, _, rfl⟩ := List.mem_map.mp hy
  exact (line_ok hb _ _).2 u hu
def RWhole (ds : List PyData) (d : PyData) : Prop := ∃ r c : Int, ds = [.int r, .int c] ∧ d = .str (wholeS r c)
def RSign (ds : List PyData) (d : PyData) : Prop := ∃ (a b r c : Int) (zs : List Int), Sheet a b ∧ Tear a b zs ∧ (0 ≤ r ∧ r ≤ 8) ∧ (0 ≤ c ∧ c ≤ 8) ∧ ds = [tearD zs, .int b, .int r, .int c] ∧ d = .str (signS b zs r c)
def RText (ds : List PyData) (d : PyData) : Prop := ∃ (a b : Int) (zs : List Int), Sheet a b ∧ Tear a b zs ∧ ds = [shd a b, tearD zs] ∧ d = .str (textS a b zs)
def strOf : PyData → Str
  | .str x => x
  | _ => Str.ofString ""
def strsOf : PyData → List Str
  | .list ds => ds.map strOf
  | _ => []
end Mm

set_option Elab.async false
set_option linter.all false
set_option maxRecDepth 100000
set_option maxHeartbeats 4000000
namespace Mm
open PySem PySem.Spec PyProof.Rows L2 Evl
open TL (tl tl_append joinL tl_join join_eq ext_tl)
/-! ### strings by their signs -/
def rIxAS (K : PySem.W.Frag) : R2 := fun x y H Q => rIxA K x y H Q ∨ rIxS x y H Q
def fLenS (K : PySem.W.Frag) : List V → Hp → VK → Prop := fun xs H Q => fLen K xs H Q ∨ ∃ z : Str, xs = [.str z] ∧ z.length ≤ 16777216 ∧ Q (.int z.length) H
def rMulS : R2 := fun x y H Q => ∃ z n, x = .str z ∧ y = .int n ∧ MulOk z n ∧ Q (.str (Txt.mul z n)) H
section
variable {X : Cx} {K : PySem.W.Frag}
theorem ixSK (h : X.K = K) : IxR X (rIxAS K) := h ▸ IxR.or ixA ix_str
theorem fr_lenSK (h : X.K = K) : CallR X (.builtin "len") (fLenS K) := fun pins s σ H xs us Q I r hq => by
  rcases hq with hq | ⟨z, rfl, hz, q⟩
  · exact fr_lenK h pins s σ H xs us Q I r hq
  · exact call_len pins s σ H _ us Q I r ⟨_, _, rfl, ⟨by rw [sizeLine_eq]; exact hz, rfl⟩, q⟩
theorem op_mulS : OpR X (binaryOp .Mult) rMulS := by
  intro pins s σ H x y v u Q I rx ry h
  obtain ⟨z, n, rfl, rfl, hz, q⟩ := h
  obtain ⟨t, rfl⟩ := rx
  obtain ⟨t', rfl⟩ := ry
  exact PySem.SB.mul hz (fun t' k => ⟨.str _, H, I.tok _, ⟨t', rfl⟩, q⟩)
end
section
variable {K : PySem.W.Frag} {H H' : Hp} {σ : L2.St} {ta tb te : TE} {tr : TA} {ds : List PyData} {d : PyData} {x y z : Str} {i : Int}
theorem opD_eqS : OpD K (rEqA K) (.str x) (.str y) (.bool (decide (x = y))) := fun H1 u w hx hy Q q => by
  cases hx
  cases hy
  refine Or.inl ⟨rfl, ?_⟩
  have e : decide (V.str x = V.str y) = decide (x = y) := by
    by_cases h : x = y
    · rw [h, decide_eq_true rfl, decide_eq_true rfl]
    · rw [decide_eq_false h, decide_eq_false (fun z => h (V.str.inj z))]
  rw [e]
  exact q _ H1 (Ex.refl H1) (.bl _)
theorem ed_slS {t1 t2 : TO} {lo hi : Option Int} (h : EvD K te σ H (.str z)) (hz : z.length ≤ 16777216) (hl : ∀ H1, Ex H H1 → ∀ Q : Option Int → Hp → Prop, (∀ H2, Ex H1 H2 → Q lo H2) → t1 σ H1 Q) (hh : ∀ H1, Ex H H1 → ∀ Q : Option Int → Hp → Prop, (∀ H2, Ex H1 H2 → Q hi H2) → t2 σ H1 Q) :
    EvD K (tSl rSlS te t1 t2) σ H (.str (cutS z lo hi)) := fun H1 e Q q => h H1 e _ fun v H2 e2 dv => hl H2 (e.trans e2) _ fun H3 e3 => hh H3 ((e.trans e2).trans e3) _ fun H4 e4 => by
  cases dv
  exact ⟨z, rfl, by rw [sizeLine_eq]; exact hz, q _ H4 ((e2.trans e3).trans e4) (.str _)⟩
theorem opD_ixS {c : Nat} (hz : z.length ≤ 16777216) (e : atI (tl z) i = some c) : OpD K (rIxAS K) (.str z) (.int i) (.str ⟨#[c]⟩) := fun H1 u w hx hy Q q => by
  cases hx
  cases hy
  exact Or.inr ⟨z, i, c, rfl, rfl, by rw [sizeLine_eq]; exact hz, e, q _ H1 (Ex.refl H1) (.str _)⟩
theorem opD_ixSL (e : atI ds i = some d) : OpD K (rIxAS K) (.list ds) (.int i) d := fun H1 x y hx hy Q q => Or.inl (opD_ixL e H1 x y hx hy Q q)
theorem opD_ixST (e : atI ds i = some d) : OpD K (rIxAS K) (.tuple ds) (.int i) d := fun H1 x y hx hy Q q => Or.inl (opD_ixT e H1 x y hx hy Q q)
theorem cd_lenSS (hz : z.length ≤ 16777216) : CallD K (fLenS K) [.str z] (.int z.length) := fun H1 xs hx Q q => by
  cases hx with
  | cons h t =>
    cases t
    cases h
    exact Or.inr ⟨z, rfl, hz, q _ H1 (Ex.refl H1) (.int _)⟩
theorem cd_lenSL : CallD K (fLenS K) [.list ds] (.int ds.length) := fun H1 xs hx Q q => Or.inl (cd_lenL H1 xs hx Q q)
theorem opD_mulS {n : Int} (h : MulOk z n) : OpD K rMulS (.str z) (.int n) (.str (Txt.mul z n)) := fun H1 u w hx hy Q q => by
  cases hx
  cases hy
  exact ⟨z, n, rfl, rfl, h, q _ H1 (Ex.refl H1) (.str _)⟩
end
theorem foldl_app (c : Array Nat) : ∀ (n : Nat) (acc : Array Nat), ((List.replicate n c).foldl (· ++ ·) acc).toList = acc.toList ++ (List.replicate n c.toList).flatten
  | 0, acc => by simp
  | n + 1, acc => by
    rw [List.replicate_succ, List.foldl_cons, foldl_app c n, List.replicate_succ, List.flatten_cons, Array.toList_append, List.append_assoc]
theorem tl_mul (z : Str) (n : Nat) : tl (Txt.mul z (n : Int)) = (List.replicate n (tl z)).flatten := by
  unfold Txt.mul
  by_cases h1 : (n : Int) < 1
  · rw [if_pos h1]
    obtain rfl : n = 0 := by omega
    rfl
  · rw [if_neg h1]
    by_cases h2 : ((n : Int) == 1 || z.length == 0) = true
    · rw [if_pos h2]
      rcases Bool.or_eq_true_iff.mp h2 with h | h
      · have : (n : Int) = 1 := by simpa using h
        obtain rfl : n = 1 := by omega
        simp
      · have h : z.length = 0 := by simpa using h
        have e : tl z = [] := List.eq_nil_of_length_eq_zero (by rw [← tl_len]; exact h)
        rw [e]
        simp
    · rw [if_neg h2]
      show ((List.replicate (n : Int).toNat z.cps).foldl (· ++ ·) #[]).toList = _
      rw [foldl_app, Int.toNat_natCast]
      simp
theorem len_mul (z : Str) (n : Nat) : (Txt.mul z (n : Int)).length = n * z.length := by
  rw [tl_len, tl_mul, List.length_flatten, List.map_replicate, List.sum_replicate_nat, ← tl_len]
theorem tooLong_no {n : Nat} (h : n ≤ 100000) : Builtin.Str.tooLong n = false := by
  unfold Builtin.Str.tooLong
  exact decide_eq_false (by have := sizeLine_eq; omega)
theorem mul_ok {z : Str} {n : Nat} (h : n * z.length ≤ 100000) (hn : n ≤ 100000) : MulOk z (n : Int) := by
  refine ⟨?_, fun h1 _ => ?_, fun h1 _ => ?_⟩
  · simp only [Bool.or_eq_false_iff, decide_eq_false_iff_not]
    omega
  · have p : 0 < (n : Int) := by omega
    have k : (z.length : Int) * (n : Int) ≤ 2 ^ 63 - 1 := by
      have e : ((n * z.length : Nat) : Int) = (z.length : Int) * (n : Int) := by rw [Nat.mul_comm, Int.natCast_mul]
      omega
    have := (Int.le_ediv_iff_mul_le p).mpr k
    omega
  · have e : z.length * (n : Int).toNat = n * z.length := by rw [Int.toNat_natCast, Nat.mul_comm]
    rw [e]
    exact tooLong_no (by omega)
/-! ### a string of one sign -/
def sg (c : Nat) : Str := ⟨#[c]⟩
abbrev isL (c : Nat) : Prop := c = 78 ∨ c = 84 ∨ c = 66
theorem sg_len (c : Nat) : (sg c).length = 1 := rfl
theorem tl_sgs (cs : List Nat) : ((cs.map sg).map tl).flatten = cs := by
  induction cs with
  | nil => rfl
  | cons c cs ih =>
    show [c] ++ ((cs.map sg).map tl).flatten = _
    rw [ih]
    rfl
theorem tl_joinG (cs : List Nat) : tl (Txt.join (Str.ofString "") (cs.map sg)) = cs := by rw [tl_join0, tl_sgs]
theorem join_okG {cs : List Nat} (h : cs.length ≤ 100000) : ((cs.map sg).map (·.length)).sum + (cs.map sg).length * (Str.ofString "").length ≤ 16777216 :=
  join_ok (m := 1) (fun y hy => by
    obtain ⟨c, _, rfl⟩ := List.mem_map.mp hy
    exact Nat.le_refl 1) (by rw [List.length_map]; omega)
def dsg (c : Nat) : PyData := .str (sg c)
theorem sgs_of : ∀ {ds : List PyData}, (∀ d ∈ ds, ∃ c, d = dsg c ∧ isL c) → ∃ cs : List Nat, ds = (cs.map sg).map .str ∧ cs.length = ds.length ∧ ∀ c ∈ cs, isL c
  | [], _ => ⟨[], rfl, rfl, fun c h => by cases h⟩
  | d :: ds, h => by
    obtain ⟨c, rfl, hc⟩ := h d List.mem_cons_self
    obtain ⟨cs, e, l, a⟩ := sgs_of fun d hd => h d (List.mem_cons_of_mem _ hd)
    refine ⟨c :: cs, by rw [e]; rfl, by simp [l], fun x hx => ?_⟩
    rcases List.mem_cons.mp hx with rfl | hx
    · exact hc
    · exact a x hx
/-- an edge -/
def EdgeS (z : Str) : Prop := (1 ≤ z.length ∧ z.length ≤ 200) ∧ ∀ c ∈ tl z, isL c
def spEdge (K : PySem.W.Frag) : Sp := fun vs H Q _ => ∃ (D L : Addr) (ns : List Int) (B : Nat) (m : Int), vs = [.ref D, .int m] ∧ Dk H D L ns B ∧ B < 700000000 ∧ 12 ≤ m ∧ m ≤ 200 ∧
  ∀ (z : Str) (H' : Hp), Ey H H' → Dk H' D L ns (B + 1000) → EdgeS z → Q (.str z) H'
/-- one of some items of a list, or of the signs of a string -/
def spOneS (K : PySem.W.Frag) : Sp := fun vs H Q _ => ∃ (D L : Addr) (ns : List Int) (B : Nat) (v : V) (d : PyData) (ds : List PyData), vs = [.ref D, v] ∧ Dk H D L ns B ∧ B < 1000000000 ∧ Da K H v d ∧ (d = .list ds ∨ ∃ z : Str, d = .str z ∧ ds = (tl z).map dsg) ∧ 1 ≤ ds.length ∧ ds.length ≤ 100000 ∧
  ∀ x d H', Ey H H' → Dk H' D L ns (B + 1) → d ∈ ds → Da K H' x d → Q x H'
/-! ### slices of strings and of lists of signs -/
theorem tl_take {z : Str} {k : Nat} (h : k ≤ z.length) : tl (cutS z none (some (k : Int))) = (tl z).take k := by
  show ((z.cps.toList.drop (HT.sIx z.length 0 none)).take (HT.sIx z.length z.length (some (k : Int)) - HT.sIx z.length 0 none)).toArray.toList = _
  rw [HT.sIx_none, show HT.sIx z.length z.length (some (k : Int)) = min k z.length from HT.sIx_nat _ _ k, Nat.min_eq_left h, List.drop_zero, Nat.sub_zero]
theorem tl_takeM {z : Str} {k : Nat} : tl (cutS z none (some (k : Int))) = (tl z).take (min k z.length) := by
  show ((z.cps.toList.drop (HT.sIx z.length 0 none)).take (HT.sIx z.length z.length (some (k : Int)) - HT.sIx z.length 0 none)).toArray.toList = _
  rw [HT.sIx_none, show HT.sIx z.length z.length (some (k : Int)) = min k z.length from HT.sIx_nat _ _ k, List.drop_zero, Nat.sub_zero]
theorem tl_cut_sub {z : Str} {lo hi : Option Int} {c : Nat} (h : c ∈ tl (cutS z lo hi)) : c ∈ tl z := by
  have h : c ∈ ((z.cps.toList.drop (HT.sIx z.length 0 lo)).take (HT.sIx z.length z.length hi - HT.sIx z.length 0 lo)).toArray.toList := h
  exact List.mem_of_mem_drop (List.mem_of_mem_take h)
theorem cutD_drop {ds : List PyData} {t : Nat} (h : t ≤ ds.length) : cutD ds (some (t : Int)) none = ds.drop t := by
  unfold cutD
  rw [HT.sIx_none, show HT.sIx ds.length 0 (some (t : Int)) = min t ds.length from HT.sIx_nat _ _ t, Nat.min_eq_left h, List.take_of_length_le (by rw [List.length_drop]; exact Nat.le_refl _)]
theorem cutD_take {ds : List PyData} {t : Nat} (h : t ≤ ds.length) : cutD ds none (some (t : Int)) = ds.take t := by
  unfold cutD
  rw [HT.sIx_none, show HT.sIx ds.length ds.length (some (t : Int)) = min t ds.length from HT.sIx_nat _ _ t, Nat.min_eq_left h, List.drop_zero, Nat.sub_zero]
theorem edge_of {cs : List Nat} {z : Str} (e : tl z = cs) (h1 : 1 ≤ cs.length) (h2 : cs.length ≤ 200) (a : ∀ c ∈ cs, isL c) : EdgeS z := by
  refine ⟨⟨?_, ?_⟩, by rw [e]; exact a⟩ <;> rw [tl_len, e] <;> assumption
theorem isL_small {c : Nat} (h : isL c) : c < 16 ^ 8 := by
  have : c < 100 := by
    rcases h with rfl | rfl | rfl <;> decide
  exact Nat.lt_of_lt_of_le this (by decide)
theorem edge_tr {z : Str} (h : EdgeS z) : TameR 40 200000 (.str z) := (tr_str fun c hc => isL_small (h.2 c hc)).mono (by decide) (by have := h.1.2; omega)
/-! ### the round of an edge -/
def okR (z : Str) (k : Nat) : Bool := decide (Txt.mul (cutS z none (some (k : Int))) ((z.length / k : Nat) : Int) = z)
def rk (z : Str) : Nat := (((List.range z.length).map (· + 1)).find? (okR z)).getD z.length
def roundS (z : Str) : Str := cutS z none (some (rk z : Int))
theorem okR_len {z : Str} {k : Nat} (h : okR z k = true) (hk : k ≤ z.length) : z.length / k * k = z.length := by
  have e := congrArg Str.length (of_decide_eq_true h)
  rw [len_mul, tl_len (cutS _ _ _), tl_take hk, List.length_take, ← tl_len, Nat.min_eq_left hk] at e
  exact e
theorem okR_all {z : Str} (h : 1 ≤ z.length) : okR z z.length = true := by
  refine decide_eq_true (ext_tl ?_)
  rw [tl_mul, tl_take (Nat.le_refl _), tl_len, List.take_length, Nat.div_self (by rw [← tl_len]; omega)]
  simp
theorem rk_eq {z : Str} {k : Nat} (h1 : 1 ≤ k) (h2 : k ≤ z.length) (ok : okR z k = true) (no : ∀ j, 1 ≤ j → j < k → okR z j = false) : rk z = k := by
  unfold rk
  have : ((List.range z.length).map (· + 1)).find? (okR z) = some k := by
    rw [List.find?_eq_some_iff_getElem]
    refine ⟨ok, k - 1, by rw [List.length_map, List.length_range]; omega, by rw [List.getElem_map, List.getElem_range]; omega, fun j hj => ?_⟩
    rw [List.getElem_map, List.getElem_range, no (j + 1) (by omega) (by omega)]
    rfl
  rw [this]
  rfl
theorem rk_is {z : Str} (h : 1 ≤ z.length) : 1 ≤ rk z ∧ rk z ≤ z.length ∧ okR z (rk z) = true ∧ ∀ j, 1 ≤ j → j < rk z → okR z j = false := by
  have key : ∀ m, m ≤ z.length → (∃ k, 1 ≤ k ∧ k ≤ m ∧ okR z k = true ∧ ∀ j, 1 ≤ j → j < k → okR z j = false) ∨ ∀ j, 1 ≤ j → j ≤ m → okR z j = false := by
    intro m
    induction m with
    | zero => exact fun _ => Or.inr fun j h1 h2 => by omega
    | succ m ih =>
      intro hm
      rcases ih (by omega) with ⟨k, a, b, c, d⟩ | a
      · exact Or.inl ⟨k, a, by omega, c, d⟩
      · cases c : okR z (m + 1) with
        | true => exact Or.inl ⟨m + 1, by omega, Nat.le_refl _, c, fun j h1 h2 => a j h1 (by omega)⟩
        | false =>
          refine Or.inr fun j h1 h2 => ?_
          by_cases e : j = m + 1
          · rw [e, c]
          · exact a j h1 (by omega)
  rcases key z.length (Nat.le_refl _) with ⟨k, a, b, c, d⟩ | a
  · rw [rk_eq a b c d]
    exact ⟨a, b, c, d⟩
  · have := a z.length h (Nat.le_refl _)
    rw [okR_all h] at this
    cases this
theorem round_edge {z : Str} (h : EdgeS z) : EdgeS (roundS z) := by
  obtain ⟨a, b, _, _⟩ := rk_is h.1.1
  refine edge_of (tl_take b) ?_ ?_ fun c hc => h.2 c (List.mem_of_mem_take hc)
  · rw [List.length_take, ← tl_len, Nat.min_eq_left b]
    exact a
  · rw [List.length_take, ← tl_len, Nat.min_eq_left b]
    exact Nat.le_trans b h.1.2
def RRound (ds : List PyData) (d : PyData) : Prop := ∃ z : Str, EdgeS z ∧ ds = [.str z] ∧ d = .str (roundS z)
theorem strs_da {K : PySem.W.Frag} {H : Hp} : ∀ (cs : List Nat), DaAll K H ((cs.map sg).map V.str) ((cs.map sg).map .str)
  | [] => .nil
  | c :: cs => .cons (.str _) (strs_da cs)
theorem pick_sg {p : Bool} {a b : Nat} (ha : isL a) (hb : isL b) : ∃ c, (if p = true then dsg a else dsg b) = dsg c ∧ isL c := by
  cases p
  · exact ⟨b, rfl, hb⟩
  · exact ⟨a, rfl, ha⟩
theorem pick_flat {p : Bool} {a b : Nat} : flat (if p = true then dsg a else dsg b) = true := by cases p <;> rfl
theorem tl_drop1 {z : Str} (h : 1 ≤ z.length) : tl (cutS z (some 1) none) = (tl z).drop 1 := by
  show ((z.cps.toList.drop (HT.sIx z.length 0 (some 1))).take (HT.sIx z.length z.length none - HT.sIx z.length 0 (some 1))).toArray.toList = _
  rw [HT.sIx_none, show HT.sIx z.length 0 (some 1) = min 1 z.length from HT.sIx_nat _ _ 1, Nat.min_eq_left h]
  exact List.take_of_length_le (by rw [List.length_drop, ← tl_len]; exact Nat.le_refl _)
theorem len_last {z : Str} (h : 1 ≤ z.length) : (cutS z none (some (-1))).length = z.length - 1 := by
  rw [tl_len]
  show ((z.cps.toList.drop (HT.sIx z.length 0 none)).take (HT.sIx z.length z.length (some (-1)) - HT.sIx z.length 0 none)).toArray.toList.length = _
  have e : HT.sIx z.length z.length (some (-1)) = z.length - 1 := by
    unfold HT.sIx
    simp
    omega
  rw [HT.sIx_none, e, List.drop_zero, Nat.sub_zero]
  show (((TL.tl z)).take (z.length - 1)).length = _
  rw [List.length_take, ← tl_len]
  omega
end Mm

set_option Elab.async false
set_option linter.all false
set_option maxRecDepth 100000
set_option maxHeartbeats 4000000
namespace Mm
open PySem PySem.Spec PyProof.Rows L2 Evl
open TL (tl tl_append joinL tl_join join_eq ext_tl)
/-! ### enumerate over a string -/
def ItEs (z : Str) : It where
  go := fun i _ => i < z.cps.size
  yld := fun i H v H' => ∃ T c, v = .ref T ∧ H T = none ∧ H' = upd H T (.tup [.int (i : Nat), .str ⟨#[c]⟩]) ∧ z.cps[i]? = some c
  stop := fun i _ => i = z.cps.size
theorem turn_enumS {P : Program} {w : World} {K : PySem.W.Frag} {es : List Expr} {kk : Nat} {tp : Pos} (z : Str) (t : Tok) (e it : Addr) :
    Turn P w K (.Tuple es kk tp) (ItEs z) [e, it] e (fun i h => (∃ old, IsEnum h e it ((i : Nat) : Int) old) ∧ h.IsStrIter it (strIterType z) z t i ∧ e ≠ it ∧ i ≤ z.cps.size) where
  mem := List.mem_cons_self
  obj := by
    rintro i h ⟨⟨old, he⟩, ⟨o, ho, hc, hd⟩, _⟩ b hb
    rcases List.mem_cons.mp hb with z | z
    · rw [z]
      exact ⟨_, he, fun v q => nomatch q⟩
    · have z := List.mem_singleton.mp z
      exact ⟨o, by rw [z]; exact ho, fun v q => by rw [hd] at q; cases q⟩
  keep := by
    rintro i h h' ⟨⟨old, he⟩, ⟨o, ho, hr⟩, r⟩ k
    exact ⟨⟨old, k e List.mem_cons_self _ he⟩, ⟨o, k it (List.mem_cons_of_mem _ List.mem_cons_self) o ho, hr⟩, r⟩
  item := by
    intro X eP ew eK hc i pins s σ H E I hf st hg
    subst eP ew eK
    obtain ⟨⟨old, he⟩, hit, hne, hle⟩ := st
    have el : e < s.heap.objs.size := Heap.lt_size he
    have il : it < s.heap.objs.size := let ⟨_, q, _⟩ := hit; Heap.lt_size q
    have D := Draws.text (prog := X.prog) (w := X.w) (A := X.A.in1) (I.ok.hd hc) it z t
    refine wpAny_pyNext_enum_itemC D he hit hg hne (by simp [hne]) fun y h' tk hy ho st' hT hsz hk => ?_
    obtain ⟨c, u, hcx, rfl⟩ := hy
    refine ⟨_, rfl, wpAny_letOwnedTupleGo_enum (s := { s with heap := h', toks := tk + 1 }) ho fun h'' he' sb => ?_⟩
    have hT2 : h''.get? s.heap.objs.size = some { cls := .type "tuple", data := .seq #[.int i tk, .str ⟨#[c]⟩ u] } := (sb.2 _ (Nat.ne_of_gt el)).trans hT
    have ok2 : ObjOk X.prog X.w (upd H s.heap.objs.size (.tup [.int (i : Nat), .str ⟨#[c]⟩])) h'' s.heap.objs.size (.tup [.int (i : Nat), .str ⟨#[c]⟩]) :=
      ⟨show 2 ≤ sizeLine by decide, [.int i tk, .str ⟨#[c]⟩ u], .cons ⟨_, rfl⟩ (.cons ⟨_, rfl⟩ .nil), ⟨_, hT2, rfl, _, rfl⟩⟩
    have I1 : Inv X pins σ (upd H s.heap.objs.size (.tup [.int (i : Nat), .str ⟨#[c]⟩])) { s with heap := h'', toks := tk + 1 } :=
      I.turnedNew (ch := [e, it]) (fun b ob hb q => by
        have nb : b ≠ e ∧ b ≠ it := by simpa using hb
        exact (sb.2 b nb.1).trans (hk b ob nb.1 nb.2 q)) hf (Nat.le_refl _) ok2
    refine ⟨.ref s.heap.objs.size, _, I1, rfl, ⟨_, c, rfl, I.hok.fresh (Nat.le_refl _), rfl, hcx⟩, ⟨⟨.str ⟨#[c]⟩ u, ?_⟩, ?_, hne, hg⟩, fun b hb => ?_⟩
    · rw [show ((i + 1 : Nat) : Int) = (i : Int) + 1 by omega]
      exact he'
    · obtain ⟨o, q1, q2⟩ := st'
      exact ⟨o, (sb.2 it (Ne.symm hne)).trans q1, q2⟩
    · have lb : b < s.heap.objs.size := by
        rcases List.mem_cons.mp hb with z | z
        · rw [z]
          exact el
        · rw [List.mem_singleton.mp z]
          exact il
      rw [upd_ne (Nat.ne_of_lt lb)]
      exact (hf b hb).1
  done := by
    intro X eP ew eK hc i pins s σ H E I hf st hg
    subst eP ew eK
    obtain ⟨⟨old, he⟩, hit, hne, hle⟩ := st
    obtain ⟨f0, f1, f2, f3, f4, f5⟩ := hf it (List.mem_cons_of_mem _ List.mem_cons_self)
    have D := Draws.text (prog := X.prog) (w := X.w) (A := X.A.in1) (I.ok.hd hc) it z t
    have hg : i = z.cps.size := hg
    subst hg
    exact wpAny_pyNext_enum_endD D he hit fun h' eb => ⟨rfl, I.turned (t' := s.toks) (fun b o hb q => eb b o hb q) f0 f1 f3 f4 f5⟩
  self := by
    rintro A i s Q E ⟨⟨_, he⟩, _⟩ h
    exact wpAny_pyIter_enum he h
def iEnumS (ta : TA) : TI := fun σ H R => ta σ H fun vs H1 => ∃ z : Str, vs = [.str z] ∧ R (ItEs z) H1
theorem call_enum_str {prog : Program} {w : World} {A : Around} {E : Value → Shared → Prop} {s : Shared} {z : Str} {t : Tok} {Q : Value → Shared → Prop}
    (h : ∀ h', IsEnum h' (s.heap.objs.size + 1) s.heap.objs.size 0 .none → h'.IsStrIter s.heap.objs.size (strIterType z) z t 0 → (∀ b o, s.heap.get? b = some o → h'.get? b = some o) → Q (.ref (s.heap.objs.size + 1)) { s with heap := h' }) :
    wpAny (model prog w) A (call (.type "enumerate") [.str z t]) Q E s := by
  have sz : (s.heap.push { cls := .type (strIterType z), data := .fields #[.str z t, .int 0 0] }).objs.size = s.heap.objs.size + 1 := Heap.size_push ..
  refine callType_new F.called_enumerate (by decide) (F.typeCall_enumerate_1 _) (F.newCall_enumerate_1 _) (fun obj => F.args_object_init_2 obj _) F.entry_enumerate_new (meets_enum1 (begins_text z t)) ⟨trivial, ?_⟩
  show _ ∧ _
  rw [sz]
  have top := Heap.get?_push_size (s.heap.push { cls := .type (strIterType z), data := .fields #[.str z t, .int 0 0] }) (o := { cls := .type "enumerate", data := .fields #[.none, .bool false, .ref s.heap.objs.size, rawInt 0, .none, .none] }) rfl
  rw [sz] at top
  exact ⟨⟨_, top, rfl⟩, h _ top ⟨_, Heap.get?_push_of_some _ (Heap.get?_push_size _ rfl), rfl, rfl⟩ fun b o x => Heap.get?_push_of_some _ (Heap.get?_push_of_some _ x)⟩
theorem pi_enumS {X : Cx} {e : Expr} {ta : TA} {p pos tp : Pos} {es : List Expr} {kk : Nat} (hg : Gl X "enumerate") (hm : X.mg "enumerate" = none) (ha : PA X [e] ta) (hs : starEach [e] X.env = [(false, eval e X.env)] := by rfl) :
    PI X (.Tuple es kk tp) (.Call (.Name "enumerate" p) [e] [] pos) (iEnumS ta) := by
  refine ⟨fun pins s σ H R I h => Call_ (ld_blt I hg hm boot_enumerate (PyProof.Rows.callWith_type1 (thn (ha.run pos pins s σ H _ I h) ?_) hs rfl))⟩
  rintro us s1 ⟨vs, H1, I1, r1, z, ex, q⟩
  subst ex
  cases r1 with
  | cons r rr =>
    cases rr
    obtain ⟨t, rfl⟩ := r
    refine call_enum_str fun h' he hit hk => wpAny_pyIter_enum he ?_
    have I2 : Inv X pins σ H1 { s1 with heap := h' } := I1.kept (t' := s1.toks) hk
    refine ⟨s1.heap.objs.size + 1, [s1.heap.objs.size + 1, s1.heap.objs.size], _, _, H1, rfl, I2, turn_enumS z t (s1.heap.objs.size + 1) s1.heap.objs.size, ⟨⟨.none, he⟩, hit, Nat.succ_ne_self _, Nat.zero_le _⟩, fun b hb => ?_, q⟩
    have le : s1.heap.objs.size ≤ b := by
      rcases List.mem_cons.mp hb with z | z
      · rw [z]
        exact Nat.le_succ _
      · rw [List.mem_singleton.mp z]
        exact Nat.le_refl _
    exact I1.fpOk le (I1.hok.fresh le)
section
variable {K : PySem.W.Frag} {H H' : Hp} {σ : L2.St} {te : TE} {ta : TA} {z : Str} {D : Ends} {u y : TS} {g : TG}
theorem it_str (h : EvD K te σ H (.str z)) : ItD K (iStr te) σ H ((tl z).map dsg) := fun H1 e R r => h H1 e _ fun v H2 e2 dv => by
  cases dv
  refine ⟨z, rfl, r _ H2 e2 fun H3 e3 i => ⟨fun lt => ?_, fun ge => ?_⟩⟩
  · rw [List.length_map, Array.length_toList] at lt
    refine ⟨lt, fun x H4 y => ?_⟩
    obtain ⟨rfl, c, hc, rfl⟩ := y
    refine ⟨rfl, dsg c, ?_, .str _⟩
    rw [List.getElem?_map, Array.getElem?_toList, hc]
    rfl
  · rw [List.length_map, Array.length_toList] at ge
    exact Nat.le_of_eq ge.symm
theorem en_lcEnS {vs : List Nat} {tt : TT} (f : Nat → Bool) (m : Nat → PyData) (h : EvDs K ta σ H [.str z]) (hz : z.length ≤ 50000)
    (ht : ∀ k, k < z.length → TurnD K g tt te vs σ H (.tuple [.int (k : Int), dsg ((tl z)[k]?.getD 0)]) (f k) (m k)) (hf : ∀ k, k < z.length → f k = true → flat (m k) = true) :
    EvN K (tLc (iEnumS ta) g tt te vs) σ H (((List.range z.length).filter f).map m) := fun H0 e0 Q q =>
  h H0 e0 _ fun ws H1 e1 dv => by
    cases dv with
    | cons h1 hx =>
      cases hx
      cases h1
      refine ⟨z, rfl, fun Dl hD => ⟨fun i k H' => k = z.length - i ∧ i ≤ z.length ∧ Got K H1 Dl (((List.range i).filter f).map m) H', ⟨z.length, rfl, Nat.zero_le _, got_new hD⟩, fun i k H' hw => ?_⟩⟩
      obtain ⟨rfl, le, k⟩ := hw
      by_cases lt : i < z.length
      · refine Or.inr ⟨lt, fun H2 => Got K H1 Dl (((List.range (i + 1)).filter f).map m) H2, fun H2 k2 => ⟨z.length - (i + 1), by omega, rfl, lt, k2⟩, fun x H2 hy => ?_⟩
        obtain ⟨T, c, rfl, nT, rfl, hc⟩ := hy
        have hc' : (tl z)[i]? = some c := by
          show z.cps.toList[i]? = some c
          rw [Array.getElem?_toList, hc]
        have ex : Ex H' (upd H' T (.tup [.int (i : Nat), .str ⟨#[c]⟩])) := Ex.new nT
        obtain ⟨b1, b2, ⟨acc, b3, b4⟩, b5⟩ := k
        have k' : Got K H1 Dl (((List.range i).filter f).map m) (upd H' T (.tup [.int (i : Nat), .str ⟨#[c]⟩])) := ⟨b1, b2.trans ex, ⟨acc, ex _ _ b3, dpsm ex b4⟩, b5⟩
        have dx : Da K (upd H' T (.tup [.int (i : Nat), .str ⟨#[c]⟩])) (.ref T) (.tuple [.int (i : Int), dsg ((tl z)[i]?.getD 0)]) := .tup (SqT.of upd_same) (.cons (.int _) (.cons (by rw [hc']; exact .str _) .nil))
        have ll : (((List.range i).filter f).map m).length < 100000 := by
          rw [List.length_map]
          have := List.length_filter_le f (List.range i)
          rw [List.length_range] at this
          omega
        refine lc_turn (ht i lt) (e0.trans e1) dx k' (hf i lt) ll fun H3 k3 => ?_
        rw [List.range_succ, List.filter_append, List.map_append]
        cases c2 : f i with
        | true =>
          rw [c2, if_pos rfl] at k3
          rw [List.filter_cons, if_pos c2]
          exact k3
        | false =>
          rw [c2, if_neg (by decide)] at k3
          rw [List.filter_cons, if_neg (by rw [c2]; decide)]
          show Got K H1 Dl (_ ++ []) H3
          rw [List.append_nil]
          exact k3
      · have e : i = z.length := by omega
        subst e
        obtain ⟨b1, b2, ⟨acc, b3, b4⟩, b5⟩ := k
        exact Or.inl ⟨rfl, q Dl acc H' (fresh_back e1 b1) (e1.trans b2) b3 b4⟩
end
end Mm

set_option Elab.async false
set_option linter.all false
set_option maxRecDepth 100000
set_option maxHeartbeats 4000000
namespace Mm
open PySem PySem.Spec PyProof.Rows L2 Evl
open TL (tl tl_append joinL tl_join join_eq ext_tl)
theorem ps_nv {X : Cx} {st : Stmt} : PS X st (fun _ _ _ => False) := ⟨fun _ _ _ _ _ _ h => h.elim⟩
/-! ### a for over a string -/
section
variable {K : PySem.W.Frag} {H : Hp} {σ : L2.St} {te : TE} {z : Str} {D : Ends} {u y : TS} {g : TG}
theorem sd_str (h : EvD K te σ H (.str z)) (W : Nat → L2.St → Hp → Prop) (h0 : ∀ H1, Ex H H1 → W 0 σ H1)
    (hs : ∀ i c σ' H', (tl z)[i]? = some c → W i σ' H' → g (.str (sg c)) σ' H' fun σ2 H2 => u { D with nx := W (i + 1), ct := W (i + 1), bk := D.nx } σ2 H2) (hd : ∀ σ' H', W z.length σ' H' → D.nx σ' H') : tFor (iStr te) g u D σ H :=
  h H (Ex.refl H) _ fun v H1 e dv => by
    cases dv
    refine ⟨z, rfl, fun i m σ' H' => m = z.length - i ∧ i ≤ z.length ∧ W i σ' H', ⟨z.length, rfl, Nat.zero_le _, h0 H1 e⟩, fun i m σ' H' hw => ?_⟩
    obtain ⟨rfl, le, w⟩ := hw
    by_cases lt : i < z.length
    · refine Or.inr ⟨lt, fun σ2 H2 => W (i + 1) σ2 H2, fun σ2 H2 w2 => ⟨z.length - (i + 1), by omega, rfl, lt, w2⟩, fun x H2 yy => ?_⟩
      obtain ⟨rfl, c, hc, rfl⟩ := yy
      refine hs i c σ' _ ?_ w
      show z.cps.toList[i]? = some c
      rw [Array.getElem?_toList, hc]
    · have e : i = z.length := by omega
      subst e
      exact Or.inl ⟨Nat.le_refl _, hd σ' H' w⟩
theorem qd_str (h : EvD K te σ H (.str z)) (W : Nat → L2.St → Hp → Prop) (h0 : ∀ H1, Ex H H1 → W 0 σ H1)
    (hs : ∀ i c σ' H', (tl z)[i]? = some c → W i σ' H' → g (.str (sg c)) σ' H' fun σ2 H2 => u { D with nx := W (i + 1), ct := W (i + 1), bk := y D } σ2 H2) (hd : ∀ σ' H', W z.length σ' H' → y D σ' H') : tSeq (tFor (iStr te) g u) y D σ H :=
  sd_str (D := { D with nx := y D }) h W h0 hs hd
end
/-! ### the signs of a text -/
def mkS (cs : List Nat) : Str := ⟨cs.toArray⟩
theorem tl_mk (cs : List Nat) : tl (mkS cs) = cs := rfl
theorem mk_len (cs : List Nat) : (mkS cs).length = cs.length := by rw [tl_len, tl_mk]
theorem mk_snoc (cs : List Nat) (c : Nat) : mkS cs ++ sg c = mkS (cs ++ [c]) := ext_tl (by rw [tl_append, tl_mk, tl_mk]; rfl)
def whC (r c : Int) : Nat := if decide ((r + c) % 2 = 0) = true then 92 else 47
def scC (b : Int) (zs : List Int) (r c : Int) : Nat := if ((zs.map PyData.int).any fun z => PyData.eqv z (.int (r * b + c))) = true then 46 else whC r c
theorem wh_sg (r c : Int) : wholeS r c = sg (whC r c) := by
  unfold wholeS whC
  split <;> rfl
theorem sign_sg (b : Int) (zs : List Int) (r c : Int) : signS b zs r c = sg (scC b zs r c) := by
  unfold signS scC
  split
  · rfl
  · exact wh_sg r c
theorem sc_kind (b : Int) (zs : List Int) (r c : Int) : scC b zs r c = 46 ∨ scC b zs r c = whC r c := by
  unfold scC
  split
  · exact Or.inl rfl
  · exact Or.inr rfl
theorem wh_ne (r c : Int) : whC r c ≠ 10 ∧ whC r c ≠ 46 := by
  unfold whC
  split <;> decide
theorem sc_ne (b : Int) (zs : List Int) (r c : Int) : scC b zs r c ≠ 10 := by
  rcases sc_kind b zs r c with h | h <;> rw [h]
  · decide
  · exact (wh_ne r c).1
def rowC (b : Int) (zs : List Int) (r : Int) : List Nat := (List.range b.toNat).map fun c : Nat => scC b zs r (c : Int)
def rowsC (a b : Int) (zs : List Int) : List (List Nat) := (List.range a.toNat).map fun r : Nat => rowC b zs (r : Int)
theorem row_sg (b : Int) (zs : List Int) (r : Int) : rowS b zs r = (rowC b zs r).map sg := by
  unfold rowS rowC
  rw [List.map_map]
  exact List.map_congr_left fun c _ => sign_sg b zs r c
theorem tl_line (b : Int) (zs : List Int) (r : Int) : tl (lineS b zs r) = rowC b zs r ++ [10] := by
  unfold lineS
  rw [tl_append, row_sg, tl_joinG]
  rfl
theorem tl_text (a b : Int) (zs : List Int) : tl (textS a b zs) = ((rowsC a b zs).map (· ++ [10])).flatten := by
  unfold textS rowsC
  rw [tl_join0, List.map_map, List.map_map]
  congr 1
  exact List.map_congr_left fun r _ => tl_line b zs r
/-- how far the reading has come: the lines so far -/
def Rd' (rows : List (List Nat)) (i : Nat) (ls : List (List Nat)) : Prop :=
  (∃ rs pre suf rest, rows = rs ++ (pre ++ suf) :: rest ∧ i = ((rs.map (· ++ [10])).flatten).length + pre.length ∧ ls = rs ++ [pre]) ∨
    (i = ((rows.map (· ++ [10])).flatten).length ∧ ls = rows ++ [[]])
theorem rd_start {rows : List (List Nat)} : Rd' rows 0 [[]] := by
  cases rows with
  | nil => exact Or.inr ⟨rfl, rfl⟩
  | cons r rest => exact Or.inl ⟨[], [], r, rest, rfl, rfl, rfl⟩
theorem rd_next {rows rs : List (List Nat)} {p : List Nat} {rest : List (List Nat)} (h : rows = rs ++ p :: rest) : Rd' rows (((rs.map (· ++ [10])).flatten).length + p.length + 1) (rs ++ [p] ++ [[]]) := by
  subst h
  cases rest with
  | nil =>
    refine Or.inr ⟨?_, rfl⟩
    simp [List.length_append]
    omega
  | cons q rest =>
    refine Or.inl ⟨rs ++ [p], [], q, rest, by simp, ?_, rfl⟩
    simp [List.length_append]
    omega
theorem rd_step {rows ls : List (List Nat)} {i c : Nat} (h : Rd' rows i ls) (hc : ((rows.map (· ++ [10])).flatten)[i]? = some c) :
    (∃ rs pre suf rest, rows = rs ++ (pre ++ c :: suf) :: rest ∧ ls = rs ++ [pre] ∧ Rd' rows (i + 1) (rs ++ [pre ++ [c]])) ∨
    (∃ rs pre rest, rows = rs ++ pre :: rest ∧ ls = rs ++ [pre] ∧ c = 10 ∧ Rd' rows (i + 1) (rs ++ [pre] ++ [[]])) := by
  rcases h with ⟨rs, pre, suf, rest, e, ei, el⟩ | ⟨ei, el⟩
  · have e1 : (rows.map (· ++ [10])).flatten = ((rs.map (· ++ [10])).flatten ++ pre) ++ (suf ++ [10] ++ (rest.map (· ++ [10])).flatten) := by
      rw [e]
      simp [List.append_assoc]
    have li : i = ((rs.map (· ++ [10])).flatten ++ pre).length := by rw [List.length_append, ei]
    rw [e1, List.getElem?_append_right (by omega), li, Nat.sub_self] at hc
    cases suf with
    | nil =>
      have : c = 10 := by
        have hc : some 10 = some c := hc
        exact (Option.some.inj hc).symm
      refine Or.inr ⟨rs, pre, rest, by rw [e, List.append_nil], el, this, ?_⟩
      rw [ei]
      exact rd_next (by rw [e, List.append_nil])
    | cons d suf =>
      have : d = c := by
        have hc : some d = some c := hc
        exact Option.some.inj hc
      subst this
      refine Or.inl ⟨rs, pre, suf, rest, e, el, Or.inl ⟨rs, pre ++ [d], suf, rest, by rw [e]; simp, by rw [List.length_append, ei]; simp; omega, rfl⟩⟩
  · rw [List.getElem?_eq_none (by omega)] at hc
    cases hc
theorem rd_end {rows ls : List (List Nat)} (h : Rd' rows ((rows.map (· ++ [10])).flatten).length ls) : ls = rows ++ [[]] := by
  rcases h with ⟨rs, pre, suf, rest, e, ei, el⟩ | ⟨_, el⟩
  · exfalso
    rw [e] at ei
    simp [List.length_append] at ei
  · exact el
theorem flat_grid {α : Type} (g : Nat → Nat → α) (B : Nat) (hB : 0 < B) : ∀ A : Nat, ((List.range A).map fun r => (List.range B).map (g r)).flatten = (List.range (A * B)).map fun k => g (k / B) (k % B)
  | 0 => by simp
  | A + 1 => by
    rw [List.range_succ, List.map_append, List.flatten_append, flat_grid g B hB A, Nat.succ_mul, List.range_add, List.map_append]
    congr 1
    rw [List.map_cons, List.map_nil, List.flatten_cons, List.flatten_nil, List.append_nil, List.map_map]
    refine List.map_congr_left fun j hj => ?_
    have hj := List.mem_range.mp hj
    show g A j = g ((A * B + j) / B) ((A * B + j) % B)
    rw [Nat.mul_comm A B, Nat.mul_add_div hB, Nat.div_eq_of_lt hj, Nat.mul_add_mod, Nat.mod_eq_of_lt hj, Nat.add_zero]
theorem any_mem (zs : List Int) (k : Int) : ((zs.map PyData.int).any fun z => PyData.eqv z (.int k)) = decide (k ∈ zs) := by
  induction zs with
  | nil => rfl
  | cons z zs ih =>
    rw [List.map_cons, List.any_cons, ih]
    have : PyData.eqv (.int z) (.int k) = decide (z = k) := by
      show (z == k) = _
      by_cases h : z = k <;> simp [h]
    rw [this]
    by_cases h : z = k
    · subst h
      simp
    · have h' : ¬ k = z := fun q => h q.symm
      simp [h, h']
/-- what is read of the signs: the bars -/
theorem bars_read {a b : Int} {zs : List Int} (sh : Sheet a b) (te : Tear a b zs) :
    ((List.range ((rowsC a b zs).flatten).length).filter fun k => decide (sg ((((rowsC a b zs).flatten)[k]?).getD 0) = Str.ofString ".")).map (fun k : Nat => PyData.int (k : Int)) = zs.map .int := by
  have b1 := sh.w1
  have a1 := sh.d1
  have gr : (rowsC a b zs).flatten = (List.range (a.toNat * b.toNat)).map fun k => scC b zs ((k / b.toNat : Nat) : Int) ((k % b.toNat : Nat) : Int) := flat_grid (fun r c => scC b zs (r : Int) (c : Int)) b.toNat (by omega) a.toNat
  rw [gr, List.length_map, List.length_range]
  have fe : ∀ k ∈ List.range (a.toNat * b.toNat), decide (sg ((((List.range (a.toNat * b.toNat)).map fun k => scC b zs ((k / b.toNat : Nat) : Int) ((k % b.toNat : Nat) : Int))[k]?).getD 0) = Str.ofString ".") = decide ((k : Int) ∈ zs) := fun k hk => by
    have hk := List.mem_range.mp hk
    rw [List.getElem?_map, List.getElem?_range hk]
    show decide (sg (scC b zs ((k / b.toNat : Nat) : Int) ((k % b.toNat : Nat) : Int)) = Str.ofString ".") = _
    have e : ((k / b.toNat : Nat) : Int) * b + ((k % b.toNat : Nat) : Int) = (k : Int) := by
      have h := Nat.div_add_mod k b.toNat
      have e2 : ((b.toNat * (k / b.toNat) + k % b.toNat : Nat) : Int) = (k : Int) := by rw [h]
      rw [Int.natCast_add, Int.natCast_mul, Int.toNat_of_nonneg (by omega)] at e2
      rw [Int.mul_comm]
      exact e2
    have s : sg (scC b zs ((k / b.toNat : Nat) : Int) ((k % b.toNat : Nat) : Int)) = Str.ofString "." ↔ scC b zs ((k / b.toNat : Nat) : Int) ((k % b.toNat : Nat) : Int) = 46 := by
      constructor
      · intro h
        have := congrArg tl h
        exact (List.cons.inj this).1
      · intro h
        rw [h]
        rfl
    have m : scC b zs ((k / b.toNat : Nat) : Int) ((k % b.toNat : Nat) : Int) = 46 ↔ (k : Int) ∈ zs := by
      unfold scC
      rw [e, any_mem]
      by_cases h : (k : Int) ∈ zs
      · simp [h]
      · simp only [h, decide_false, Bool.false_eq_true, if_false, iff_false]
        exact (wh_ne _ _).2
    by_cases h : (k : Int) ∈ zs
    · rw [decide_eq_true (s.mpr (m.mpr h)), decide_eq_true h]
    · rw [decide_eq_false (fun q => h (m.mp (s.mp q))), decide_eq_false h]
  rw [List.filter_congr fe]
  refine Eq.trans (b := ((((List.range (a.toNat * b.toNat)).filter fun k : Nat => decide ((k : Int) ∈ zs)).map fun k : Nat => (k : Int)).map PyData.int)) (by rw [List.map_map]; rfl) ?_
  congr 1
  refine same_sorted _ _ ?_ te.up fun x => ⟨fun hx => ?_, fun hx => ?_⟩
  · refine List.pairwise_map.mpr ?_
    exact ((List.pairwise_lt_range (n := a.toNat * b.toNat)).filter _).imp fun h => by omega
  · obtain ⟨k, hk, rfl⟩ := List.mem_map.mp hx
    exact of_decide_eq_true (List.mem_filter.mp hk).2
  · obtain ⟨h0, h1⟩ := te.inn x hx
    have ab : ((a.toNat * b.toNat : Nat) : Int) = a * b := by
      rw [Int.natCast_mul, Int.toNat_of_nonneg (by omega), Int.toNat_of_nonneg (by omega)]
    refine List.mem_map.mpr ⟨x.toNat, List.mem_filter.mpr ⟨List.mem_range.mpr (by omega), ?_⟩, by omega⟩
    rw [Int.toNat_of_nonneg h0]
    exact decide_eq_true hx
def RCan (ds : List PyData) (d : PyData) : Prop := ∃ (c : Nat) (ls : List (List Nat)) (first last : List Nat), ds = [.str (sg c), .list ((ls.map mkS).map .str)] ∧ 1 ≤ ls.length ∧ ls.length ≤ 8 ∧ ls[0]? = some first ∧ ls[ls.length - 1]? = some last ∧ first.length ≤ 8 ∧ last.length ≤ 8 ∧
  ((c = 10 ∧ 0 < last.length ∧ last.length = first.length) ∨ (c ≠ 10 ∧ last.length < 8 ∧ (2 ≤ ls.length → last.length < first.length) ∧ (c = 46 ∨ c = whC ((ls.length : Int) - 1) (last.length : Int)))) ∧ d = .bool true
def RRead (ds : List PyData) (d : PyData) : Prop := ∃ (a b : Int) (zs : List Int), Sheet a b ∧ Tear a b zs ∧ ds = [.str (textS a b zs)] ∧ d = .tuple [shd a b, tearD zs]
theorem row_len (b : Int) (zs : List Int) (r : Int) : (rowC b zs r).length = b.toNat := by
  unfold rowC
  rw [List.length_map, List.length_range]
theorem rows_len (a b : Int) (zs : List Int) : (rowsC a b zs).length = a.toNat := by
  unfold rowsC
  rw [List.length_map, List.length_range]
theorem rows_mem {a b : Int} {zs : List Int} {r : List Nat} (h : r ∈ rowsC a b zs) : r.length = b.toNat := by
  obtain ⟨k, _, rfl⟩ := List.mem_map.mp h
  exact row_len _ _ _
theorem rows_at {a b : Int} {zs : List Int} {rs rest : List (List Nat)} {p : List Nat} (h : rowsC a b zs = rs ++ p :: rest) : rs.length < a.toNat ∧ p = rowC b zs (rs.length : Int) := by
  have l := rows_len a b zs
  rw [h, List.length_append, List.length_cons] at l
  have lt : rs.length < a.toNat := by omega
  refine ⟨lt, ?_⟩
  have g : (rowsC a b zs)[rs.length]? = some p := by rw [h, List.getElem?_append_right (Nat.le_refl _), Nat.sub_self]; rfl
  unfold rowsC at g
  rw [List.getElem?_map, List.getElem?_range lt] at g
  exact (Option.some.inj g).symm
theorem row_at {b : Int} {zs : List Int} {r : Int} {pre suf : List Nat} {c : Nat} (h : pre ++ c :: suf = rowC b zs r) : pre.length < b.toNat ∧ c = scC b zs r (pre.length : Int) := by
  have l := row_len b zs r
  rw [← h, List.length_append, List.length_cons] at l
  have lt : pre.length < b.toNat := by omega
  refine ⟨lt, ?_⟩
  have g : (rowC b zs r)[pre.length]? = some c := by rw [← h, List.getElem?_append_right (Nat.le_refl _), Nat.sub_self]; rfl
  unfold rowC at g
  rw [List.getElem?_map, List.getElem?_range lt] at g
  exact (Option.some.inj g).symm
theorem first_of {rs : List (List Nat)} {p : List Nat} : ∃ f, (rs ++ [p])[0]? = some f ∧ ((rs = [] ∧ f = p) ∨ f ∈ rs) := by
  cases rs with
  | nil => exact ⟨p, rfl, Or.inl ⟨rfl, rfl⟩⟩
  | cons r rs => exact ⟨r, rfl, Or.inr List.mem_cons_self⟩
theorem tame_str {x : Str} (h : ∀ c ∈ tl x, c < 1000) : Tame 0 x.length (.str x) := by
  refine ⟨?_, ?_, ?_, ?_, ?_⟩
  · simp [PyData.showable]
  · simp only [PyData.canLay0]
    show PyData.strOk x = true
    unfold PyData.strOk
    rw [← Array.all_toList, List.all_eq_true]
    exact fun c hc => decide_eq_true (Nat.lt_of_lt_of_le (h c hc) (by decide))
  · simp [PyData.depth]
  · show (tl x).all _ = true
    rw [List.all_eq_true]
    exact fun c hc => decide_eq_true (Nat.lt_of_lt_of_le (h c hc) (by decide))
  · exact Nat.le_refl _
theorem eqv_str (x y : Str) : PyData.eqv (.str x) (.str y) = decide (x = y) := by
  show (x == y) = _
  by_cases h : x = y <;> simp [h]
theorem ixN_end {n : Nat} (h : 1 ≤ n) : ixN n (-1) = some (n - 1) := by
  unfold ixN
  rw [if_neg (by omega), if_pos (by omega)]
  congr 1
  omega
theorem len_grid {b : Nat} : ∀ {rows : List (List Nat)}, (∀ r ∈ rows, r.length = b) → rows.flatten.length = rows.length * b
  | [], _ => by simp
  | r :: rows, h => by
    rw [List.flatten_cons, List.length_append, h r List.mem_cons_self, len_grid fun x hx => h x (List.mem_cons_of_mem _ hx), List.length_cons, Nat.succ_mul, Nat.add_comm]
theorem das_mk {K : PySem.W.Frag} {H : Hp} : ∀ (ls : List (List Nat)), DaAll K H ((ls.map mkS).map V.str) ((ls.map mkS).map .str)
  | [] => .nil
  | c :: cs => .cons (.str _) (das_mk cs)
theorem s_ifB {tt : TT} {p : Bool} {σ : L2.St} {H : Hp} {D : Ends} {ty tn : TS} (h : EvT tt σ H p) (ht : p = true → ∀ H1, Ex H H1 → ty D σ H1) (hf : p = false → ∀ H1, Ex H H1 → tn D σ H1) : tIfS tt ty tn D σ H := h H (Ex.refl H) _ fun H1 e1 => by
  cases p with
  | true => exact ht rfl H1 e1
  | false => exact hf rfl H1 e1
theorem set_last {α : Type} (x y : α) : ∀ (l : List α), (l ++ [x]).set l.length y = l ++ [y]
  | [] => rfl
  | a :: l => congrArg (a :: ·) (set_last x y l)
end Mm

set_option Elab.async false
set_option linter.all false
set_option maxRecDepth 100000
set_option maxHeartbeats 4000000
namespace Mm
open PySem PySem.Spec PyProof.Rows L2 Evl
open TL (tl tl_append joinL tl_join join_eq ext_tl)
/-! ### more of strings -/
def fLstS (K : PySem.W.Frag) : List V → Hp → VK → Prop := fun xs H Q => fLst K xs H Q ∨ ∃ z : Str, xs = [.str z] ∧ z.length ≤ 100000 ∧ ∀ l, H l = none → Q (.ref l) (upd H l (.lst ((tl z).map fun c => V.str (sg c))))
theorem signs_vals {z : Str} {its : Array Value} (h : ItemsOf (SignAt z) its z.cps.size) : Vals ((tl z).map fun c => V.str (sg c)) its.toList := by
  have key : ∀ (cs : List Nat) (vs : List Value), cs.length = vs.length → (∀ (j : Nat) (v : Value), vs[j]? = some v → ∃ c u, cs[j]? = some c ∧ v = .str ⟨#[c]⟩ u) → Vals (cs.map fun c => V.str (sg c)) vs := by
    intro cs
    induction cs with
    | nil =>
      intro vs l _
      cases vs with
      | nil => exact .nil
      | cons _ _ => cases l
    | cons c cs ih =>
      intro vs l h
      cases vs with
      | nil => cases l
      | cons v vs =>
        refine .cons ?_ (ih vs (by simpa using l) fun j v' e => h (j + 1) v' e)
        obtain ⟨c', u, e1, e2⟩ := h 0 v rfl
        cases e1
        exact ⟨u, e2⟩
  refine key _ _ (by rw [Array.length_toList, Array.length_toList, h.1]) fun j v e => ?_
  obtain ⟨c, u, e1, e2⟩ := h.2 j v (by rw [← Array.getElem?_toList]; exact e)
  exact ⟨c, u, by rw [Array.getElem?_toList]; exact e1, e2⟩
theorem fr_lstSK {X : Cx} {K : PySem.W.Frag} (h : X.K = K) (hc : X.calm = true) : CallR X (.type "list") (fLstS K) := fun pins s σ H xs us Q I r hq => by
  rcases hq with hq | ⟨z, rfl, hz, q⟩
  · exact fr_lstK h pins s σ H xs us Q I r hq
  · cases r with
    | cons r1 rr =>
      cases rr
      obtain ⟨t, rfl⟩ := r1
      have hz' : z.cps.size ≤ sizeLine := by
        rw [sizeLine_eq]
        show z.length ≤ _
        omega
      refine call_list_str (I.ok.hd hc) z t (hn := hz') fun h' tk acc' c' hk hS' hacc => ?_
      refine ⟨.ref s.heap.objs.size, _, I.laid (t' := tk) hk (Nat.le_refl _) (show ObjOk X.prog X.w _ h' _ (.lst ((tl z).map fun c => V.str (sg c))) from ⟨?_, acc'.toList, c', signs_vals hacc, by rw [hS']⟩), rfl, q _ (I.hok.fresh (Nat.le_refl _))⟩
      rw [List.length_map, Array.length_toList]
      exact hz'
section
variable {K : PySem.W.Frag} {H H' : Hp} {σ : L2.St} {te : TE} {ta : TA} {z x : Str} {D : Ends} {u y : TS} {ds : List PyData}
theorem das_sg : ∀ (cs : List Nat), DaAll K H (cs.map fun c => V.str (sg c)) (cs.map dsg)
  | [] => .nil
  | c :: cs => .cons (.str _) (das_sg cs)
theorem en_lstS (h : EvD K te σ H (.str z)) (hz : z.length ≤ 100000) : EvN K (tCB (fLstS K) (tCons te tNil)) σ H ((tl z).map dsg) := fun H1 e Q q => h H1 e _ fun v H2 e2 dv => by
  cases dv
  exact Or.inr ⟨z, rfl, hz, fun l hp => q l _ _ (fresh_back e2 hp) (e2.trans (Ex.new hp)) upd_same (das_sg _)⟩
theorem ed_lower (h : EvD K te σ H (.str z)) (hz : z.length ≤ 5592405) : EvD K (tM0 (fun x xs H Q => ∃ a, x = .str a ∧ xs = [] ∧ a.length ≤ 5592405 ∧ Q (.str (Txt.lower a)) H) te) σ H (.str (Txt.lower z)) := fun H1 e Q q => h H1 e _ fun v H2 e2 dv => by
  cases dv
  exact ⟨⟨z, rfl⟩, z, rfl, rfl, hz, q _ H2 e2 (.str _)⟩
theorem lower_len (z : Str) : (Txt.lower z).length ≤ 3 * z.length := PyProof.Rows.len_lower z
theorem ed_disp1 {k : Str} {i : Int} : EvD K (tDisp [(tC (.str k), tC (.int i))]) σ H (.dict [(.str k, .int i)]) := fun H1 e Q q p np =>
  ⟨upd_same, [(.inr k, .int i)], rfl, by show 1 ≤ 15; decide, q _ _ (by
    rw [upd_upd]
    exact Ex.new np) (.dic upd_same (.cons (.int i) .nil))⟩
theorem inV_str (x : Str) : ∀ (ys : List Str), inV (.str x) (ys.map V.str) = decide (x ∈ ys)
  | [] => rfl
  | y :: ys => by
    show ((y == x) || inV (.str x) (ys.map V.str)) = _
    rw [inV_str x ys]
    by_cases h : y = x
    · subst h
      simp
    · have h' : ¬ x = y := fun e => h e.symm
      simp [h, h']
theorem opD_niS {ys : List Str} : OpD K (rIn K true) (.str x) (.tuple (ys.map .str)) (.bool (!decide (x ∈ ys))) := fun H1 v w hv hw Q q => by
  cases hv
  obtain ⟨p, xs, rfl, ht, ha⟩ := dp_tupI hw
  rw [strs_of ha] at ht
  refine ⟨p, _, rfl, Or.inr ht, rfl, ?_, ?_⟩
  · rw [List.all_eq_true]
    intro v hv
    obtain ⟨y, _, rfl⟩ := List.mem_map.mp hv
    rfl
  · show Q (.bl (!inV (.str x) (ys.map V.str))) H1
    rw [inV_str]
    exact q _ H1 (Ex.refl H1) (.bl _)
/-- a for over the pairs of numbers and signs -/
theorem sd_enumS {i j N : Nat} (h : EvDs K ta σ H [.str z]) (hN : N = 2) (W : Nat → L2.St → Hp → Prop) (h0 : ∀ H1, Ex H H1 → W 0 σ H1)
    (hs : ∀ n c σ' H', (tl z)[n]? = some c → W n σ' H' → ∀ H2, Ex H' H2 → u { D with nx := W (n + 1), ct := W (n + 1), bk := D.nx } ((σ'.set i (some (.int (n : Int)))).set j (some (.str (sg c)))) H2) (hd : ∀ σ' H', W z.length σ' H' → D.nx σ' H') :
    tFor (iEnumS ta) (gTup K N (gCons (gName i) (gCons (gName j) gNil))) u D σ H := h H (Ex.refl H) _ fun ws H1 e dv => by
  cases dv with
  | cons h1 hx =>
    cases hx
    cases h1
    refine ⟨z, rfl, fun n m σ' H' => m = z.length - n ∧ n ≤ z.length ∧ W n σ' H', ⟨z.length, rfl, Nat.zero_le _, h0 H1 e⟩, fun n m σ' H' hw => ?_⟩
    obtain ⟨rfl, le, w⟩ := hw
    by_cases lt : n < z.length
    · refine Or.inr ⟨lt, fun σ2 H2 => W (n + 1) σ2 H2, fun σ2 H2 w2 => ⟨z.length - (n + 1), by omega, rfl, lt, w2⟩, fun x H2 yy => ?_⟩
      obtain ⟨T, c, rfl, nT, rfl, hc⟩ := yy
      have hc' : (tl z)[n]? = some c := by
        show z.cps.toList[n]? = some c
        rw [Array.getElem?_toList, hc]
      exact ⟨T, _, rfl, SqT.of upd_same, hN.symm, _, _, rfl, _, _, rfl, rfl, hs n c σ' H' hc' w _ (Ex.new nT)⟩
    · have e : n = z.length := by omega
      subst e
      exact Or.inl ⟨rfl, hd σ' H' w⟩
theorem qd_enumS {i j N : Nat} (h : EvDs K ta σ H [.str z]) (hN : N = 2) (W : Nat → L2.St → Hp → Prop) (h0 : ∀ H1, Ex H H1 → W 0 σ H1)
    (hs : ∀ n c σ' H', (tl z)[n]? = some c → W n σ' H' → ∀ H2, Ex H' H2 → u { D with nx := W (n + 1), ct := W (n + 1), bk := y D } ((σ'.set i (some (.int (n : Int)))).set j (some (.str (sg c)))) H2) (hd : ∀ σ' H', W z.length σ' H' → y D σ' H') :
    tSeq (tFor (iEnumS ta) (gTup K N (gCons (gName i) (gCons (gName j) gNil))) u) y D σ H := sd_enumS (D := { D with nx := y D }) h hN W h0 hs hd
end
/-! ### edges judged -/
def lets : List Str := [Str.ofString "N", Str.ofString "T", Str.ofString "B"]
def badAt (i c : Nat) : Bool := decide ((i : Int) = 200) || !decide (sg c ∈ lets)
def firstBad (cs : List Nat) : Option Nat := (List.range cs.length).find? fun i => badAt i (cs[i]?.getD 0)
def dueE : PyData → PyData
  | .str z => match firstBad (tl z) with
    | some i => .int (i : Int)
    | none => if z.length = 0 then .int 0 else .none
  | _ => .int (-1)
theorem first_some {cs : List Nat} {i c : Nat} (hc : cs[i]? = some c) (b : badAt i c = true) (no : ∀ j c', j < i → cs[j]? = some c' → badAt j c' = false) : firstBad cs = some i := by
  have lt := (List.getElem?_eq_some_iff.mp hc).1
  unfold firstBad
  rw [List.find?_eq_some_iff_getElem]
  refine ⟨by rw [hc]; exact b, i, by rw [List.length_range]; exact lt, List.getElem_range _, fun j hj => ?_⟩
  have hj' : j < cs.length := by omega
  rw [List.getElem_range, List.getElem?_eq_getElem hj']
  show (!badAt j cs[j]) = true
  rw [no j _ hj (List.getElem?_eq_getElem hj')]
  rfl
theorem first_none {cs : List Nat} (no : ∀ j c', cs[j]? = some c' → badAt j c' = false) : firstBad cs = none := by
  unfold firstBad
  rw [List.find?_eq_none]
  intro j hj
  have hj := List.mem_range.mp hj
  rw [List.getElem?_eq_getElem hj]
  show ¬ badAt j cs[j] = true
  rw [no j _ (List.getElem?_eq_getElem hj)]
  decide
theorem due_nostr {x : PyData} (h : isD "str" x = false) : dueE x = .int (-1) := by
  cases x <;> first | rfl | (simp [isD, tyD] at h)
theorem due_at {z : Str} {i : Nat} (h : firstBad (tl z) = some i) : dueE (.str z) = .int (i : Int) := by
  show (match firstBad (tl z) with | some i => _ | none => _) = _
  rw [h]
theorem due_end {z : Str} (h : firstBad (tl z) = none) : dueE (.str z) = if z.length = 0 then .int 0 else .none := by
  show (match firstBad (tl z) with | some i => _ | none => _) = _
  rw [h]
theorem due_tr {x : PyData} (h : ∀ z, x = .str z → z.length ≤ 100000) : TameR 0 160 (dueE x) := by
  have ti : ∀ n : Int, n.natAbs ≤ 100000 → TameR 0 160 (.int n) := fun n hn => tr_leaf 0 rfl (fun j e => by cases e; exact Nat.lt_of_le_of_lt hn (by decide)) (fun x e => by cases e)
  cases x with
  | str z =>
    have hz := h z rfl
    cases f : firstBad (tl z) with
    | some i =>
      rw [due_at f]
      have := List.mem_of_find?_eq_some f
      have := List.mem_range.mp this
      rw [← tl_len] at this
      exact ti _ (by omega)
    | none =>
      rw [due_end f]
      split
      · exact ti 0 (by decide)
      · exact (tame_none (n := 0) (w := 160)).r
  | _ => exact ti (-1) (by decide)
def REdgeE (ds : List PyData) (d : PyData) : Prop := ∃ x : PyData, (∀ z, x = .str z → z.length ≤ 50000) ∧ ds = [x] ∧ d = dueE x
theorem tru_str {z : Str} (h : truD (.str z) = true) : ¬ z.length = 0 := by
  intro e
  simp [truD, e] at h
theorem tru_strF {z : Str} (h : truD (.str z) = false) : z.length = 0 := by
  simpa [truD] using h
end Mm

/-! An own error class whose `__init__` begins with `super().__init__('…')` and then stores its arguments: the call of such a class. -/
namespace MmE
open PySem PySem.W PyProof.Rows PySem.HandSPX

/-! ### all that a heap holds, as a list -/
def rest (h base : Heap) (x L : Addr) : List (Addr × Obj) :=
  (List.range h.objs.size).filterMap fun b => match h.get? b with | some o => if b ≠ x ∧ b ≠ L ∧ base.get? b = none then some (b, o) else none | none => none
theorem mem_rest {h base : Heap} {x L b : Addr} {o : Obj} : (b, o) ∈ rest h base x L ↔ h.get? b = some o ∧ b ≠ x ∧ b ≠ L ∧ base.get? b = none := by
  unfold rest
  rw [List.mem_filterMap]
  constructor
  · rintro ⟨c, hc, e⟩
    cases q : h.get? c with
    | none => rw [q] at e; cases e
    | some u =>
      rw [q] at e
      dsimp only at e
      by_cases z : c ≠ x ∧ c ≠ L ∧ base.get? c = none
      · rw [if_pos z] at e; cases e; exact ⟨q, z⟩
      · rw [if_neg z] at e; cases e
  · rintro ⟨q, z⟩
    refine ⟨b, List.mem_range.mpr (Heap.lt_size q), ?_⟩
    rw [q]
    dsimp only
    rw [if_pos z]

abbrev Sc (nms : List (Str × NameKind)) : Scope := { kind := .function, names := nms, isGenerator := false, isCoroutine := false, more := [] }
abbrev eSup (msg : Str) (j : Nat) (p0 p1 p2 p3 p4 : Pos) : Expr := .Call (.Attribute (.Call (.Name "super" p0) [] [] p1) "__init__" p2) [.Constant (.str msg) j p3] [] p4
/-- how this call is read, where its places are known -/
def CallIs (msg : Str) (j : Nat) (p0 p1 p2 p3 p4 : Pos) (env : Env) (pl : Sem Bool) : Prop :=
  eval (eSup msg j p0 p1 p2 p3 p4) env = (do
    let ov ← attributeBase (.Call (.Name "super" p0) [] [] p1) "__init__" env (eval (.Call (.Name "super" p0) [] [] p1) env)
    standAt p2.atName
    let (f, first) ← holding [ov] (getMethod ov "__init__" pl)
    callWith p4 f first (backTo p4 (starEach [.Constant (.str msg) j p3] env)) [])
/-- what the written part says of a class at C (and of its __init__ at fI) -/
structure Cl (K : Frag) (C : Addr) : Prop where
  cls : ∃ nm q N bs bm sn sub ab col dd k0 k1 k2 k3 k5, K.lookup C = some (excClassObj nm q C N bs bm true sn sub ab col dd k0 k1 k2 k3 k5 "ValueError.__new__") ∧ refsVE bm = true
  up : ks_superIn K C C "__init__" = some (some (.builtin "ValueError.__init__"))
  nx : excInitIn K C [.type "ValueError", .type "Exception", .type "BaseException", .type "object"] "ValueError.__new__" = true
  tp : nsIn K cStatics "thirdparty.any" = some none
  sa : findIn K (.ref C) "__setattr__" = some (some (.builtin "object.__setattr__"))
  ga : findIn K (.ref C) "__getattribute__" = some (some (.builtin "BaseException.__getattribute__"))
  gg : findIn K (.ref C) "__getattr__" = some none
  kC : keepIn K (.ref C) = true
  exC : subIn K (.ref C) (.type "BaseException") = some true
  veC : subIn K (.ref C) (.type "ValueError") = some true
  soC : subIn K (.ref C) (.ref C) = some true
  tyC : typeIn K (.ref C) = some (.type "type")
  hdC : hasDictIn K C = true
  ha : findIn K (.ref C) "__class__" = some (some (.builtin "object.__class__"))
  hn : specialIn K (.builtin "object.__class__") "__get__" = some (some (.builtin "getset_descriptor.__get__"))
  ht : takesIn K (.builtin "object.__class__") = some true
  hm : mroIn K C (.type "object") = some true
/-- what is asked of the program's own frame of text -/
structure Fm (P : Program) (K : Frag) (mg : Str → Option Value) (base : Heap) : Prop where
  noS : (P.main.scope.names.lookup (Str.ofString "super")).isSome = false
  gS : mg "super" = none
  mod : L2.Mod K mg base

section
variable {prog : Program} {w : World} {A : Around} {E : Value → Shared → Prop} {K : Frag} {mg : Str → Option Value} {base : Heap}

theorem super_init {h : Heap} {g : Array GenState} {d : Drawn} {t : Nat} {os : OsState} {L x C t0 f cda cc : Addr} {m : Str → Option Value} {qual msg : Str} {nms : List (Str × NameKind)} {body : List Stmt} {j : Nat} {p0 p1 p2 p3 p4 p5 : Pos}
    {fd : FuncData} {ar : Arg} {vs : Array Value} {file : Str} {tf : Tok} {oc ccl cl : Value} {od cdd cld : Option Addr} {osl ccs csl : Array (Option Value)} {Q : Flow → Shared → Prop}
    (T : Cl K C) (Y : Fm prog K mg base) (kb : ∀ b o, base.get? b = some o → h.get? b = some o) (hL : base.objs.size ≤ L) (hn : h.Ns L m) (hs : m "self" = some (.ref x)) (hx : h.get? x = some (excO C t0)) (hxb : base.get? x = none) (hxL : x ≠ L)
    (hf : K.lookup f = some ⟨oc, od, .func fd, osl⟩) (har : (fd.params.posonlyargs ++ fd.params.args).head? = some ar) (harn : ar.arg = "self")
    (hcda : K.lookup cda = some ⟨ccl, cdd, .fields vs, ccs⟩) (hvs : vs[2]? = some (.str file tf)) (hfile : (prog.main.file == file) = true)
    (hcc : K.lookup cc = some ⟨cl, cld, .cell (some (.ref C)), csl⟩)
    (k1 : nms.lookup (Str.ofString "super") = some .globalImplicit) (k2 : nms.lookup (Str.ofString "__class__") = some .free) (k3 : nms.lookup (Str.ofString "self") = some .local)
    {pl : Sem Bool} (hm : CallIs msg j p0 p1 p2 p3 p4 (ksEnv qual (Sc nms) L f (.ref cda) cc) pl)
    (hq : ∀ h' t' t1, (∀ b o, b ≠ x → b ≠ L → h.get? b = some o → h'.get? b = some o) → h'.get? x = some (excO C t1) → h'.Ns L m → Q .next ⟨h', g, d, t', os⟩) :
    PySem.wpAt (model prog w) A (.func body (ksEnv qual (Sc nms) L f (.ref cda) cc))
      (exec (.Expr (.Call (.Attribute (.Call (.Name "super" p0) [] [] p1) "__init__" p2) [.Constant (.str msg) j p3] [] p4) p5) (ksEnv qual (Sc nms) L f (.ref cda) cc)) Q E ⟨h, g, d, t, os⟩ := by
  obtain ⟨nm, q, N, bs, bm, sn, sub, ab, col, dd, k0, kk1, kk2, kk3, k5, hC, hbm⟩ := T.cls
  obtain ⟨mb, hmb, hbb⟩ := Y.mod.blt
  have X : K.In h := Y.mod.kin.keeps kb
  refine ks_wpAt_Expr_any ?_
  refine ks_wpAt_MethodCall (pl := pl) ?_ hm
  have kk : ∀ y, (ksEnv qual (Sc nms) L f (.ref cda) cc).kindOf y = nms.lookup y := fun y => rfl
  refine ks_wpAt_super_base (f := f) (cc := cda) (ar := ar) (vs := vs) (file := file) (tf := tf) ((kk _).trans k1) ((kk _).trans k2) (by decide) rfl (X _ _ hf) rfl har rfl (X _ _ hcda) rfl hvs hfile Y.noS ?_
  -- super
  refine ks_loadName_global rfl ((kk _).trans k1) (PySem.Calls.loadGlobal_builtin (Y.mod.glob.keeps kb) Y.gS (hmb.keeps kb) ((hbb _ (by decide)).trans (by rfl)) ⟨rfl, ?_⟩)
  -- __class__
  refine wpAny_loadName_free rfl ((kk _).trans k2) (c := cc) (v := .ref C) rfl ⟨_, X _ _ hcc, rfl⟩ ?_
  -- self
  rw [harn]
  refine wpAny_loadName_local rfl ((kk _).trans k3) hn hs ?_
  refine ks_wpAny_isType_cls (X _ _ hC) rfl ⟨rfl, ?_⟩
  refine ks_wpAny_call_super (X _ _ hC) rfl hx rfl (fun c e => by cases e) (looks_subIn X T.soC) fun h1 hso k01 => ?_
  -- the new objects
  have Fr0 : Fr base L h m := ⟨hn, kb, hL⟩
  have frame1 : Fr base L h1 m := ⟨hn.keeps k01, fun b o z => k01 b o (kb b o z), hL⟩
  have hsz : h.objs.size ≠ L := Nat.ne_of_gt hn.lt
  have bsz : base.get? h.objs.size = none := by
    cases e : base.get? h.objs.size with
    | none => rfl
    | some o => exact absurd (Heap.lt_size (kb _ _ e)) (Nat.lt_irrefl _)
  have news1 : News base L h1 ((h.objs.size, ks_superObj C x C) :: (x, excObj C t0 none .none) :: rest h base x L) := by
    rintro ⟨b, o⟩ hb
    rcases List.mem_cons.mp hb with e | hb
    · cases e; exact ⟨hso, hsz, bsz⟩
    rcases List.mem_cons.mp hb with e | hb
    · cases e; exact ⟨k01 _ _ hx, hxL, hxb⟩
    · obtain ⟨q1, q2, q3, q4⟩ := mem_rest.mp hb
      exact ⟨k01 _ _ q1, q3, q4⟩
  have inst1 : InstAt h1 x (excO C t0) C none := ⟨k01 _ _ hx, rfl, rfl, trivial⟩
  refine kxs_method (B := "ValueError") kxs_ValueError frame1 Y.mod.kin news1 (List.mem_cons_self) inst1 T.tp T.up T.veC (by decide) fun u h2 frame2 news2 lt2 => ?_
  refine kxs_callWith1 (i := "ValueError.__init__") (x := x) news2 List.mem_cons_self ?_ (by rfl) (by rfl)
  refine spliced_lits [.Constant (.str msg) j p3] [.str msg] _ _ rfl fun vs tk hv => ?_
  refine ⟨kxs_at news2 List.mem_cons_self, ?_⟩
  have hlen : vs.length ≤ sizeLine := by
    have e : vs.length = 1 := by
      rcases vs with _ | ⟨a, _ | ⟨b, r⟩⟩
      · cases hv
      · rfl
      · cases hv with
        | cons _ q => cases q
    rw [e, sizeLine_eq]
    exact (by decide : 1 ≤ 16777216)
  have hxu : u ≠ x := Nat.ne_of_gt (lt2 (x, excObj C t0 none .none) (List.mem_cons_of_mem _ List.mem_cons_self))
  have hxs : h.objs.size ≠ x := Nat.ne_of_gt (Heap.lt_size hx)
  refine kxs_call (s := ⟨h2, g, d, tk, os⟩) frame2 Y.mod.kin news2 F.excBase_ValueError T.nx List.mem_cons_self (.tail (p := (u, kxs_mw "ValueError.__init__" x)) hxu (.tail (p := (h.objs.size, ks_superObj C x C)) hxs (.head (o := excObj C t0 none .none) fun p hp => (mem_rest.mp (show (p.1, p.2) ∈ _ from hp)).2.1))) hlen fun t' h3 frame3 news3 _ => ?_
  refine hq h3 tk t' (fun b o b1 b2 z => ?_) ?_ frame3.ns
  · cases e : base.get? b with
    | some o' =>
      have z' := kb b o' e
      rw [z] at z'
      cases z'
      exact frame3.keep b o e
    | none => exact (news3 (b, o) (List.mem_cons_of_mem _ (List.mem_cons_of_mem _ (List.mem_cons_of_mem _ (List.mem_cons_of_mem _ (mem_rest.mpr ⟨z, b1, b2, e⟩)))))).1
  · exact (news3 (x, excObj C t' none .none) (List.mem_cons_of_mem _ (List.mem_cons_of_mem _ (List.mem_cons_of_mem _ List.mem_cons_self)))).1

/-! ### the fields -/
abbrev P4 := Pos × Pos × Pos × Pos
abbrev asg (f : Str) (q : P4) : Stmt := .Assign [.Attribute (.Name "self" q.1) f q.2.1] (.Name f q.2.2.1) q.2.2.2
def excD (C t1 : Addr) (d : Option Addr) : Obj := { cls := .ref C, dict := d, data := .fields #[.ref t1, .none, .none, .none, .bool false, .none] }
/-- the error at x, with the fields in acc stored; h0 is the heap ahead of the call of `__init__` -/
structure Stored (h0 h : Heap) (L x C : Addr) (m : Str → Option Value) (acc : List (Str × Value)) : Prop where
  keep : ∀ b o, b ≠ x → h0.get? b = some o → h.get? b = some o
  ns : h.Ns L m
  obj : (acc = [] ∧ ∃ t1, h.get? x = some (excD C t1 none)) ∨ acc ≠ [] ∧ ∃ dx t1, h.get? x = some (excD C t1 (some dx)) ∧ h0.objs.size ≤ dx ∧ dx ≠ x ∧ dx ≠ L ∧ h.Ns1 dx (fun y => List.lookup y acc)
theorem look1 (f : Str) (v : Value) (m0 : Str → Option Value) (acc : List (Str × Value)) (e : ∀ y, m0 y = List.lookup y acc) : (fun y => if y = f then some v else m0 y) = fun y => List.lookup y ((f, v) :: acc) := by
  funext y
  by_cases h : y = f
  · subst h
    rw [if_pos rfl]
    simp [List.lookup]
  · rw [if_neg h, e]
    have q : (y == f) = false := by simpa using h
    simp [List.lookup, q]
theorem look_mem : ∀ {acc : List (Str × Value)} {y : Str}, List.lookup y acc ≠ none → y ∈ acc.map (·.1)
  | [], y, h => absurd rfl h
  | (f, v) :: r, y, h => by
    by_cases e : y = f
    · subst e
      exact List.mem_cons_self
    · have q : (y == f) = false := by simpa using e
      have z : List.lookup y ((f, v) :: r) = List.lookup y r := by simp [List.lookup, q]
      rw [z] at h
      exact List.mem_cons_of_mem _ (look_mem h)
theorem store_one {h0 h : Heap} {g : Array GenState} {d : Drawn} {t : Nat} {os : OsState} {L x C : Addr} {m : Str → Option Value} {env : Env} {f : Str} {v : Value} {q : P4} {acc : List (Str × Value)} {Q : Flow → Shared → Prop}
    (T : Cl K C) (Y : Fm prog K mg base) (kb : ∀ b o, base.get? b = some o → h0.get? b = some o) (hxb : base.get? x = none) (hL : h0.objs.size = L) (hxL : x ≠ L)
    (hek : env.scope.kind = .function) (hel : env.locals = L) (hs : m "self" = some (.ref x)) (ks : env.kindOf "self" = some .local) (hf : m f = some v) (kf : env.kindOf f = some .local) (nf : findIn K (.ref C) f = some none) (df : (f == ("__debug__" : Str)) = false)
    (many : acc.length ≤ 900) (S : Stored h0 h L x C m acc) (hq : ∀ h' t', Stored h0 h' L x C m ((f, v) :: acc) → Q .next ⟨h', g, d, t', os⟩) :
    wpAny (model prog w) A (exec (asg f q) env) Q E ⟨h, g, d, t, os⟩ := by
  subst hel
  obtain ⟨nm, qn, N, bs, bm, sn, sub, ab, col, dd, k0, kk1, kk2, kk3, k5, hC, hbm⟩ := T.cls
  have hcl : clsIn K C = some { name := nm, bases := bs, mro := .ref C :: bm, ns := N, qualname := qn, hasDict := true, slotNames := sn, subclasses := sub, abstract := ab, collection := col, hasDel := false } := by unfold clsIn; rw [hC] <;> rfl
  have X : K.In h := fun a o z => by
    have zb := Y.mod.kin a o z
    exact S.keep a o (fun e => by rw [e, hxb] at zb; cases zb) (kb a o zb)
  refine plainObj_wpAny_Assign_Attribute ?_
  refine wpAny_Name (wpAny_loadName_local hek kf S.ns hf ?_) df
  refine wpAny_Name (wpAny_loadName_local hek ks S.ns hs ?_) (by decide)
  rcases S.obj with ⟨rfl, t1, hx⟩ | ⟨_, dx, t1, hx, hd0, hdx, hdL, hns⟩
  · refine set_plain X (ox := excD C t1 none) (od := none) ⟨hx, rfl, rfl, trivial⟩ T.sa ?_
    refine exc_osa X hx hcl (show refsVE (.ref C :: bm) = true from hbm) rfl nf fun h' t' dx k dn dne hx' hns => ?_
    refine hq h' t' ⟨fun b o e z => k b o e (S.keep b o e z), ?_, .inr ⟨List.cons_ne_nil _ _, dx, t1, hx', ?_, dne, ?_, ?_⟩⟩
    · obtain ⟨o, es, ep, z, dt, r⟩ := S.ns
      exact ⟨o, es, ep, k _ _ (Ne.symm hxL) z, dt, r⟩
    · have z := S.ns.lt
      rw [← hL] at z
      exact Nat.le_of_lt (Nat.lt_of_lt_of_le z dn)
    · exact Nat.ne_of_gt (Nat.lt_of_lt_of_le S.ns.lt dn)
    · rw [← look1 f v (fun _ => none) [] (fun _ => rfl)]
      exact hns
  · obtain ⟨od, es, ep, ho, hdat, r⟩ := hns
    have hns : h.Ns1 dx (fun y => List.lookup y acc) := ⟨od, es, ep, ho, hdat, r⟩
    refine set_plain X (ox := excD C t1 (some dx)) (od := some od) ⟨hx, rfl, rfl, ho⟩ T.sa ?_
    refine PySem.OEX.osa_old (nl := acc.map (·.1)) X hx hns ?_ (by rw [List.length_map]; omega) hcl (show refsVE (.ref C :: bm) = true from hbm) rfl nf fun h' t' k hns' => ?_
    · exact fun y hy => look_mem hy
    refine hq h' t' ⟨fun b o e z => k b o (fun e2 => ?_) (S.keep b o e z), ?_, .inr ⟨List.cons_ne_nil _ _, dx, t1, k _ _ (Ne.symm hdx) hx, hd0, hdx, hdL, ?_⟩⟩
    · subst e2
      exact absurd (Heap.lt_size z) (Nat.not_lt_of_le hd0)
    · obtain ⟨o, es, ep, z, dt, r⟩ := S.ns
      exact ⟨o, es, ep, k _ _ (Ne.symm hdL) z, dt, r⟩
    · rw [← look1 f v (fun y => List.lookup y acc) acc (fun _ => rfl)]
      exact hns'
/-- what is asked of a stored field's name -/
structure FOk (K : Frag) (C : Addr) (m : Str → Option Value) (env : Env) (f : Str) (v : Value) : Prop where
  val : m f = some v
  loc : env.kindOf f = some .local
  noF : findIn K (.ref C) f = some none
  dbg : (f == ("__debug__" : Str)) = false
theorem stores {h0 : Heap} {g : Array GenState} {d : Drawn} {os : OsState} {L x C : Addr} {m : Str → Option Value} {env : Env} {Q : Flow → Shared → Prop}
    (T : Cl K C) (Y : Fm prog K mg base) (kb : ∀ b o, base.get? b = some o → h0.get? b = some o) (hxb : base.get? x = none) (hL : h0.objs.size = L) (hxL : x ≠ L)
    (hek : env.scope.kind = .function) (hel : env.locals = L) (hs : m "self" = some (.ref x)) (ks : env.kindOf "self" = some .local) :
    ∀ (fs : List (Str × Value × P4)) (acc : List (Str × Value)) (h : Heap) (t : Nat), (∀ e ∈ fs, FOk K C m env e.1 e.2.1) → acc.length + fs.length ≤ 900 → Stored h0 h L x C m acc →
      (∀ h' t', Stored h0 h' L x C m ((fs.map fun e => (e.1, e.2.1)).reverse ++ acc) → Q .next ⟨h', g, d, t', os⟩) →
      wpAny (model prog w) A (execs (fs.map fun e => asg e.1 e.2.2) env) Q E ⟨h, g, d, t, os⟩
  | [], acc, h, t, _, _, S, hq => wpAny_execs_nil (hq h t S)
  | (f, v, q) :: r, acc, h, t, ok, n, S, hq => by
    have o := ok _ List.mem_cons_self
    refine wpAny_execs_cons (store_one T Y kb hxb hL hxL hek hel hs ks o.val o.loc o.noF o.dbg (by have := n; simp only [List.length_cons] at this; omega) S fun h' t' S' => ?_)
    refine stores T Y kb hxb hL hxL hek hel hs ks r ((f, v) :: acc) h' t' (fun e he => ok e (List.mem_cons_of_mem _ he)) (by have := n; simp only [List.length_cons] at this ⊢; omega) S' fun h2 t2 S2 => hq h2 t2 ?_
    have e : (((f, v, q) :: r).map fun e => (e.1, e.2.1)).reverse ++ acc = (r.map fun e => (e.1, e.2.1)).reverse ++ (f, v) :: acc := by simp
    rw [e]
    exact S2
theorem look_rev {y : Str} {v : Value} : ∀ (l : List (Str × Value)), (l.map (·.1)).Nodup → (y, v) ∈ l → List.lookup y l.reverse = some v
  | [], _, h => nomatch h
  | (a, b) :: r, nd, h => by
    rw [List.map_cons, List.nodup_cons] at nd
    rw [List.reverse_cons, List.lookup_append]
    rcases List.mem_cons.mp h with e | e
    · cases e
      have z : List.lookup y r.reverse = none := by
        cases q : List.lookup y r.reverse with
        | none => rfl
        | some u =>
          have := look_mem (acc := r.reverse) (y := y) (by rw [q]; exact fun e => nomatch e)
          rw [List.map_reverse, List.mem_reverse] at this
          exact absurd this nd.1
      rw [z]
      simp [List.lookup]
    · rw [look_rev r nd.2 e]
      rfl
theorem zip_fst : ∀ (a : List Str) (b : List Value), b.length = a.length → (a.zip b).map (·.1) = a
  | [], _, _ => rfl
  | x :: r, [], h => nomatch h
  | x :: r, y :: q, h => by rw [List.zip_cons_cons, List.map_cons, zip_fst r q (Nat.succ.inj h)]
theorem zip_asg : ∀ (fs : List Str) (ps : List P4) (us : List Value), fs.length = ps.length → fs.length = us.length → ((fs.zip ps).map fun e => asg e.1 e.2) = ((fs.zip (us.zip ps)).map fun e => asg e.1 e.2.2)
  | [], _, _, _, _ => rfl
  | f :: r, p :: q, u :: v, h1, h2 => by
    rw [List.zip_cons_cons, List.zip_cons_cons, List.zip_cons_cons, List.map_cons, List.map_cons, zip_asg r q v (Nat.succ.inj h1) (Nat.succ.inj h2)]
theorem zip_two : ∀ (fs : List Str) (ps : List P4) (us : List Value), fs.length = ps.length → fs.length = us.length → (fs.zip (us.zip ps)).map (fun e => (e.1, e.2.1)) = fs.zip us
  | [], _, _, _, _ => rfl
  | f :: r, p :: q, u :: v, h1, h2 => by
    rw [List.zip_cons_cons, List.zip_cons_cons, List.zip_cons_cons, List.map_cons, zip_two r q v (Nat.succ.inj h1) (Nat.succ.inj h2)]
/-- the text of such an `__init__` -/
structure Ini (P : Program) (K : Frag) (C fI : Addr) (fs : List Str) : Prop where
  iC : findIn K (.ref C) "__init__" = some (some (.ref fI))
  tC : typeIn K (.ref fI) = some (.type "function")
  noF : ∀ f ∈ fs, findIn K (.ref C) f = some none ∧ (f == ("__debug__" : Str)) = false ∧ f ≠ "self"
  fn : ∃ (oc : Value) (od : Option Addr) (doc pm : Value) (an : Option Addr) (ct : Value) (osl : Array (Option Value)) (qual : Str) (par : Arguments) (msg : Str) (j : Nat) (p0 p1 p2 p3 p4 p5 : Pos) (ps : List P4) (nms : List (Str × NameKind)) (cda cc : Addr)
      (ccl cl : Value) (cdd cld : Option Addr) (ccs csl : Array (Option Value)) (vs : Array Value) (file : Str) (tf : Tok),
    K.lookup fI = some ⟨oc, od, .func (ksFn "__init__" qual par (.Expr (eSup msg j p0 p1 p2 p3 p4) p5 :: (fs.zip ps).map fun e => asg e.1 e.2) (Sc nms) .none .none doc pm an (.ref cda) ct cc), osl⟩ ∧
    ps.length = fs.length ∧ codeIn K (.ref cda) qual = true ∧ K.lookup cda = some ⟨ccl, cdd, .fields vs, ccs⟩ ∧ vs[2]? = some (.str file tf) ∧ (P.main.file == file) = true ∧
    K.lookup cc = some ⟨cl, cld, .cell (some (.ref C)), csl⟩ ∧
    nms.lookup (Str.ofString "super") = some .globalImplicit ∧ nms.lookup (Str.ofString "__class__") = some .free ∧ nms.lookup (Str.ofString "self") = some .local ∧ (∀ f ∈ fs, nms.lookup f = some .local) ∧
    (∀ y ∈ nms, y.2 ≠ .cell) ∧
    (∀ L, ∃ pl, CallIs msg j p0 p1 p2 p3 p4 (ksEnv qual (Sc nms) L fI (.ref cda) cc) pl) ∧
    (∃ ar, (par.posonlyargs ++ par.args).head? = some ar ∧ ar.arg = "self") ∧
    (∀ (us : List Value), us.length = fs.length + 1 → bindArgs (ksFn "__init__" qual par (.Expr (eSup msg j p0 p1 p2 p3 p4) p5 :: (fs.zip ps).map fun e => asg e.1 e.2) (Sc nms) .none .none doc pm an (.ref cda) ct cc) ⟨us, []⟩ = pure ((Str.ofString "self" :: fs).zip us))
theorem init_call {s : Shared} {R : Result → Shared → Prop} {x C fI t0 : Addr} {fs : List Str} {us : List Value} (T : Cl K C) (Y : Fm prog K mg base) (I : Ini prog K C fI fs) (nd : fs.Nodup) (few : fs.length ≤ 900)
    (kb : ∀ b o, base.get? b = some o → s.heap.get? b = some o) (bsz : base.objs.size ≤ s.heap.objs.size) (hxb : base.get? x = none) (hlim : s.heap.NoLimit) (hx : s.heap.get? x = some (excO C t0)) (hroom : A.depth < recursionLimit) (hu : us.length = fs.length)
    (hq : ∀ h' t' L m, Stored s.heap h' L x C m ((fs.zip us).reverse) → R (.ok (.ret .none)) { s with heap := h', toks := t' }) :
    codeAny (model prog w) A (.call (.ref fI) ⟨.ref x :: us, []⟩) R s := by
  obtain ⟨oc, od, doc, pm, an, ct, osl, qual, par, msg, j, p0, p1, p2, p3, p4, p5, ps, nms, cda, cc, ccl, cl, cdd, cld, ccs, csl, vs, file, tf, lf, hps, hcd, lcd, hvs, hfile, lcc, n1, n2, n3, n4, n5, hcall, ⟨ar, har, harn⟩, hb⟩ := I.fn
  have X : K.In s.heap := Y.mod.kin.keeps kb
  refine ks_codeAny_call_defAt (binds := (Str.ofString "self" :: fs).zip (.ref x :: us)) hroom (X _ _ lf) rfl hlim (codeRec_of X hcd) rfl (BindsTo.of_eq (hb (.ref x :: us) (by simp [hu]))) n5 ?_ fun h1 ns1 k1 => ?_
  · rintro ⟨y, v⟩ hy
    have z := (List.of_mem_zip hy).1
    rcases List.mem_cons.mp z with e | e
    · rw [show (y, v).1 = y from rfl, e]; exact n3
    · exact n4 y e
  have hxL : x ≠ s.heap.objs.size := Nat.ne_of_lt (Heap.lt_size hx)
  obtain ⟨pl, hm⟩ := hcall s.heap.objs.size
  have hnd : (((Str.ofString "self" :: fs).zip (.ref x :: us)).map (·.1)).Nodup := by
    rw [zip_fst _ _ (by simp [hu])]
    exact List.nodup_cons.mpr ⟨fun e => (I.noF _ e).2.2 rfl, nd⟩
  have hs : (fun y => List.lookup y ((Str.ofString "self" :: fs).zip (.ref x :: us)).reverse) (Str.ofString "self") = some (.ref x) :=
    look_rev _ hnd List.mem_cons_self
  refine ks_wpAt_execs_cons ?_
  refine super_init (cc := cc) (cda := cda) (f := fI) (L := s.heap.objs.size) T Y (fun b o z => k1 b o (kb b o z)) bsz ns1 hs (k1 _ _ hx) hxb hxL lf har harn lcd hvs hfile lcc n1 n2 n3 hm fun h2 t2 t1 k2 hx2 ns2 => ?_
  refine wpAt_of_wpAny ?_
  rw [zip_asg fs ps us hps.symm hu.symm]
  have three : (fs.zip (us.zip ps)).map (fun e => (e.1, e.2.1)) = fs.zip us := zip_two fs ps us hps.symm hu.symm
  refine stores (h0 := s.heap) (L := s.heap.objs.size) (x := x) (C := C) (m := fun y => List.lookup y ((Str.ofString "self" :: fs).zip (.ref x :: us)).reverse) T Y kb hxb rfl hxL (by rfl) (by rfl) hs (by exact n3) (fs.zip (us.zip ps)) [] h2 t2 ?_ ?_ ⟨fun b o e z => k2 b o e (Nat.ne_of_lt (Heap.lt_size z)) (k1 b o z), ns2, .inl ⟨rfl, t1, hx2⟩⟩ fun h3 t3 S => ?_
  · rintro ⟨f, v, q⟩ he
    have hf := (List.of_mem_zip he).1
    have hz : (f, v) ∈ fs.zip us := by
      rw [← three]
      exact List.mem_map.mpr ⟨(f, v, q), he, rfl⟩
    exact ⟨look_rev _ hnd (List.mem_cons_of_mem _ hz), n4 f hf, (I.noF f hf).1, (I.noF f hf).2.1⟩
  · have : (fs.zip (us.zip ps)).length ≤ fs.length := by rw [List.length_zip]; exact Nat.min_le_left _ _
    simp only [List.length_nil]; omega
  · rw [three, List.append_nil] at S
    exact hq h3 t3 _ _ S
end
end MmE

/-! Making such an error, catching it, asking it. -/
namespace MmE
open PySem PySem.W PyProof.Rows PySem.HandSPX
/-- a made error -/
structure Made (h h' : Heap) (e C : Addr) (acc : List (Str × Value)) : Prop where
  keep : ∀ b o, h.get? b = some o → h'.get? b = some o
  new : h.objs.size ≤ e
  obj : (acc = [] ∧ ∃ t1, h'.get? e = some (excD C t1 none)) ∨ acc ≠ [] ∧ ∃ dx t1, h'.get? e = some (excD C t1 (some dx)) ∧ h.objs.size ≤ dx ∧ dx ≠ e ∧ h'.Ns1 dx (fun y => List.lookup y acc)
section
variable {prog : Program} {w : World} {A : Around} {E : Value → Shared → Prop} {R : Result → Shared → Prop} {s : Shared} {K : Frag} {mg : Str → Option Value} {base : Heap}
theorem made {C fI : Addr} {fs : List Str} {us : List Value} (T : Cl K C) (Y : Fm prog K mg base) (I : Ini prog K C fI fs) (nd : fs.Nodup) (few : fs.length ≤ 900)
    (kb : ∀ b o, base.get? b = some o → s.heap.get? b = some o) (bsz : base.objs.size ≤ s.heap.objs.size) (hlim : s.heap.NoLimit) (hroom : A.depth + 1 < recursionLimit) (hu : us.length = fs.length)
    (hq : ∀ h' tk e, Made s.heap h' e C ((fs.zip us).reverse) → R (.ok (.ret (.ref e))) { s with heap := h', toks := tk }) :
    codeAny (model prog w) A (.call (.ref C) ⟨us, []⟩) R s := by
  obtain ⟨nm, q, N, bs, bm, sn, sub, ab, col, dd, k0, k1, k2, k3, k5, hC, hbm⟩ := T.cls
  obtain ⟨hp, g, dr, tk, os⟩ := s
  have X : K.In hp := Y.mod.kin.keeps kb
  have k : ∀ b o, hp.get? b = some o → ((hp.push (kdv_tup us)).push (excO C hp.objs.size)).get? b = some o := fun b o e => Heap.get?_push_of_some _ (Heap.get?_push_of_some _ e)
  have hget : ((hp.push (kdv_tup us)).push (excO C hp.objs.size)).get? (hp.objs.size + 1) = some (excO C hp.objs.size) := by heap_get
  have hxb : base.get? (hp.objs.size + 1) = none := by
    cases e : base.get? (hp.objs.size + 1) with
    | none => rfl
    | some o => exact absurd (Nat.lt_of_succ_lt (Heap.lt_size (kb _ _ e))) (Nat.lt_irrefl _)
  have sz : ((hp.push (kdv_tup us)).push (excO C hp.objs.size)).objs.size = hp.objs.size + 1 + 1 := by rw [Heap.size_push, Heap.size_push]
  refine call_own F.excBase_ValueError (fun X => refsVE_contains X bm hbm) (X _ _ hC) (looks_findIn X I.iC) (fun self => bind_fn X self I.tC) (by rw [hu, sizeLine_eq]; omega) ?_
  refine init_call (s := ⟨(hp.push (kdv_tup us)).push (excO C hp.objs.size), g, dr, tk, os⟩) T Y I nd few (fun b o e => k b o (kb b o e)) (by show base.objs.size ≤ ((hp.push (kdv_tup us)).push (excO C hp.objs.size)).objs.size; rw [sz]; exact Nat.le_succ_of_le (Nat.le_succ_of_le bsz)) hxb (hlim.keeps k) hget ?_ hu fun h' tk' L m S => ?_
  · show A.depth + 1 < recursionLimit
    exact hroom
  · have old : ∀ b o, hp.get? b = some o → h'.get? b = some o := fun b o e => S.keep b o (Nat.ne_of_lt (Nat.lt_succ_of_lt (Heap.lt_size e))) (k b o e)
    refine ⟨rfl, hq h' tk' (hp.objs.size + 1) ⟨old, Nat.le_succ _, ?_⟩⟩
    rcases S.obj with z | ⟨na, dx, t1, hx, h0, hd, _, hns⟩
    · exact .inl z
    · refine .inr ⟨na, dx, t1, hx, ?_, hd, hns⟩
      have h0' : hp.objs.size + 1 + 1 ≤ dx := by
        have z : ((hp.push (kdv_tup us)).push (excO C hp.objs.size)).objs.size ≤ dx := h0
        rw [sz] at z
        exact z
      exact Nat.le_trans (Nat.le_trans (Nat.le_succ _) (Nat.le_succ _)) h0'
end
end MmE
namespace Mm
open PySem PySem.Spec PyProof.Rows L2 MmE
theorem relO_look : ∀ {fs : List Str} {vs : List V} {us : List Value}, Vals vs us → us.length = fs.length → ∀ f, RelO (List.lookup f (fs.zip vs).reverse) (List.lookup f (fs.zip us).reverse) := by
  intro fs vs us r h f
  have main : ∀ (fs : List Str) (vs : List V) (us : List Value), Vals vs us → us.length = fs.length → ∀ (a : List (Str × V)) (b : List (Str × Value)), (∀ f, RelO (List.lookup f a) (List.lookup f b)) → RelO (List.lookup f ((fs.zip vs).reverse ++ a)) (List.lookup f ((fs.zip us).reverse ++ b)) := by
    intro fs
    induction fs with
    | nil => intro vs us _ _ a b h; exact h f
    | cons x r ih =>
      intro vs us rv hl a b h
      cases rv with
      | nil => cases hl
      | cons r1 rn =>
        rename_i v u vs' us'
        rw [List.zip_cons_cons, List.zip_cons_cons, List.reverse_cons, List.reverse_cons, List.append_assoc, List.append_assoc]
        refine ih vs' us' rn (Nat.succ.inj hl) _ _ fun g => ?_
        show RelO (List.lookup g ((x, v) :: a)) (List.lookup g ((x, u) :: b))
        by_cases e : g = x
        · subst e
          have q1 : List.lookup g ((g, v) :: a) = some v := by simp [List.lookup]
          have q2 : List.lookup g ((g, u) :: b) = some u := by simp [List.lookup]
          rw [q1, q2]
          exact r1
        · have q : (g == x) = false := by simpa using e
          have q1 : List.lookup g ((x, v) :: a) = List.lookup g a := by simp [List.lookup, q]
          have q2 : List.lookup g ((x, u) :: b) = List.lookup g b := by simp [List.lookup, q]
          rw [q1, q2]
          exact h g
  have z := main fs vs us r h [] [] (fun _ => trivial)
  rw [List.append_nil, List.append_nil] at z
  exact z
section
variable {X : Cx} {C fI : Addr} {fs : List Str}
/-- an error class of the program: the class's name, its `__init__`, its fields -/
structure Er (P : Program) (K : PySem.W.Frag) (mg : Str → Option Value) (nm : Str) (C : Addr) (fs : List Str) : Prop where
  cl : Cl K C
  ini : ∃ fI, Ini P K C fI fs
  nd : fs.Nodup
  few : fs.length ≤ 900
  gC : mg nm = some (.ref C)
  noS : (P.main.scope.names.lookup (Str.ofString "super")).isSome = false
  gS : mg "super" = none
/-- C(e, ..) -/
def tMkE (C : Addr) (fs : List Str) (ta : TA) : L2.St → Hp → XK → Prop := fun σ H Q => ta σ H fun vs H1 => vs.length = fs.length ∧ (fs = [] → Q (.ref C) none H1) ∧ (fs ≠ [] → ∀ d, H1 d = none → Q (.ref C) (some d) (upd H1 d (.xd (fs.zip vs).reverse)))
theorem _root_.L2.Inv.bsz' {pins : List (Addr × Obj)} {σ : L2.St} {H : Hp} {s : Shared} (I : Inv X pins σ H s) : X.base.objs.size ≤ s.heap.objs.size := by
  exact Nat.le_trans I.ok.bsz I.sz
theorem mkE_end {nm : Str} {pins : List (Addr × Obj)} {σ : L2.St} {H1 : Hp} {s1 : Shared} {us : List Value} {vs : List V} {Q : XK} {k : Nat} (T : Er X.prog X.K X.mg nm C fs) (hr : Room k X.A) (I1 : Inv X pins σ H1 s1) (rv : Vals vs us)
    (hl : vs.length = fs.length) (q0 : fs = [] → Q (.ref C) none H1) (q1 : fs ≠ [] → ∀ d, H1 d = none → Q (.ref C) (some d) (upd H1 d (.xd (fs.zip vs).reverse))) :
    wpAny (model X.prog X.w) X.A (call (.ref C) us) (MkP X pins σ Q) X.xe s1 := by
  obtain ⟨fI, I⟩ := T.ini
  have hlim := I1.nolimit
  have hu : us.length = fs.length := by rw [← hl]; exact rv.length.symm
  have kb : ∀ b o, X.base.get? b = some o → s1.heap.get? b = some o := fun b o e => (I1.bs b o e).1
  have bsz : X.base.objs.size ≤ s1.heap.objs.size := I1.bsz'
  obtain ⟨hp, g, dr, tk, os⟩ := s1
  refine wpAny_call (made T.cl ⟨T.noS, T.gS, I1.ok.mod⟩ I T.nd T.few kb bsz hlim (by have := hr.dp; omega) hu fun h' tk' e M => ?_)
  show MkP X pins σ Q (.ref e) ⟨h', g, dr, tk', os⟩
  obtain ⟨G', g1, g2⟩ := restrict h' fun b => decide (b ≠ e)
  have gk : ∀ b, b ≠ e → G'.get? b = h'.get? b := fun b hb => g1 b (decide_eq_true hb)
  have ge : G'.get? e = none := g2 e (by simp)
  have old : ∀ b o, hp.get? b = some o → G'.get? b = some o := fun b o q => (gk b (Nat.ne_of_lt (Nat.lt_of_lt_of_le (Heap.lt_size q) M.new))).trans (M.keep b o q)
  have back : ∀ b o, G'.get? b = some o → h'.get? b = some o := fun b o q => by
    by_cases hb : b = e
    · rw [hb, ge] at q; cases q
    · exact (gk b hb).symm.trans q
  rcases M.obj with ⟨z, t1, hx⟩ | ⟨na, d, t1, hx, hd, hde, hns⟩
  · have fe : fs = [] := by
      cases fs with
      | nil => rfl
      | cons f r =>
        cases us with
        | nil => cases hu
        | cons u q =>
          rw [List.zip_cons_cons, List.reverse_cons] at z
          exact absurd z (by simp)
    have J : Inv X pins σ H1 ⟨G', g, dr, tk', os⟩ := I1.kept (t' := tk') old
    exact ⟨e, _, _, ⟨G', g, dr, tk', os⟩, _, .ref C, none, rfl, J, back, ge, hx, ⟨rfl, rfl⟩, rfl, rfl, I1.hok.fresh M.new, rfl, I1.bare, raises_own T.cl.exC T.cl.tyC, q0 fe⟩
  · have fe : fs ≠ [] := by
      rintro rfl
      exact na rfl
    have ob : ObjOk X.prog X.w (upd H1 d (.xd (fs.zip vs).reverse)) G' d (.xd (fs.zip vs).reverse) :=
      ⟨_, hns.at (fun o q => (gk d hde).trans q), fun f => relO_look rv hu f⟩
    have J : Inv X pins σ (upd H1 d (.xd (fs.zip vs).reverse)) ⟨G', g, dr, tk', os⟩ := I1.laid (t' := tk') old hd ob
    refine ⟨e, _, _, ⟨G', g, dr, tk', os⟩, _, .ref C, some d, rfl, J, back, ge, hx, ⟨rfl, rfl⟩, rfl, rfl, ?_, rfl, I1.bare, raises_own T.cl.exC T.cl.tyC, q1 fe d (I1.hok.fresh hd)⟩
    rw [upd_ne (Ne.symm hde)]
    exact I1.hok.fresh M.new
theorem pmk_er {a : Expr} {es : List Expr} {nm : Str} {ta : TA} {p pos : Pos} {k : Nat} (T : Er X.prog X.K X.mg nm C fs) (hr : Room k X.A) (ha : PA X (a :: es) ta) (hg : Gl X nm) (hd : (nm == Str.ofString "__debug__") = false := by rfl)
    (he : starEach (a :: es) X.env = (false, eval a X.env) :: starEach es X.env := by rfl) (hpl : (backTo pos (starEach es X.env)).any (·.1) = false := by rfl) :
    PMk X (.Call (.Name nm p) (a :: es) [] pos) (tMkE C fs ta) := by
  intro pins s σ H Q I h
  refine wpAny_Call_Name_kw (ld_glob I hg T.gC ?_ hd)
  refine PySem.W.callWith_K (h₀ := X.base) I.ok.mod.kin T.cl.kC (thn (ha.run pos pins s σ H _ I h) fun us s1 hh => ?_) he hpl
  obtain ⟨vs, H1, I1, r1, hl, q0, q1⟩ := hh
  exact ⟨I1.kIn, mkE_end T hr I1 r1 hl q0 q1⟩
theorem pmk_er0 {nm : Str} {p pos : Pos} {k : Nat} (T : Er X.prog X.K X.mg nm C []) (hr : Room k X.A) (hg : Gl X nm) (hd : (nm == Str.ofString "__debug__") = false := by rfl) :
    PMk X (.Call (.Name nm p) [] [] pos) (fun σ H Q => Q (.ref C) none H) := by
  intro pins s σ H Q I h
  refine wpAny_Call_Name_kw (ld_glob I hg T.gC ?_ hd)
  refine PySem.W.callWith_K0 I.kIn T.cl.kC ?_
  exact mkE_end T hr I .nil rfl (fun _ => h) (fun e => absurd rfl e)
end
end Mm

namespace Mm
open PySem PySem.Spec PyProof.Rows L2 MmE
/-! ### defs that may raise -/
structure CalX (P : Program) (w : World) (K : PySem.W.Frag) (mg : Str → Option Value) (base : Heap) (k : Nat) (x : Str) (sp : Sp) : Prop where
  ex : ∃ (f : Addr) (fd : FuncData) (ps : List Str), FnOk P w K mg base (L2.CX P w) k f fd ps sp ∧ mg x = some (.ref f) ∧ PySem.W.keepIn K (.ref f) = true ∧ Binds K fd ps []
theorem pe_cX {X : Cx} {k l : Nat} {x : Str} {sp : Sp} {p pos : Pos} {e : Expr} {es : List Expr} {t : TA} {W : WX} (c : CalX X.prog X.w X.K X.mg X.base k x sp) (hr : Room l X.A) (hk : k ≤ l) (hg : Gl X x) (tk : Takes X W) (ha : PA X (e :: es) t)
    (hdb : (x == ("__debug__" : Str)) = false := by decide) (he : starEach (e :: es) X.env = (false, eval e X.env) :: starEach es X.env := by rfl) (hpl : (backTo pos (starEach es X.env)).any (·.1) = false := by rfl) :
    PE X (.Call (.Name x p) (e :: es) [] pos) (tCallS sp (WE W) t) := by
  obtain ⟨f, fd, ps, F, hm, kp, b⟩ := c.ex
  exact pe_callS F (hr.mono hk) hg hm kp b (fun σ => passAt tk σ) ha hdb he hpl
theorem calX_of {P : Program} {w : World} {K : PySem.W.Frag} {mg : Str → Option Value} {base : Heap} {k : Nat} {x : Str} {st : Stmt} {N ps : List Str} {sp : Sp} (D : Def K mg x st) (S : FnScope N ps (defScope st))
    (hb : ∀ (kV doc pm : Value) (an : Option Addr) (cdv ct : Value) (us : List Value), us.length = ps.length → bindArgs (PySem.W.fnOf x x (defArgs st) (defBody st) (defScope st) .none kV doc pm an cdv ct) ⟨us, []⟩ = pure (ps.zip us))
    (len : ∀ vs H Q E, sp vs H Q E → vs.length = ps.length)
    (hbody : ∀ (f : Addr) (cdv : Value) (A : Around) (outer : List Env) (s : Shared) (H : Hp) (vs : List V) (Q : VK) (E : XK), Room k (A.deeper (envOfC x (defScope st) s.heap.objs.size f cdv)) → sp vs H Q E →
      ∃ t, PSs (cxOf (L2.CX P w) P w K mg base N x (defScope st) f cdv A outer s H E) (defBody st) t ∧ t { nx := fun _ H' => Q .non H', rt := Q } (start N vs) H) : CalX P w K mg base (k + 1) x sp := by
  obtain ⟨f, fd, F, hm⟩ := D.ex
  exact ⟨f, fd, ps, F.okX S len (fun cdv A outer s H vs Q E hr h => hbody f cdv A outer s H vs Q E hr h), hm, F.kp, F.binds hb⟩
section
variable {X : Cx} {a : Addr} {oe : Obj} {cls : Value} {d : Option Addr} {pn : List (Addr × Obj)}
theorem inst_of {pins : List (Addr × Obj)} {σ : L2.St} {H1 : Hp} {s1 : Shared} {C : Addr} (I1 : Inv (X.suite a ((a, oe) :: pn)) pins σ H1 s1) (hz : Zc (.ref C) d oe) (hf : ∃ vs, oe.data = .fields vs) (hd : ∀ dd, d = some dd → ∃ fs, H1 dd = some (.xd fs)) :
    ∃ od, PySem.W.InstAt s1.heap a oe C od := by
  obtain ⟨ha, _⟩ := I1.pin (a, oe) (List.mem_append_left _ List.mem_cons_self)
  obtain ⟨vs, hdt⟩ := hf
  have hn : PySem.W.notCls oe = true := by unfold PySem.W.notCls; rw [hdt] <;> rfl
  cases d with
  | none => exact ⟨none, ha, hz.1, hn, by rw [hz.2]; trivial⟩
  | some dd =>
    obtain ⟨fs, ed⟩ := hd dd rfl
    have hx : ObjOk X.prog X.w H1 s1.heap dd (.xd fs) := I1.hok dd _ ed
    obtain ⟨mA, hns, _⟩ := hx
    obtain ⟨od, ho, _⟩ := lookIn_ns hns
    exact ⟨some od, ha, hz.1, hn, by rw [hz.2]; exact ho⟩
/-- isinstance(e, C), e the error that the suite holds -/
def rIsX (K : PySem.W.Frag) (a : Addr) (cls : Value) (d : Option Addr) : List V → Hp → VK → Prop := fun xs H Q =>
  ∃ (D : Addr) (c : V) (cv : Value) (b : Bool), cls = .ref D ∧ Cl K D ∧ xs = [.ref a, c] ∧ (∀ u, RelV c u → u = cv) ∧ PySem.W.kitOne K (.ref D) cv = some b ∧ (∀ dd, d = some dd → ∃ fs, H dd = some (.xd fs)) ∧ Q (.bl b) H
theorem call_isX (hz : Zc cls d oe) (hf : ∃ vs, oe.data = .fields vs) : CallR (X.suite a ((a, oe) :: pn)) (.builtin "isinstance") (rIsX X.K a cls d) := by
  intro pins s σ H xs us Q I rv h
  obtain ⟨D, c, cv, b, rfl, T, rfl, hc, hk, hd, q⟩ := h
  cases rv with
  | cons r1 t =>
    cases t with
    | cons r2 t =>
      cases t
      rename_i u1 u2
      obtain rfl : u1 = .ref a := r1
      obtain rfl := hc _ r2
      obtain ⟨od, J⟩ := inst_of I hz hf hd
      obtain ⟨nm, q', N, bs, bm, sn, sub, ab, col, dd, k0, kk1, kk2, kk3, k5, hC, hbm⟩ := T.cls
      have hcl : (PySem.W.clsIn X.K D).isSome = true := by unfold PySem.W.clsIn; rw [hC] <;> rfl
      exact PySem.W.kia_one (PySem.W.kitx_exc hcl T.ga T.gg T.exC T.ha T.hn T.ht T.hm) I.kIn J hk (by intro e; cases e) fun tk => ⟨.bl b, H, I.tok tk, rfl, q⟩
/-- e.f, e the error that the suite holds -/
def tXe (K : PySem.W.Frag) (a : Addr) (cls : Value) (d : Option Addr) (f : Str) (te : TE) : TE := fun σ H Q => te σ H fun x H1 => ∃ (C dd : Addr) (fs : List (Str × V)) (v : V), x = .ref a ∧ cls = .ref C ∧ Cl K C ∧ PySem.W.findIn K (.ref C) f = some none ∧ d = some dd ∧ H1 dd = some (.xd fs) ∧ List.lookup f fs = some v ∧ Q v H1
theorem pe_xe {e : Expr} {te : TE} {pos : Pos} {f : Str} (hz : Zc cls d oe) (hf : ∃ vs, oe.data = .fields vs) (he : PE (X.suite a ((a, oe) :: pn)) e te)
    (hb : attributeBase e f X.env (eval e X.env) = eval e X.env := by rfl) :
    PE (X.suite a ((a, oe) :: pn)) (.Attribute e f pos) (tXe X.K a cls d f te) := by
  refine ⟨fun pins s σ H Q I h => ?_⟩
  refine attr_of hb (thn (he.run pins s σ H _ I h) fun u s1 hh => ?_)
  obtain ⟨x, H1, I1, rx, C, dd, fs, v, ex, ec, T, nf, ed, ea, lk, q⟩ := hh
  subst ex
  obtain rfl : u = Value.ref a := rx
  subst ec
  subst ed
  obtain ⟨ha, _⟩ := I1.pin (a, oe) (List.mem_append_left _ List.mem_cons_self)
  obtain ⟨vs, hd⟩ := hf
  have hx : ObjOk X.prog X.w H1 s1.heap dd (.xd fs) := I1.hok dd _ ea
  obtain ⟨mA, hns, hr⟩ := hx
  obtain ⟨od, ho, hl⟩ := lookIn_ns hns
  obtain ⟨u, hu, ru⟩ := RelO.some_of (v := v) (o := mA f) (by rw [← lk]; exact hr f)
  have J : PySem.W.InstAt s1.heap a oe C (some od) := ⟨ha, hz.1, by unfold PySem.W.notCls; rw [hd] <;> rfl, by rw [hz.2]; exact ho⟩
  exact HandSPX.exc_get I1.kIn J T.ga T.gg T.exC (PySem.W.findObj_own T.hdC nf rfl (by rw [hl, hu])) (handed_of ru) ⟨v, H1, I1.tok _, ru, q⟩
end
end Mm
namespace Mm
open PySem
/-- a def of a class's text -/
def inCls (s : Stmt) (j : Nat) : Stmt := match s with
  | .ClassDef _ _ _ body _ _ _ _ _ _ _ => body.getD j (.Pass ⟨0, 0, 0, 0⟩)
  | _ => .Pass ⟨0, 0, 0, 0⟩
end Mm
namespace Mm
open PySem PySem.W PySem.HandSPX
abbrev VTl : List Value := [.type "ValueError", .type "Exception", .type "BaseException", .type "object"]
section
variable {K : Frag} {nm q nm2 q2 : Str} {C D N N2 : Addr} {bs bs2 sub sub2 : List Value} {h h2 ab ab2 : Bool} {sn sn2 : List Str} {col col2 : Option Bool} {dd dd2 : Option Addr} {a0 a1 a2 a3 a5 b0 b1 b2 b3 b5 : Option Value} {n1 n2 : String} {v : Value}
theorem up_of (xC : K.lookup C = some (excClassObj nm q C N bs (.ref D :: VTl) h sn sub ab col dd a0 a1 a2 a3 a5 n1)) (xD : K.lookup D = some (excClassObj nm2 q2 D N2 bs2 VTl h2 sn2 sub2 ab2 col2 dd2 b0 b1 b2 b3 b5 n2))
    (i : findIn K (.ref D) "__init__" = some (some v)) : ks_superIn K C C "__init__" = some (some v) := by
  have e : findIn K (.ref D) "__init__" = alongIn K "__init__" (.ref D :: VTl) := by
    show (match List.lookup D K with | some ⟨_, _, .cls cd, _⟩ => alongIn K "__init__" cd.mro | _ => none) = _
    rw [xD] <;> rfl
  have z : (clsIn K C).bind (fun cd => alongIn K "__init__" (List.drop 1 (List.dropWhile (fun x => x != Value.ref C) cd.mro))) = alongIn K "__init__" (List.drop 1 (List.dropWhile (fun x => x != Value.ref C) (.ref C :: .ref D :: VTl))) := by
    unfold clsIn
    rw [xC] <;> rfl
  show (clsIn K C).bind (fun cd => alongIn K "__init__" (List.drop 1 (List.dropWhile (fun x => x != Value.ref C) cd.mro))) = _
  have w : List.drop 1 (List.dropWhile (fun x => x != Value.ref C) (.ref C :: .ref D :: VTl)) = .ref D :: VTl := by
    rw [List.dropWhile_cons, if_neg (by simp)]
    rfl
  rw [z, w, ← e]
  exact i
theorem nx_of (xC : K.lookup C = some (excClassObj nm q C N bs (.ref D :: VTl) h sn sub ab col dd a0 a1 a2 a3 a5 "ValueError.__new__")) : excInitIn K C VTl "ValueError.__new__" = true := by
  unfold excInitIn
  rw [xC]
  show (((C == C) && ("ValueError.__new__" == "ValueError.__new__")) && !false && excTail VTl (.ref D :: VTl)) = true
  rw [show (C == C) = true by simp]
  rfl
end
end Mm

namespace Mm
open PySem PySem.Spec PyProof.Rows L2 Evl MmE
/-! ### what a call tells: data, or an error of a class with data in its fields -/
abbrev Out := PyData ⊕ (Addr × List (Str × PyData))
def ErrAt (K : PySem.W.Frag) (H : Hp) (dd : Option Addr) (fs : List (Str × PyData)) : Prop :=
  (fs = [] ∧ dd = none) ∨ (fs ≠ [] ∧ ∃ a vs, dd = some a ∧ H a = some (.xd ((fs.map (·.1)).zip vs).reverse) ∧ DaAll K H vs (fs.map (·.2)))
def OutK (K : PySem.W.Frag) (H : Hp) (Q : VK) (E : XK) : Out → Prop
  | .inl d => ∀ v H2, Ex H H2 → Da K H2 v d → Q v H2
  | .inr e => ∀ dd H2, Ex H H2 → ErrAt K H2 dd e.2 → E (.ref e.1) dd H2
def SpX (K : PySem.W.Frag) (R : List PyData → Out → Prop) : Sp := fun vs H Q E => ∃ ds o, DaAll K H vs ds ∧ R ds o ∧ OutK K H Q E o
section
variable {K : PySem.W.Frag} {σ : L2.St} {H : Hp} {tr : TA} {D : Ends} {W : WX} {C : Addr} {ds : List PyData}
theorem zip_two' : ∀ (ns : List Str) (ds : List PyData), ds.length = ns.length → (ns.zip ds).map (·.1) = ns ∧ (ns.zip ds).map (·.2) = ds
  | [], [], _ => ⟨rfl, rfl⟩
  | n :: r, d :: q, h => by
    obtain ⟨a, b⟩ := zip_two' r q (Nat.succ.inj h)
    rw [List.zip_cons_cons, List.map_cons, List.map_cons, a, b]
    exact ⟨rfl, rfl⟩
theorem sd_raise {ns : List Str} (h : EvDs K tr σ H ds) (hn : ds.length = ns.length) (k : ∀ dd H2, Ex H H2 → ErrAt K H2 dd (ns.zip ds) → W (.ref C) dd σ H2) :
    (fun (_ : Ends) σ H => tMkE C ns tr σ H fun cls d H' => W cls d σ H') D σ H := by
  obtain ⟨z1, z2⟩ := zip_two' ns ds hn
  refine h H (Ex.refl H) _ fun xs H2 e dxs => ⟨by rw [dps_len dxs]; exact hn, fun ne => ?_, fun ne d hd => ?_⟩
  · subst ne
    exact k none H2 e (.inl ⟨rfl, rfl⟩)
  · refine k (some d) _ (e.trans (Ex.new hd)) (.inr ⟨?_, d, xs, rfl, ?_, ?_⟩)
    · intro z
      rw [z] at z1
      exact ne z1.symm
    · rw [upd_same, z1]
    · rw [z2]
      exact dpsm (Ex.new hd) dxs
theorem sd_raise0 (k : ∀ dd H2, Ex H H2 → ErrAt K H2 dd [] → W (.ref C) dd σ H2) : (fun (_ : Ends) σ H => (fun σ H (Q : XK) => Q (.ref C) none H) σ H fun cls d H' => W cls d σ H') D σ H :=
  k none H (Ex.refl H) (.inl ⟨rfl, rfl⟩)
/-- a call within a try: what comes behind it, and what the suite finds -/
theorem ed_callX {R : List PyData → Out → Prop} {o : Out} {Q : VK} (h : EvDs K tr σ H ds) (hR : R ds o) (k : OutK K H Q (WE W σ) o) : tCallS (SpX K R) (WE W) tr σ H Q :=
  h H (Ex.refl H) _ fun xs H2 e dxs => ⟨ds, o, dxs, hR, by
    cases o with
    | inl d => exact fun v H3 e3 dv => k v H3 (e.trans e3) dv
    | inr x => exact fun dd H3 e3 he => k dd H3 (e.trans e3) he⟩
theorem err_ex {dd : Option Addr} {fs : List (Str × PyData)} {H' : Hp} (e : Ex H H') (h : ErrAt K H dd fs) : ErrAt K H' dd fs := by
  rcases h with h | ⟨ne, a, vs, rfl, ha, hd⟩
  · exact .inl h
  · exact .inr ⟨ne, a, vs, rfl, e _ _ ha, dpsm e hd⟩
theorem err_xd {dd : Option Addr} {fs : List (Str × PyData)} (h : ErrAt K H dd fs) : ∀ d, dd = some d → ∃ xs, H d = some (.xd xs) := fun d hd => by
  rcases h with ⟨_, z⟩ | ⟨_, a, vs, rfl, ha, _⟩
  · rw [z] at hd; cases hd
  · cases hd; exact ⟨_, ha⟩
variable {a : Addr} {dd : Option Addr} {fs : List (Str × PyData)} {i : Nat}
theorem ed_isC {C' : Addr} (hv : σ[i]? = some (some (.ref a))) (T : Cl K C) (he : ErrAt K H dd fs) : EvD K (tCB (rIsX K a (.ref C) dd) (tCons (tVar i) (tCons (tC (.ref C)) tNil))) σ H (.bool true) := fun H1 e Q q =>
  ⟨_, hv, C, .ref C, .ref C, true, rfl, T, rfl, fun u hu => hu, by unfold PySem.W.kitOne; rw [if_pos (by simp)], err_xd (err_ex e he), q _ H1 (Ex.refl H1) (.bl _)⟩
theorem ed_isV (hv : σ[i]? = some (some (.ref a))) (T : Cl K C) (he : ErrAt K H dd fs) : EvD K (tCB (rIsX K a (.ref C) dd) (tCons (tVar i) (tCons (tC (.ty "ValueError")) tNil))) σ H (.bool true) := fun H1 e Q q =>
  ⟨_, hv, C, .ty "ValueError", .type "ValueError", true, rfl, T, rfl, fun u hu => hu, by
    have : PySem.W.kitMeta "ValueError" = true := by decide +kernel
    show (if ((Value.ref C : Value) == .type "ValueError") = true then some true else PySem.W.kitCls K (.ref C) (.type "ValueError")) = some true
    rw [if_neg (by intro h; exact absurd (eq_of_beq h) (by intro h; cases h))]
    show (if PySem.W.kitMeta "ValueError" = true then PySem.W.subIn K (.ref C) (.type "ValueError") else none) = some true
    rw [if_pos this]
    exact T.veC, err_xd (err_ex e he), q _ H1 (Ex.refl H1) (.bl _)⟩
theorem look_zip : ∀ {ns : List Str} {vs : List V} {ds : List PyData} {H : Hp}, DaAll K H vs ds → ns.Nodup → ∀ {j : Nat} {f : Str} {d : PyData}, ns[j]? = some f → ds[j]? = some d → ds.length = ns.length → ∃ v, List.lookup f (ns.zip vs).reverse = some v ∧ Da K H v d := by
  intro ns
  induction ns with
  | nil => intro vs ds H h nd j f d hj; simp at hj
  | cons n r ih =>
    intro vs ds H h nd j f d hj hd hl
    rw [List.nodup_cons] at nd
    cases h with
    | nil => cases hl
    | cons h1 t =>
      rename_i v vs' d0 ds'
      rw [List.zip_cons_cons, List.reverse_cons, List.lookup_append]
      cases j with
      | zero =>
        simp only [List.getElem?_cons_zero, Option.some.injEq] at hj hd
        subst hj; subst hd
        have z : List.lookup n (r.zip vs').reverse = none := by
          cases q : List.lookup n (r.zip vs').reverse with
          | none => rfl
          | some u =>
            have : (n, u) ∈ (r.zip vs').reverse := by
              clear ih hl
              generalize (r.zip vs').reverse = l at q
              induction l with
              | nil => cases q
              | cons p q' ih2 =>
                obtain ⟨p1, p2⟩ := p
                by_cases e : n = p1
                · subst e
                  have : List.lookup n ((n, p2) :: q') = some p2 := by simp [List.lookup]
                  rw [this] at q; cases q
                  exact List.mem_cons_self
                · have e' : (n == p1) = false := by simpa using e
                  have : List.lookup n ((p1, p2) :: q') = List.lookup n q' := by simp [List.lookup, e']
                  rw [this] at q
                  exact List.mem_cons_of_mem _ (ih2 q)
            rw [List.mem_reverse] at this
            exact absurd (List.of_mem_zip this).1 nd.1
        rw [z]
        exact ⟨v, by simp [List.lookup], h1⟩
      | succ j =>
        obtain ⟨u, hu, du⟩ := ih t nd.2 (j := j) (by simpa using hj) (by simpa using hd) (Nat.succ.inj hl)
        rw [hu]
        exact ⟨u, rfl, du⟩
theorem ed_xe {ns : List Str} {j : Nat} {f : Str} {d : PyData} (hv : σ[i]? = some (some (.ref a))) (T : Cl K C) (nf : PySem.W.findIn K (.ref C) f = some none) (he : ErrAt K H dd (ns.zip ds)) (nd : ns.Nodup) (hl : ds.length = ns.length) (hj : ns[j]? = some f) (hd : ds[j]? = some d) :
    EvD K (tXe K a (.ref C) dd f (tVar i)) σ H d := fun H1 e Q q => by
  obtain ⟨z1, z2⟩ := zip_two' ns ds hl
  rcases he with ⟨z, _⟩ | ⟨_, b, vs, rfl, hb, dvs⟩
  · rw [z] at z1
    rw [← z1] at hj
    simp at hj
  · rw [z1] at hb
    rw [z2] at dvs
    obtain ⟨v, lv, dv⟩ := look_zip dvs nd hj hd hl
    exact ⟨_, hv, C, b, _, v, rfl, rfl, T, nf, rfl, e _ _ hb, lv, q v H1 (Ex.refl H1) (dpm e dv)⟩
end
/-! ### even edges -/
def grI (k o m : Int) : Bool := decide ((k + 1) * o / m > k * o / m)
def evC (lc : Nat) (o m : Int) (k : Nat) : Nat := if grI k o m = true then lc else 66
def evL (lc : Nat) (o m : Int) : List Nat := (List.range m.toNat).map (evC lc o m)
def evNo (d a : Int) : Bool := decide ((d + a) % 2 = 1) || decide (d + a = 0)
def evLc (d a : Int) : Nat := if decide (d > a) = true then 78 else 84
def absI (x : Int) : Int := if x < 0 then -x else x
def evT (d a : Int) : List Nat := evL (evLc d a) (absI (d - a) / 2) ((d + a) / 2)
def evD (d a : Int) : PyData := if evNo d a = true then .none else .str (mkS (evT d a))
def RGrow (ds : List PyData) (d : PyData) : Prop := ∃ k o m : Int, (0 ≤ k ∧ k ≤ 1000) ∧ (0 ≤ o ∧ o ≤ 1000) ∧ (1 ≤ m ∧ m ≤ 1000) ∧ ds = [.int k, .int o, .int m] ∧ d = .bool (grI k o m)
def REven (C : Addr) (ds : List PyData) (o : Out) : Prop := ∃ d a : Int, (0 ≤ d ∧ d ≤ 200) ∧ (0 ≤ a ∧ a ≤ 200) ∧ ds = [.int d, .int a] ∧ o = if evNo d a = true then .inr (C, []) else .inl (.str (mkS (evT d a)))
def REvD (ds : List PyData) (d : PyData) : Prop := ∃ x a : Int, (0 ≤ x ∧ x ≤ 200) ∧ (0 ≤ a ∧ a ≤ 200) ∧ ds = [.int x, .int a] ∧ d = evD x a
theorem ev_len (d a : Int) : (evT d a).length = ((d + a) / 2).toNat := by unfold evT evL; rw [List.length_map, List.length_range]
theorem ev_codes {d a : Int} {c : Nat} (h : c ∈ evT d a) : isL c := by
  obtain ⟨k, _, rfl⟩ := List.mem_map.mp h
  unfold evC evLc isL
  split
  · split <;> simp
  · simp
theorem ev_tr {d a : Int} (hd : 0 ≤ d ∧ d ≤ 200) (ha : 0 ≤ a ∧ a ≤ 200) : TameR 40 200000 (evD d a) := by
  unfold evD
  split
  · exact (tame_none (n := 0) (w := 0)).r.mono (by decide) (by decide)
  · refine (tr_str fun c hc => isL_small (ev_codes (by rw [tl_mk] at hc; exact hc))).mono (by decide) ?_
    rw [mk_len, ev_len]
    omega
end Mm

namespace Mm
open PySem PySem.Spec PyProof.Rows L2 Evl MmE
open TL (tl tl_append joinL tl_join join_eq ext_tl)
/-! ### reading any text -/
def wid (rs : List (List Nat)) (pre : List Nat) : Nat := match rs with
  | [] => pre.length
  | r :: _ => r.length
def canC (c : Nat) (rs : List (List Nat)) (pre : List Nat) : Bool :=
  if rs.length = 8 then false else if c = 10 then decide (0 < pre.length) && decide (pre.length = wid rs pre)
  else decide (pre.length < if rs.length = 0 then 8 else wid rs pre) && (decide (c = 46) || decide (c = whC (rs.length : Int) (pre.length : Int)))
def outC : List Nat → List (List Nat) → List Nat → (Nat × Nat) ⊕ List (List Nat)
  | [], rs, pre => if rs.length = 0 ∨ 0 < pre.length then .inl (rs.length, pre.length) else .inr rs
  | c :: r, rs, pre => if canC c rs pre = true then (if c = 10 then outC r (rs ++ [pre]) [] else outC r rs (pre ++ [c])) else .inl (rs.length, pre.length)
structure Good (rs : List (List Nat)) (pre : List Nat) : Prop where
  r8 : rs.length ≤ 8
  p8 : pre.length ≤ 8
  w8 : wid rs pre ≤ 8
  all : ∀ r ∈ rs, r.length = wid rs pre
  pw : rs ≠ [] → pre.length ≤ wid rs pre ∧ 1 ≤ wid rs pre
theorem wid_app (rs : List (List Nat)) (pre q : List Nat) : wid (rs ++ [pre]) q = wid rs pre := by
  cases rs <;> rfl
theorem wid_ne {rs : List (List Nat)} {p q : List Nat} (h : rs ≠ []) : wid rs p = wid rs q := by
  cases rs with
  | nil => exact absurd rfl h
  | cons r t => rfl
theorem good_start : Good [] [] := by
  refine ⟨by decide, by decide, by decide, ?_, fun h => absurd rfl h⟩
  intro r h
  exact nomatch h
theorem good_line {rs : List (List Nat)} {pre : List Nat} (g : Good rs pre) (h : canC 10 rs pre = true) : Good (rs ++ [pre]) [] := by
  unfold canC at h
  by_cases c : rs.length = 8
  · rw [if_pos c] at h; cases h
  rw [if_neg c, if_pos rfl, Bool.and_eq_true] at h
  have h1 := of_decide_eq_true h.1
  have h2 := of_decide_eq_true h.2
  have r8 := g.r8
  refine ⟨by rw [List.length_append]; simp only [List.length_cons, List.length_nil]; omega, by simp, by rw [wid_app]; exact g.w8, fun r hr => ?_, fun _ => ?_⟩
  · rw [wid_app]
    rcases List.mem_append.mp hr with z | z
    · exact g.all r z
    · rw [List.mem_singleton.mp z]
      exact h2
  · rw [wid_app]
    exact ⟨by simp, by omega⟩
theorem good_sign {rs : List (List Nat)} {pre : List Nat} {c : Nat} (g : Good rs pre) (hc : c ≠ 10) (h : canC c rs pre = true) : Good rs (pre ++ [c]) := by
  unfold canC at h
  by_cases z : rs.length = 8
  · rw [if_pos z] at h; cases h
  rw [if_neg z, if_neg hc, Bool.and_eq_true] at h
  have h1 := of_decide_eq_true h.1
  have pl : (pre ++ [c]).length = pre.length + 1 := by simp
  by_cases e : rs = []
  · subst e
    have h1 : pre.length < 8 := h1
    refine ⟨g.r8, by omega, by show (pre ++ [c]).length ≤ 8; omega, ?_, fun h => absurd rfl h⟩
    intro r hr
    exact nomatch hr
  · have ln : rs.length ≠ 0 := fun q => e (List.eq_nil_of_length_eq_zero q)
    rw [if_neg ln] at h1
    have w := wid_ne (p := pre ++ [c]) (q := pre) e
    have w8 := g.w8
    exact ⟨g.r8, by omega, by omega, fun r hr => by rw [w]; exact g.all r hr, fun _ => by rw [w]; exact ⟨by omega, (g.pw e).2⟩⟩
theorem out_step {cs : List Nat} {i c : Nat} {rs : List (List Nat)} {pre : List Nat} {o : (Nat × Nat) ⊕ List (List Nat)} (h : o = outC (cs.drop i) rs pre) (hc : cs[i]? = some c) :
    o = if canC c rs pre = true then (if c = 10 then outC (cs.drop (i + 1)) (rs ++ [pre]) [] else outC (cs.drop (i + 1)) rs (pre ++ [c])) else .inl (rs.length, pre.length) := by
  have e : cs.drop i = c :: cs.drop (i + 1) := by
    obtain ⟨hl, rfl⟩ := List.getElem?_eq_some_iff.mp hc
    exact List.drop_eq_getElem_cons hl
  rw [h, e]
  rfl
theorem out_end {cs : List Nat} {rs : List (List Nat)} {pre : List Nat} {o : (Nat × Nat) ⊕ List (List Nat)} (h : o = outC (cs.drop cs.length) rs pre) : o = if rs.length = 0 ∨ 0 < pre.length then .inl (rs.length, pre.length) else .inr rs := by
  rw [h, List.drop_length]
  rfl
/-- the bars that lack, of the rows read -/
def dotsF (cs : List Nat) : List Int := ((List.range cs.length).filter fun k => decide (cs[k]?.getD 0 = 46)).map fun k : Nat => (k : Int)
def netR (rs : List (List Nat)) : PyData := .tuple [.tuple [.int (rs.length : Int), .int (wid rs [] : Int)], .tuple ((dotsF rs.flatten).map .int)]
def Asc (z : Str) : Prop := z.length ≤ 50000
theorem opD_inS {K : PySem.W.Frag} {x : Str} {ys : List Str} : OpD K (rIn K false) (.str x) (.tuple (ys.map .str)) (.bool (decide (x ∈ ys))) := fun H1 v w hv hw Q q => by
  cases hv
  obtain ⟨p, xs, rfl, ht, ha⟩ := dp_tupI hw
  rw [strs_of ha] at ht
  refine ⟨p, _, rfl, Or.inr ht, rfl, ?_, ?_⟩
  · rw [List.all_eq_true]
    intro v hv
    obtain ⟨y, _, rfl⟩ := List.mem_map.mp hv
    rfl
  · show Q (.bl (inV (.str x) (ys.map V.str))) H1
    rw [inV_str]
    exact q _ H1 (Ex.refl H1) (.bl _)
def RCanG (ds : List PyData) (d : PyData) : Prop := ∃ (c : Nat) (rs : List (List Nat)) (pre : List Nat), Good rs pre ∧ ds = [.str (sg c), .list (((rs ++ [pre]).map mkS).map .str)] ∧ d = .bool (canC c rs pre)
def badF (l s : Int) : List (Str × PyData) := [("line", .int l), ("sign", .int s)]
def readO (C : Addr) : PyData → Out
  | .str z => match outC (tl z) [] [] with
    | .inl p => .inr (C, badF p.1 p.2)
    | .inr rs => .inl (netR rs)
  | _ => .inr (C, badF (-1) (-1))
def readT : PyData → PyData
  | .str z => match outC (tl z) [] [] with
    | .inl p => .list [.str "text", .int p.1, .int p.2]
    | .inr rs => .list [.str "net", netR rs]
  | _ => .list [.str "text", .int (-1), .int (-1)]
def RReadX (C : Addr) (ds : List PyData) (o : Out) : Prop := ∃ d, (∀ z, d = .str z → Asc z) ∧ ds = [d] ∧ o = readO C d
def RReadT (ds : List PyData) (d : PyData) : Prop := ∃ x, (∀ z, x = .str z → Asc z) ∧ ds = [x] ∧ d = readT x
theorem out_good : ∀ (cs : List Nat) (rs : List (List Nat)) (pre : List Nat), Good rs pre → match outC cs rs pre with | .inl p => p.1 ≤ 8 ∧ p.2 ≤ 8 | .inr q => Good q [] ∧ q ≠ []
  | [], rs, pre, g => by
    unfold outC
    by_cases c : rs.length = 0 ∨ 0 < pre.length
    · rw [if_pos c]
      exact ⟨g.r8, g.p8⟩
    · rw [if_neg c]
      have e : pre = [] := List.eq_nil_of_length_eq_zero (by omega)
      subst e
      exact ⟨g, fun z => c (.inl (by rw [z]; rfl))⟩
  | c :: r, rs, pre, g => by
    unfold outC
    by_cases h : canC c rs pre = true
    · rw [if_pos h]
      by_cases e : c = 10
      · rw [if_pos e]
        subst e
        exact out_good r _ _ (good_line g h)
      · rw [if_neg e]
        exact out_good r _ _ (good_sign g e h)
    · rw [if_neg h]
      exact ⟨g.r8, g.p8⟩
theorem dots_bound {cs : List Nat} {x : Int} (h : x ∈ dotsF cs) : 0 ≤ x ∧ x < cs.length := by
  obtain ⟨k, hk, rfl⟩ := List.mem_map.mp h
  have := List.mem_range.mp (List.mem_filter.mp hk).1
  omega
theorem flat_len {rs : List (List Nat)} {b : Nat} (h : ∀ r ∈ rs, r.length = b) : rs.flatten.length = rs.length * b := len_grid h
/-- the places of the dots, row by row -/
def dotsP : List (List Nat) → Nat → List (Int × Int)
  | [], _ => []
  | r :: t, k => (((List.range r.length).filter fun c => decide (r[c]?.getD 0 = 46)).map fun c : Nat => ((k : Int), (c : Int))) ++ dotsP t (k + 1)
theorem dotsP_app : ∀ (a b : List (List Nat)) (k : Nat), dotsP (a ++ b) k = dotsP a k ++ dotsP b (k + a.length)
  | [], b, k => by simp [dotsP]
  | r :: t, b, k => by
    rw [List.cons_append, dotsP, dotsP, dotsP_app t b (k + 1), List.append_assoc, List.length_cons, show k + 1 + t.length = k + (t.length + 1) by omega]
theorem dotsF_app (a b : List Nat) : dotsF (a ++ b) = dotsF a ++ (dotsF b).map fun x => (a.length : Int) + x := by
  unfold dotsF
  rw [List.length_append, List.range_add, List.filter_append, List.map_append]
  congr 1
  · congr 1
    refine List.filter_congr fun k hk => ?_
    rw [List.getElem?_append_left (List.mem_range.mp hk)]
  · rw [List.filter_map, List.map_map, List.map_map]
    have e : (fun k => decide (((a ++ b)[k]?).getD 0 = 46)) ∘ (fun x => a.length + x) = fun k => decide ((b[k]?).getD 0 = 46) := by
      funext k
      show decide (((a ++ b)[a.length + k]?).getD 0 = 46) = _
      rw [List.getElem?_append_right (by omega), Nat.add_sub_cancel_left]
    rw [e]
    refine List.map_congr_left fun k _ => ?_
    show ((a.length + k : Nat) : Int) = (a.length : Int) + (k : Int)
    omega
theorem dots_eq : ∀ (rs : List (List Nat)) (b k : Nat), (∀ r ∈ rs, r.length = b) → (dotsP rs k).map (fun p => p.1 * (b : Int) + p.2) = (dotsF rs.flatten).map fun x => ((k * b : Nat) : Int) + x
  | [], b, k, _ => by simp [dotsP, dotsF]
  | r :: t, b, k, h => by
    have hr := h r List.mem_cons_self
    rw [dotsP, List.map_append, dots_eq t b (k + 1) (fun x hx => h x (List.mem_cons_of_mem _ hx)), List.flatten_cons, dotsF_app, List.map_append]
    congr 1
    · unfold dotsF
      rw [List.map_map, List.map_map]
      refine List.map_congr_left fun c _ => ?_
      show (k : Int) * (b : Int) + (c : Int) = ((k * b : Nat) : Int) + (c : Int)
      rw [Int.natCast_mul]
    · rw [List.map_map]
      refine List.map_congr_left fun x _ => ?_
      show (((k + 1) * b : Nat) : Int) + x = ((k * b : Nat) : Int) + ((r.length : Int) + x)
      rw [hr, Nat.add_mul, Nat.one_mul]
      omega
theorem dots_snoc (rs : List (List Nat)) (pre : List Nat) (c : Nat) : dotsP (rs ++ [pre ++ [c]]) 0 = dotsP (rs ++ [pre]) 0 ++ if c = 46 then [((rs.length : Int), (pre.length : Int))] else [] := by
  rw [dotsP_app, dotsP_app, List.append_assoc]
  congr 1
  have n1 : ∀ (q : List Nat) k, dotsP [q] k = ((List.range q.length).filter fun c => decide (q[c]?.getD 0 = 46)).map fun c : Nat => ((k : Int), (c : Int)) := fun q k => List.append_nil _
  rw [n1, n1, Nat.zero_add, List.length_append, List.length_cons, List.length_nil, Nat.zero_add, List.range_succ, List.filter_append, List.map_append]
  congr 1
  · congr 1
    refine List.filter_congr fun k hk => ?_
    rw [List.getElem?_append_left (List.mem_range.mp hk)]
  · by_cases e : c = 46
    · rw [if_pos e, List.filter_cons, if_pos (by rw [List.getElem?_append_right (Nat.le_refl _), Nat.sub_self]; simp [e])]
      rfl
    · rw [if_neg e, List.filter_cons, if_neg (by rw [List.getElem?_append_right (Nat.le_refl _), Nat.sub_self]; simp [e])]
      rfl
theorem dots_line (rs : List (List Nat)) (pre : List Nat) : dotsP (rs ++ [pre] ++ [[]]) 0 = dotsP (rs ++ [pre]) 0 := by
  rw [dotsP_app (rs ++ [pre])]
  simp [dotsP]
end Mm

namespace Mm
open PySem PySem.Spec PyProof.Rows L2 Evl MmE
open TL (tl tl_append joinL tl_join join_eq ext_tl)
section
variable {K : PySem.W.Frag} {σ : L2.St} {H : Hp} {tr : TA} {D : Ends} {z : TS} {a b c : PyData}
/-- a, b, c, d = None, 0, 0, [] -/
theorem qd_four {i j k m : Nat} (n : ∀ l H1, H l = none → Ex H H1 → H1 l = some (.lst []) → z D ((((σ.set i (some .non)).set j (some (.int 0))).set k (some (.int 0))).set m (some (.ref l))) H1) :
    tSeq (tAsg (tTup (tCons (tC .non) (tCons (tC (.int 0)) (tCons (tC (.int 0)) (tCons (tLst tNil) tNil))))) (gTup K 4 (gCons (gName i) (gCons (gName j) (gCons (gName k) (gCons (gName m) gNil)))))) z D σ H :=
  ⟨by rw [sizeLine_eq]; decide, fun p hp => ⟨by rw [sizeLine_eq]; show 4 ≤ 16777216; decide, fun t ht => ⟨t, _, rfl, SqT.of upd_same, rfl, _, _, rfl, _, _, rfl, _, _, rfl, _, _, rfl, rfl, n p _ hp ((Ex.new hp).trans (Ex.new ht)) (by rw [upd_ne (fun e => by rw [e, upd_same] at ht; cases ht)]; exact upd_same)⟩⟩⟩
theorem sd_un3 {i j k : Nat} (h : EvDs K tr σ H [a, b, c]) (n : ∀ x y w H1, Ex H H1 → Da K H1 x a → Da K H1 y b → Da K H1 w c → D.nx (((σ.set i (some x)).set j (some y)).set k (some w)) H1) :
    tAsg (tTup tr) (gTup K 3 (gCons (gName i) (gCons (gName j) (gCons (gName k) gNil)))) D σ H :=
  h H (Ex.refl H) _ fun xs H1 e dxs => by
    cases dxs with
    | cons h1 t =>
      cases t with
      | cons h2 t =>
        cases t with
        | cons h3 t =>
          cases t
          exact ⟨by rw [sizeLine_eq]; show 3 ≤ 16777216; decide, fun t ht => ⟨t, _, rfl, SqT.of upd_same, rfl, _, _, rfl, _, _, rfl, _, _, rfl, rfl, n _ _ _ _ (e.trans (Ex.new ht)) (dpm (Ex.new ht) h1) (dpm (Ex.new ht) h2) (dpm (Ex.new ht) h3)⟩⟩
end
/-- the place that a pair tells -/
def pto : PyData → Pt
  | .tuple [.int a, .int b] => (a, b)
  | _ => (0, 0)
def wdV (rs : List (List Nat)) : V := if rs = [] then .non else .int (wid rs [] : Int)
def wdD (rs : List (List Nat)) : PyData := if rs = [] then .none else .int (wid rs [] : Int)
theorem wd_da {K : PySem.W.Frag} {H : Hp} (rs : List (List Nat)) : Da K H (wdV rs) (wdD rs) := by
  unfold wdV wdD
  split
  · exact .non
  · exact .int _
theorem net_tr {rs : List (List Nat)} (g : Good rs []) : TameR 38 199000 (netR rs) := by
  have gl := flat_len g.all
  have g64 : rs.length * wid rs [] ≤ 8 * 8 := Nat.mul_le_mul g.r8 g.w8
  have dl : (dotsF rs.flatten).length ≤ 64 := by
    unfold dotsF
    rw [List.length_map]
    have := List.length_filter_le (fun k => decide ((rs.flatten[k]?).getD 0 = 46)) (List.range rs.flatten.length)
    rw [List.length_range] at this
    omega
  have ti : ∀ x : Int, x.natAbs < 2 ^ 24 → TameR 1 24 (.int x) := fun x hx => (tame_int hx (Nat.le_refl _)).r
  have ti0 : ∀ x : Int, x.natAbs < 2 ^ 24 → TameR 0 24 (.int x) := fun x hx => (tame_int hx (Nat.le_refl _)).r
  have r8 := g.r8
  have w8 := g.w8
  have t1 := tr_tuple (trl_cons (ti0 (rs.length : Int) (by omega)) (trl_cons (ti0 (wid rs [] : Int) (by omega)) (trl_nil (n := 0) (w := 0))))
  have t2 := tr_tuple (trl_all (n := 0) (a := 24) (ds := (dotsF rs.flatten).map .int) fun d hd => by
    obtain ⟨x, hx, rfl⟩ := List.mem_map.mp hd
    have := dots_bound hx
    exact ti0 x (by omega))
  refine (tr_tuple (trl_cons t1 (trl_cons t2 (trl_nil (n := 1) (w := 0))))).mono (by decide) ?_
  rw [List.length_map]
  omega
theorem readT_tr {x : PyData} (h : ∀ z, x = .str z → Asc z) : TameR 40 200000 (readT x) := by
  have ti0 : ∀ x : Int, x.natAbs < 2 ^ 24 → TameR 0 24 (.int x) := fun x hx => (tame_int hx (Nat.le_refl _)).r
  have tw : TameR 0 4 (.str (Str.ofString "text")) := tr_str (x := Str.ofString "text") (by decide +kernel)
  have err : ∀ l s : Int, l.natAbs < 2 ^ 24 → s.natAbs < 2 ^ 24 → TameR 40 200000 (.list [.str "text", .int l, .int s]) := fun l s hl hs =>
    (tr_list (trl_cons tw (trl_cons (ti0 l hl) (trl_cons (ti0 s hs) (trl_nil (n := 0) (w := 0)))))).mono (by decide) (by decide)
  cases x with
  | str z =>
    have g := out_good (tl z) [] [] good_start
    have un : readT (.str z) = match outC (tl z) [] [] with | .inl p => .list [.str "text", .int p.1, .int p.2] | .inr rs => .list [.str "net", netR rs] := rfl
    rw [un]
    cases e : outC (tl z) [] [] with
    | inl p =>
      rw [e] at g
      exact err (p.1 : Int) (p.2 : Int) (by have := g.1; omega) (by have := g.2; omega)
    | inr rs =>
      rw [e] at g
      have tn : TameR 38 3 (.str (Str.ofString "net")) := (tr_str (x := Str.ofString "net") (by decide +kernel)).mono (by decide) (Nat.le_refl _)
      exact (tr_list (trl_cons tn (trl_cons (net_tr g.1) (trl_nil (n := 38) (w := 0))))).mono (by decide) (by decide)
  | _ => exact err _ _ (by decide) (by decide)
end Mm

set_option Elab.async false
set_option linter.all false
set_option maxRecDepth 100000
set_option maxHeartbeats 4000000
namespace Mm
open PySem PySem.Spec PyProof.Rows L2 Evl
open TL (tl tl_append joinL tl_join join_eq ext_tl)
/-! ### f(k = v, ..): all by name -/
structure CalK (P : Program) (w : World) (K : PySem.W.Frag) (mg : Str → Option Value) (base : Heap) (k : Nat) (x : Str) (sp : Sp) (ks : List Str) (g : List Value → List Value → List Value) (gV : List V → List V → List V) : Prop where
  ex : ∃ (f : Addr) (fd : FuncData) (ps : List Str), FnOk P w K mg base CX0 k f fd ps sp ∧ mg x = some (.ref f) ∧ PySem.W.keepIn K (.ref f) = true ∧ KBinds K fd ps ks g gV
theorem pe_cK {X : Cx} {k l : Nat} {x : Str} {sp : Sp} {p pos : Pos} {kws : List Keyword} {tk : TA} {ks : List Str} {g : List Value → List Value → List Value} {gV : List V → List V → List V} (c : CalK X.prog X.w X.K X.mg X.base k x sp ks g gV) (hr : Room l X.A) (hk : k ≤ l) (hg : Gl X x) (hkw : PK X kws tk)
    (hall : (backToKw pos (keywordEach kws X.env)).all (·.1.isSome) = true := by rfl) (hks : (backToKw pos (keywordEach kws X.env)).filterMap (·.1) = ks := by rfl) (hdb : (x == ("__debug__" : Str)) = false := by decide)
    (hpl : ((backTo pos (starEach [] X.env)).any (·.1) || (backToKw pos (keywordEach kws X.env)).any (·.1.isNone)) = false := by rfl) :
    PE X (.Call (.Name x p) [] kws pos) (tCallK sp gV E0 tNil tk) := by
  obtain ⟨f, fd, ps, F, hm, kp, b⟩ := c.ex
  refine ⟨fun pins s σ H Q I h => ?_⟩
  refine wpAny_Call_Name_kw (ld_glob I hg hm ?_ hdb)
  refine PySem.W.callWith_KW0 (h₀ := X.base) I.ok.mod.kin kp hall ?_ hpl
  refine thn (hkw.run pos pins s σ H _ I h) fun ws s2 ⟨zs, H2, I2, rz, q2⟩ => ⟨I2.kIn, ?_⟩
  rw [hks]
  exact run_fnk (us := []) (vs := []) F (hr.mono hk) b pass0 I2 .nil rz q2
theorem calK_of {P : Program} {w : World} {K : PySem.W.Frag} {mg : Str → Option Value} {base : Heap} {k : Nat} {x : Str} {st : Stmt} {N ps : List Str} {sp : Sp} {ks : List Str} {g : List Value → List Value → List Value} {gV : List V → List V → List V} (D : Def K mg x st) (S : FnScope N ps (defScope st))
    (hb : ∀ (kV doc pm : Value) (an : Option Addr) (cdv ct : Value) (us : List Value), us.length = ps.length → bindArgs (PySem.W.fnOf x x (defArgs st) (defBody st) (defScope st) .none kV doc pm an cdv ct) ⟨us, []⟩ = pure (ps.zip us))
    (hbk : ∀ (kV doc pm : Value) (an : Option Addr) (cdv ct : Value), KBinds K (PySem.W.fnOf x x (defArgs st) (defBody st) (defScope st) .none kV doc pm an cdv ct) ps ks g gV)
    (len : ∀ vs H Q E, sp vs H Q E → vs.length = ps.length)
    (hbody : ∀ (f : Addr) (cdv : Value) (A : Around) (outer : List Env) (s : Shared) (H : Hp) (vs : List V) (Q : VK) (E : XK), Room k (A.deeper (envOfC x (defScope st) s.heap.objs.size f cdv)) → sp vs H Q E →
      ∃ t, PSs (cxOf CX0 P w K mg base N x (defScope st) f cdv A outer s H E).nox (defBody st) t ∧ t { nx := fun _ H' => Q .non H', rt := Q } (start N vs) H) : Cal P w K mg base (k + 1) x sp ∧ CalK P w K mg base (k + 1) x sp ks g gV := by
  obtain ⟨f, fd, F, hm⟩ := D.ex
  have ok := F.ok S len (fun cdv A outer s H vs Q E hr h => hbody f cdv A outer s H vs Q E hr h)
  refine ⟨⟨f, fd, ps, ok, hm, F.kp, F.binds hb⟩, ⟨f, fd, ps, ok, hm, F.kp, ?_⟩⟩
  obtain ⟨oc, od, kV, doc, pm, an, cdv, ct, osl, rfl, lk, hcd⟩ := F.ex
  exact hbk _ _ _ _ _ _
theorem ed_callK {K : PySem.W.Frag} {H : Hp} {σ : L2.St} {tk : TA} {ds : List PyData} {d : PyData} {R : List PyData → PyData → Prop} {E : XK} (h : EvDs K tk σ H ds) (hR : R ds d) : EvD K (tCallK (SpD K R) (fun vs zs => vs ++ zs) E tNil tk) σ H d := fun H1 e Q q =>
  h H1 e _ fun xs H2 e2 dxs => ⟨ds, d, dxs, hR, fun v H3 e3 dv => q v H3 (e2.trans e3) dv⟩
/-! ### a dict of the module with text keys -/
theorem ixDK {X : Cx} {K : PySem.W.Frag} {w : World} (h : X.K = K) (hw : X.w = w) : IxR X (rIxD K w) := by
  subst h hw
  exact ix_kdict
theorem ed_ixD {K : PySem.W.Frag} {w : World} {H : Hp} {σ : L2.St} {te : TE} {z : Str} {t : Addr} {v : V} {d : PyData} (h : EvD K te σ H (.str z)) (kd : KDct K w t z v) (dv : ∀ H, Da K H v d) : EvD K (tOp (rIxD K w) (tC (.ref t)) te) σ H d := fun H1 e Q q =>
  h H1 e _ fun u H2 e2 du => by
    cases du
    exact ⟨t, z, v, rfl, rfl, kd, q v H2 e2 (dv H2)⟩
theorem kdct_of {K : PySem.W.Frag} {w : World} {t : Addr} {ks : List Str} {z : Str} {a : Addr} (h : He.dicW K t = some (He.keysIn w.params ks)) (n : PySem.W.nsIn K t z = some (some (.ref a))) : KDct K w t z (.ref a) := by
  obtain ⟨es, m, D⟩ := He.dicW_ok h
  exact ⟨es, m, _, D.at_, D.lit, n, rfl⟩
/-! ### int(truth) -/
theorem cd_intB {K : PySem.W.Frag} {b : Bool} : CallD K fInt [.bool b] (.int (if b = true then 1 else 0)) := fun H1 xs hx Q q => by
  cases hx with
  | cons h t =>
    cases t
    obtain rfl := dp_boolI h
    exact Or.inr ⟨b, rfl, q _ H1 (Ex.refl H1) (.int _)⟩
/-! ### how far an edge falls -/
def dnC (c : Nat) : Int := if c = 78 then 2 else if c = 66 then 1 else 0
def asC (c : Nat) : Int := if c = 84 then 2 else if c = 66 then 1 else 0
def fallD (z : Str) : PyData := .tuple [.int ((tl z).map dnC).sum, .int ((tl z).map asC).sum]
def RFall (ds : List PyData) (d : PyData) : Prop := ∃ z : Str, EdgeS z ∧ ds = [.str z] ∧ d = fallD z
def stepD (c : Nat) : PyData := .tuple [.int (dnC c), .int (asC c)]
theorem sums_le (f : Nat → Int) (hf : ∀ c, 0 ≤ f c ∧ f c ≤ 2) : ∀ cs : List Nat, 0 ≤ (cs.map f).sum ∧ (cs.map f).sum ≤ 2 * cs.length
  | [] => by simp
  | c :: cs => by
    have h1 := hf c
    have h2 := sums_le f hf cs
    rw [List.map_cons, List.sum_cons, List.length_cons]
    omega
theorem dn_two (c : Nat) : 0 ≤ dnC c ∧ dnC c ≤ 2 := by
  unfold dnC
  split
  · omega
  split <;> omega
theorem as_two (c : Nat) : 0 ≤ asC c ∧ asC c ≤ 2 := by
  unfold asC
  split
  · omega
  split <;> omega
end Mm

set_option Elab.async false
set_option linter.all false
set_option maxRecDepth 100000
set_option maxHeartbeats 4000000
namespace Mm
open PySem PySem.Spec PyProof.Rows L2 Evl
open TL (tl tl_append joinL tl_join join_eq ext_tl)
/-! ### a token is given out -/
def PE1 (X : Cx) (e : Expr) (t : TE) : Prop :=
  ∀ (pins : List (Addr × Obj)) (s : Shared) (σ : L2.St) (H : Hp) (Q : VK), Inv X pins σ H s → t σ H Q → wpAny (model X.prog X.w) X.A (eval e X.env) (fun v s' => 1 ≤ s'.toks ∧ EP X pins σ Q v s') X.xe s
def PA1 (X : Cx) (es : List Expr) (t : TA) : Prop :=
  ∀ (pos : Pos) (pins : List (Addr × Obj)) (s : Shared) (σ : L2.St) (H : Hp) (Q : List V → Hp → Prop), Inv X pins σ H s → t σ H Q → wpAny (model X.prog X.w) X.A (spliced (backTo pos (starEach es X.env))) (fun vs s' => 1 ≤ s'.toks ∧ AP X pins σ Q vs s') X.xe s
section
variable {X : Cx} {e f : Expr} {te : TE} {es : List Expr} {ta : TA} {st : Stmt} {rest : List Stmt} {t u : TS}
theorem pa1_str {x : Str} {j : Nat} {p : Pos} (hr : PA X es ta) (hs : starEach (.Constant (.str x) j p :: es) X.env = (false, eval (.Constant (.str x) j p) X.env) :: starEach es X.env := by rfl) : PA1 X (.Constant (.str x) j p :: es) (tCons (tC (.str x)) ta) := by
  intro pos pins s σ H Q I h
  rw [hs]
  show wpAny _ _ (spliced ((false, eval (.Constant (.str x) j p) X.env) :: backTo pos (starEach es X.env))) _ _ s
  refine Calls.spliced_cons (Calls.Constant_str ?_)
  have I1 : Inv X pins σ H { s with toks := s.toks + 1 } := I.tok _
  refine wpAny_mono (PySem.wpAny_toks (hr.run pos pins _ σ H _ I1 h)) (fun vs s1 q => ?_) fun _ _ z => z.2
  obtain ⟨hk, xs, H2, I2, r2, q2⟩ := q
  have hk : s.toks + 1 ≤ s1.toks := hk
  exact ⟨by omega, .str x :: xs, H2, I2, .cons ⟨s.toks, rfl⟩ r2, q2⟩
theorem pa1_tail (ha : PE X e te) (hr : PA1 X es ta) (hs : starEach (e :: es) X.env = (false, eval e X.env) :: starEach es X.env := by rfl) : PA1 X (e :: es) (tCons te ta) := by
  intro pos pins s σ H Q I h
  rw [hs]
  show wpAny _ _ (spliced ((false, eval e X.env) :: backTo pos (starEach es X.env))) _ _ s
  refine Calls.spliced_cons (thn (ha.run pins s σ H _ I h) fun v s1 ⟨x, H1, I1, r1, q1⟩ => ?_)
  exact thn (hr pos pins s1 σ H1 _ I1 q1) fun us s2 ⟨k, xs, H2, I2, r2, q2⟩ => ⟨k, x :: xs, H2, I2, .cons r1 r2, q2⟩
theorem pa1_one (ha : PE1 X e te) (hs : starEach (e :: []) X.env = (false, eval e X.env) :: starEach [] X.env := by rfl) : PA1 X [e] (tCons te tNil) := by
  intro pos pins s σ H Q I h
  rw [hs]
  show wpAny _ _ (spliced ((false, eval e X.env) :: backTo pos (starEach [] X.env))) _ _ s
  refine Calls.spliced_cons (thn (ha pins s σ H _ I h) fun v s1 ⟨k, x, H1, I1, r1, q1⟩ => ?_)
  exact Calls.spliced_nil ⟨k, [x], H1, I1, .cons r1 .nil, q1⟩
theorem pe1_lst {pos : Pos} (h : PA1 X es ta) : PE1 X (.List es pos) (tLst ta) := by
  intro pins s σ H Q I hq
  refine wpAny_List_spliced (thn (h pos pins s σ H _ I hq) fun us s1 ⟨k, xs, H1, I1, r, z, q⟩ => ⟨by rw [← r.length]; exact z, ?_⟩)
  have hf : H1 s1.heap.objs.size = none := I1.hok.fresh (Nat.le_refl _)
  refine ⟨k, .ref s1.heap.objs.size, upd H1 s1.heap.objs.size (.lst xs), I1.laid (t' := s1.toks) (fun b u e => Heap.get?_push_of_some _ e) (Nat.le_refl _) ?_, rfl, q _ hf⟩
  exact ⟨z, us, 0, r, Heap.get?_push_size _ rfl⟩
theorem pe1_c {k l : Nat} {x : Str} {sp : Sp} {p pos : Pos} {t : TA} (c : Cal X.prog X.w X.K X.mg X.base k x sp) (hr : Room l X.A) (hk : k ≤ l) (hg : Gl X x) (ha : PA1 X (e :: es) t)
    (hdb : (x == ("__debug__" : Str)) = false := by decide) (he : starEach (e :: es) X.env = (false, eval e X.env) :: starEach es X.env := by rfl) (hpl : (backTo pos (starEach es X.env)).any (·.1) = false := by rfl) :
    PE1 X (.Call (.Name x p) (e :: es) [] pos) (tCall sp [] E0 t) := by
  obtain ⟨g, fd, ps, F, hm, kp, b⟩ := c.ex
  intro pins s σ H Q I h
  refine wpAny_Call_Name_kw (ld_glob I hg hm ?_ hdb)
  refine PySem.W.callWith_K (h₀ := X.base) I.ok.mod.kin kp (thn (ha pos pins s σ H _ I h) fun us s1 ⟨k1, vs, H1, I1, r, q⟩ => ⟨I1.kIn, ?_⟩) he hpl
  exact wpAny_mono (PySem.wpAny_toks (run_fn F (hr.mono hk) b .nil pass0 I1 r q)) (fun v s2 z => ⟨Nat.le_trans k1 z.1, z.2⟩) fun _ _ z => z.2
/-- name = e, behind which a token is out -/
theorem pss1_set {i : Nat} {x : Str} {pos pos' : Pos} (hN : X.N.Nodup) (hi : X.N[i]? = some x) (hx : Loc X.env.scope x) (he : PE1 X e te) (h2 : PSsT X rest u) (hs : swapsWith e (some (.Name x pos')) pos.line X.env = pure false := by rfl)
    (hf : X.fn x = true ∨ X.env.scope.names.lookup x = some .local := by first | exact .inl rfl | exact .inr rfl | assumption) :
    PSs X (.Assign [.Name x pos'] e pos :: rest) (tSeq (tAsg te (gName i)) u) := by
  refine ⟨fun pins s σ H D I h => ?_⟩
  refine wpAny_execs_cons (wpAny_Assign_Name (thn (he pins s σ H _ I h) fun v s1 ⟨k, y, H1, I1, r1, q1⟩ => ?_) hs)
  refine wpAny_mono (PySem.wpAny_toks (store_ok (v := y) (u := v) (Q := fun _ s2 => Inv X pins (σ.set i (some y)) H1 s2) I1 hN hi hx r1 (fun _ I2 => I2) hf)) (fun _ s2 q => ?_) fun _ _ z => z.2
  exact h2 pins s2 _ H1 D (Nat.le_trans k q.1) q.2 q1
theorem pst_set {i : Nat} {x : Str} {pos pos' : Pos} (hN : X.N.Nodup) (hi : X.N[i]? = some x) (hx : Loc X.env.scope x) (he : PET X e te) (hs : swapsWith e (some (.Name x pos')) pos.line X.env = pure false := by rfl)
    (hf : X.fn x = true ∨ X.env.scope.names.lookup x = some .local := by first | exact .inl rfl | exact .inr rfl | assumption) :
    PST X (.Assign [.Name x pos'] e pos) (tAsg te (gName i)) := by
  intro pins s σ H D h0 I h
  refine wpAny_Assign_Name (thn (he pins s σ H _ h0 I h) fun v s1 ⟨y, H1, I1, r1, q1⟩ => ?_) hs
  exact store_ok I1 hN hi hx r1 (fun s2 I2 => ⟨_, H1, I2, q1⟩) hf
end
/-! ### x.replace(y, z, 1) of written texts -/
section
open Builtin Builtin.Str
def repOne (x y z : Str) : Str := if ((occurrences x y 0 x.length 1).isEmpty || (y.length == 0 && z.length == 0)) = true then x else glued z (partsBetween x (occurrences x y 0 x.length 1) y.length)
theorem repOne_len (x y z : Str) : (repOne x y z).length ≤ x.length + z.length := by
  unfold repOne
  split
  · exact Nat.le_add_right _ _
  · have h1 := StrLaws.occ_length_le x y 0 x.length 1
    have hy : (glued y (partsBetween x (occurrences x y 0 x.length 1) y.length)).length = x.length := by rw [StrLaws.glued_between_self]
    rw [size_glued, length_partsBetween, Nat.add_sub_cancel] at hy
    rw [size_glued, length_partsBetween, Nat.add_sub_cancel]
    have h2 : (occurrences x y 0 x.length 1).length * z.length ≤ 1 * z.length := Nat.mul_le_mul_right _ h1
    omega
theorem gives_repOne (x y z : Str) (t u v w : Tok)
    (hf : ((occurrences x y 0 x.length 1).isEmpty || (y.length == 0 && z.length == 0)) = false →
      (u == 0 || v == 0) = false ∧ (u == v) = false ∧ (y == z) = false ∧ tooLong (x.length + (occurrences x y 0 x.length 1).length * z.length) = false) :
    Gives («str.replace» ⟨[.str x t, .str y u, .str z v, .int 1 w], []⟩) (if ((occurrences x y 0 x.length 1).isEmpty || (y.length == 0 && z.length == 0)) = true then .val (.str x t) else .str (glued z (partsBetween x (occurrences x y 0 x.length 1) y.length))) := by
  show Gives (if ((occurrences x y 0 x.length 1).isEmpty || (y.length == 0 && z.length == 0)) = true then (do rule "str.replace.nothing"; ret (.str x t)) else
          (do let same ← isSame (.str y u) (.str z v)
              if same = true then (do rule "str.replace.old-is-new"; ret (.str x t)) else
              if tooLong (x.length + (occurrences x y 0 x.length 1).length * z.length) = true then unsupported "str.replace:memory" else
              retStr (glued z (partsBetween x (occurrences x y 0 x.length 1) y.length)))) _
  cases hc : ((occurrences x y 0 x.length 1).isEmpty || (y.length == 0 && z.length == 0))
  · obtain ⟨h0, huv, hyz, hl⟩ := hf hc
    rw [isSame_str_other y z u v h0 huv hyz, hl]
    exact .of_eq rfl
  · exact .rule (.of_eq rfl)
theorem call_repOne {prog : Program} {wd : World} {A : Around} {E : Value → Shared → Prop} {s : Shared} {x y z : Str} {t u v w : Tok} {Q : Value → Shared → Prop} (hu : u ≠ 0) (hv : v ≠ 0) (huv : u ≠ v) (hyz : (y == z) = false) (hb : x.length + z.length ≤ 16777216)
    (hq : ∀ t' k, Q (.str (repOne x y z) t') { s with toks := k }) : wpAny (model prog wd) A (call (.builtin "str.replace") [.str x t, .str y u, .str z v, .int 1 w]) Q E s := by
  have hl : tooLong (x.length + (occurrences x y 0 x.length 1).length * z.length) = false := by
    have h1 := StrLaws.occ_length_le x y 0 x.length 1
    have h2 : (occurrences x y 0 x.length 1).length * z.length ≤ 1 * z.length := Nat.mul_le_mul_right _ h1
    unfold tooLong
    rw [sizeLine_eq]
    exact decide_eq_false (by omega)
  refine call_gives F.slot_str_replace (typeIs_str _ _ _) F.entry_str_replace (F.args_str_replace_4 _ _ _ _)
    (gives_repOne x y z t u v w fun _ => ⟨by simp [hu, hv], by simp [huv], hyz, hl⟩) ?_
  have hq' := hq
  have len := repOne_len x y z
  unfold repOne at hq' len
  cases hc : ((occurrences x y 0 x.length 1).isEmpty || (y.length == 0 && z.length == 0))
  · rw [hc] at hq' len
    simp only [Bool.false_eq_true, if_false] at hq' len ⊢
    exact ⟨by rw [sizeLine_eq]; omega, hq' _ _⟩
  · rw [hc] at hq'
    simp only [if_true] at hq' ⊢
    exact hq' t s.toks
end
def tRepOne (to : TE) (y z : Str) : TE := fun σ H Q => to σ H fun v H1 => ∃ x, v = .str x ∧ x.length + z.length ≤ 16777216 ∧ Q (.str (repOne x y z)) H1
section
variable {X : Cx} {o e f : Expr} {te tf : TE} {to : TE} {y z : Str} {j k i : Nat} {c0 c1 c2 apos pos p p' : Pos}
theorem pet_repOne (ho : PE X o to) (hyz : (y == z) = false := by decide)
    (hst : starEach [.Constant (.str y) j c0, .Constant (.str z) k c1, .Constant (.int 1) i c2] X.env = [(false, eval (.Constant (.str y) j c0) X.env), (false, eval (.Constant (.str z) k c1) X.env), (false, eval (.Constant (.int 1) i c2) X.env)] := by rfl)
    (hbase : attributeBase o "replace" X.env (eval o X.env) = eval o X.env := by rfl) (hline : (apos.endLine == pos.line) = true := by rfl) :
    PET X (.Call (.Attribute o "replace" apos) [.Constant (.str y) j c0, .Constant (.str z) k c1, .Constant (.int 1) i c2] [] pos) (tRepOne to y z) := by
  intro pins s σ H Q h0 I h
  refine wpAny_Call_method_lateS hbase (by rw [hst]; rfl) hline ?_
  rw [hst]
  refine wpAny_mono (PySem.wpAny_toks (ho.run pins s σ H _ I h)) (fun v s1 q => ?_) fun _ _ z => z.2
  obtain ⟨hk, v', H1, I1, r1, x, e1, hb, q⟩ := q
  subst e1
  obtain ⟨tx, e2⟩ := r1
  subst e2
  refine ⟨"str", _, PySem.F.plainAttrs_str, PySem.F.slot_str_replace, PySem.F.type_str_replace, typeIs_str _ _ _, (fun _ e => nomatch e), Calls.callWith_builtin rfl (Calls.evalArgs_plain (Calls.spliced_cons ?_))⟩
  show wpAny _ _ (eval (.Constant (.str y) j c0) X.env) _ _ s1
  refine Calls.Constant_str (Calls.spliced_cons ?_)
  show wpAny _ _ (eval (.Constant (.str z) k c1) X.env) _ _ _
  refine Calls.Constant_str (Calls.spliced_cons ?_)
  show wpAny _ _ (eval (.Constant (.int 1) i c2) X.env) _ _ _
  refine wpAny_Constant_int (Calls.spliced_nil ?_)
  exact call_repOne (by show s1.toks ≠ 0; omega) (by show s1.toks + 1 ≠ 0; omega) (by show s1.toks ≠ s1.toks + 1; omega) hyz hb fun t' k => ⟨.str (repOne x y z), H1, I1.tok k, ⟨t', rfl⟩, q⟩
end
end Mm

set_option Elab.async false
set_option linter.all false
set_option maxRecDepth 100000
set_option maxHeartbeats 4000000
namespace Mm
open PySem PySem.Spec PyProof.Rows L2 Evl HT
open TL (tl tl_append joinL tl_join join_eq ext_tl)
/-! ### z[::-1] of a string -/
def tRevS (te : TE) : TE := fun σ H Q => te σ H fun x H1 => ∃ z : Str, x = .str z ∧ z.length ≤ sizeLine ∧ Q (.str (mkS (tl z).reverse)) H1
theorem rev_picked (z : Str) : (⟨((Builtin.Str.strSliceIndices none none (-1) z.length).filterMap (z.cps[·]?)).toArray⟩ : Str) = mkS (tl z).reverse := by
  unfold mkS
  congr 2
  rw [picked_rev, tl_len, List.filterMap_map]
  have e : ∀ k, ((fun x => z.cps[x]?) ∘ fun k => (tl z).length - 1 - k) k = (tl z)[(tl z).length - 1 - k]? := fun k => by
    show z.cps[(tl z).length - 1 - k]? = z.cps.toList[(tl z).length - 1 - k]?
    rw [Array.getElem?_toList]
  have f : List.filterMap ((fun x => z.cps[x]?) ∘ fun k => (tl z).length - 1 - k) (List.range (tl z).length) = List.filterMap (fun k => (tl z).reverse[k]?) (List.range (tl z).length) := by
    have key : ∀ l : List Nat, (∀ k ∈ l, k < (tl z).length) → List.filterMap ((fun x => z.cps[x]?) ∘ fun k => (tl z).length - 1 - k) l = List.filterMap (fun k => (tl z).reverse[k]?) l := by
      intro l
      induction l with
      | nil => intro _; rfl
      | cons k l ih =>
        intro h
        have hk := h k List.mem_cons_self
        have e1 : ((fun x => z.cps[x]?) ∘ fun k => (tl z).length - 1 - k) k = (fun k => (tl z).reverse[k]?) k := by
          rw [e k]
          dsimp only
          rw [List.getElem?_reverse hk]
        rw [List.filterMap_cons, List.filterMap_cons, e1, ih fun k hk => h k (List.mem_cons_of_mem _ hk)]
    exact key _ fun k hk => List.mem_range.mp hk
  rw [f]
  have g : ∀ l : List Nat, List.filterMap (fun k => l[k]?) (List.range l.length) = l := fun l => by
    apply List.ext_getElem?
    intro i
    have : List.filterMap (fun k => l[k]?) (List.range l.length) = l := by
      induction l with
      | nil => rfl
      | cons a l ih =>
        rw [List.length_cons, List.range_succ_eq_map, List.filterMap_cons]
        show a :: List.filterMap (fun k => (a :: l)[k]?) (List.map Nat.succ (List.range l.length)) = a :: l
        rw [List.filterMap_map]
        congr 1
    rw [this]
  have r := g (tl z).reverse
  rw [List.length_reverse] at r
  exact r
theorem pe_revS {X : Cx} {e : Expr} {te : TE} {k : Nat} {p1 p2 p3 pos : Pos} (he : PE X e te) : PE X (.Subscript e (.Slice none none (some (.UnaryOp .USub (.Constant (.int 1) k p1) p2)) p3) pos) (tRevS te) := by
  refine ⟨fun pins s σ H Q I h => ?_⟩
  refine Subscript_ (thn (he.run pins s σ H _ I h) fun v s1 ⟨x, H1, I1, r1, q1⟩ => ?_)
  obtain ⟨z, ex, hz, q⟩ := q1
  subst ex
  obtain ⟨t, rfl⟩ := r1
  have hst : PO X (some (.UnaryOp .USub (.Constant (.int 1) k p1) p2)) (tPart (tUn (rU fun i => .int (-i)) (tC (.int 1)))) := po_some (pe_un un_neg pe_int)
  refine wpAny_Slice (thn (po_none.run pins s1 σ H1 (fun o H2 => o = none ∧ H2 = H1) I1 ⟨rfl, rfl⟩) fun vl s2 ⟨l, H2, I2, pl, el, e2⟩ => ?_)
  subst el e2
  refine thn (po_none.run pins s2 σ H2 (fun o H3 => o = none ∧ H3 = H2) I2 ⟨rfl, rfl⟩) fun vu s3 ⟨u, H3, I3, pu, eu, e3⟩ => ?_
  subst eu e3
  refine thn (hst.run pins s3 σ H3 (fun o H4 => o = some (-1) ∧ H4 = H3) I3 ⟨1, rfl, -1, rfl, rfl, rfl⟩) fun vs s4 ⟨o, H4, I4, ps, eo, e4⟩ => ?_
  subst eo e4
  have I5 : Inv X pins σ H4 { s4 with heap := s4.heap.push { cls := .type "slice", data := .fields #[vl, vu, vs] } } := I4.kept (t' := s4.toks) fun b ob q => Heap.get?_push_of_some _ q
  show wpAny (model X.prog X.w) X.A (subscriptTail e (.Slice none none (some (.UnaryOp .USub (.Constant (.int 1) k p1) p2)) p3) (.str z t) (.ref s4.heap.objs.size)) (EP X pins σ Q) X.xe { s4 with heap := s4.heap.push { cls := .type "slice", data := .fields #[vl, vu, vs] } }
  refine tail_any (ops := [.str z t, .ref s4.heap.objs.size]) (typeIs_str _ _ _) F.slot_str_getitem.lookup ?_ (by with_unfolding_all rfl)
  obtain ⟨l, rfl, hl⟩ := IsPart.raw pl
  obtain ⟨u, rfl, hu⟩ := IsPart.raw pu
  obtain ⟨st, rfl, hst⟩ := IsPart.raw ps
  refine wpAny_getItem_str_slice (l := l) (u := u) (st := st) ⟨_, Heap.get?_push_size _ rfl, rfl, rfl⟩ (by rw [hst]; rfl) ?_
  unfold sliceMade slicePicked
  rw [hl, hu, hst]
  show Made.post (if ((-1 : Int) == 1 && (Builtin.Str.strSliceIndices none none (-1) z.length).length == z.length) = true then Made.val (.str z t)
    else Made.str ⟨((Builtin.Str.strSliceIndices none none (-1) z.length).filterMap (z.cps[·]?)).toArray⟩) (EP X pins σ Q) _
  rw [if_neg (by simp), rev_picked]
  exact ⟨by rw [mk_len, List.length_reverse, ← tl_len]; exact hz, .str _, _, I5.tok _, ⟨_, rfl⟩, q⟩
section
variable {K : PySem.W.Frag} {H : Hp} {σ : L2.St} {te tf : TE} {x y z : Str}
theorem ed_revS (h : EvD K te σ H (.str z)) (hz : z.length ≤ 16777216) : EvD K (tRevS te) σ H (.str (mkS (tl z).reverse)) := fun H1 e Q q => h H1 e _ fun v H2 e2 dv => by
  cases dv
  exact ⟨z, rfl, by rw [sizeLine_eq]; exact hz, q _ H2 e2 (.str _)⟩
theorem ed_repC (h : EvD K te σ H (.str x)) (hz : x.length + (x.length + 1) * z.length ≤ 16777216) : EvD K (CwR.tReplC te y z) σ H (.str (Txt.replace x y z)) := fun H1 e Q q => h H1 e _ fun v H2 e2 dv => by
  cases dv
  exact ⟨x, rfl, hz, q _ H2 e2 (.str _)⟩
theorem ed_repOne (h : EvD K te σ H (.str x)) (hz : x.length + z.length ≤ 16777216) : EvD K (tRepOne te y z) σ H (.str (repOne x y z)) := fun H1 e Q q => h H1 e _ fun v H2 e2 dv => by
  cases dv
  exact ⟨x, rfl, hz, q _ H2 e2 (.str _)⟩
theorem das_str : ∀ (ys : List Str), DaAll K H (ys.map V.str) (ys.map .str)
  | [] => .nil
  | _ :: r => .cons (.str _) (das_str r)
theorem en_split (h : EvD K te σ H (.str x)) (h2 : EvD K tf σ H (.str y)) (hy : (y.length == 0) = false) (hx : x.length + 2 ≤ 16777216) :
    EvN K (tM1 (fun x xs H Q => ∃ a b, x = .str a ∧ xs = [.str b] ∧ (b.length == 0) = false ∧ a.length + 2 ≤ sizeLine ∧ rNewStrs (Txt.split a b) H Q) te tf) σ H ((Txt.split x y).map .str) := fun H1 e Q q =>
  h H1 e _ fun v H2 e2 dv => by
    cases dv
    refine ⟨⟨x, rfl⟩, h2 H2 (e.trans e2) _ fun u H3 e3 du => ?_⟩
    cases du
    exact ⟨x, y, rfl, rfl, hy, by rw [sizeLine_eq]; exact hx, fun p np => q _ _ _ (fresh_back (e2.trans e3) np) ((e2.trans e3).trans (Ex.new np)) upd_same (das_str _)⟩
end
/-! ### rows cut and joined again -/
def wt (ys : List Str) : Nat := (ys.map (·.length)).sum + ys.length
theorem wt_app (a b : List Str) : wt (a ++ b) = wt a + wt b := by
  unfold wt
  rw [List.map_append, List.sum_append, List.length_append]
  omega
theorem wt_take_drop (ys : List Str) (k n : Nat) : wt ((ys.drop k).take n) ≤ wt ys := by
  have e : ys = ys.take k ++ ((ys.drop k).take n ++ (ys.drop k).drop n) := by rw [List.take_append_drop, List.take_append_drop]
  have := congrArg wt e
  rw [wt_app, wt_app] at this
  omega
theorem join_le (ys : List Str) : (Txt.join (Str.ofString "\n") ys).length ≤ wt ys := by
  rw [tl_len, join_eq, tl_join]
  have key : ∀ (ps : List (List Nat)), (joinL (tl (Str.ofString "\n")) ps).length ≤ (ps.map (·.length)).sum + ps.length := by
    intro ps
    induction ps with
    | nil => exact Nat.zero_le _
    | cons p r ih =>
      cases r with
      | nil => show p.length ≤ _; simp
      | cons q r =>
        show (p ++ (tl (Str.ofString "\n") ++ joinL (tl (Str.ofString "\n")) (q :: r))).length ≤ _
        rw [List.length_append, List.length_append, show (tl (Str.ofString "\n")).length = 1 from rfl]
        simp only [List.map_cons, List.sum_cons, List.length_cons] at ih ⊢
        omega
  refine Nat.le_trans (key _) ?_
  unfold wt
  rw [List.length_map, List.map_map]
  have e : (List.length ∘ tl) = fun y : Str => y.length := funext fun y => (tl_len y).symm
  show (List.map (List.length ∘ tl) ys).sum + _ ≤ _
  rw [e]
  exact Nat.le_refl _
theorem cutD_strs (ys : List Str) (lo hi : Option Int) : ∃ zs : List Str, cutD (ys.map PyData.str) lo hi = zs.map .str ∧ wt zs ≤ wt ys ∧ zs.length ≤ ys.length := by
  refine ⟨(ys.drop (HT.sIx ys.length 0 lo)).take (HT.sIx ys.length ys.length hi - HT.sIx ys.length 0 lo), ?_, wt_take_drop _ _ _, ?_⟩
  · unfold cutD
    rw [List.length_map, List.map_take, List.map_drop]
  · rw [List.length_take, List.length_drop]
    omega
def spSpoiltT (K : PySem.W.Frag) : Sp := fun vs H Q _ => ∃ (D L : Addr) (ns : List Int) (B : Nat) (z : Str), vs = [.ref D, .str z] ∧ Dk H D L ns B ∧ B < 100000000 ∧ 1 ≤ z.length ∧ z.length ≤ 3000 ∧
  ∀ (y : Str) H', Ey H H' → Dk H' D L ns (B + 10) → y.length ≤ 3000 → Q (.str y) H'
end Mm

set_option Elab.async false
set_option linter.all false
set_option maxRecDepth 100000
set_option maxHeartbeats 1000000
namespace Mm
open PySem PySem.Spec PyProof.Rows L2 Evl
open TL (tl tl_append joinL tl_join join_eq ext_tl)
/-! ### words spread evenly -/
def FF (o m k : Nat) : Nat := k * o / m
def wl (lc o m k : Nat) : Nat := if FF o m k < FF o m (k + 1) then lc else 66
def WW (lc o m n : Nat) : List Nat := (List.range n).map (wl lc o m)
theorem ff_zero (o m : Nat) : FF o m 0 = 0 := by unfold FF; simp
theorem ff_mono {o m : Nat} {i j : Nat} (h : i ≤ j) : FF o m i ≤ FF o m j := Nat.div_le_div_right (Nat.mul_le_mul_right o h)
theorem ff_step {o m : Nat} (hm : 1 ≤ m) (ho : o ≤ m) (k : Nat) : FF o m k ≤ FF o m (k + 1) ∧ FF o m (k + 1) ≤ FF o m k + 1 := by
  refine ⟨ff_mono (Nat.le_succ k), ?_⟩
  unfold FF
  rw [← Nat.add_div_right _ (by omega)]
  refine Nat.div_le_div_right ?_
  rw [Nat.succ_mul]
  omega
theorem ff_add {o m : Nat} (hm : 1 ≤ m) (k s : Nat) : FF o m s ≤ FF o m (k + s) - FF o m k ∧ FF o m (k + s) - FF o m k ≤ FF o m s + 1 := by
  unfold FF
  rw [Nat.add_mul]
  have h1 := Nat.div_add_mod (k * o) m
  have h2 := Nat.div_add_mod (s * o) m
  have l1 := Nat.mod_lt (k * o) (show 0 < m by omega)
  have l2 := Nat.mod_lt (s * o) (show 0 < m by omega)
  have e : (k * o + s * o) / m = k * o / m + s * o / m + (k * o % m + s * o % m) / m := by
    have : k * o + s * o = (k * o % m + s * o % m) + (k * o / m + s * o / m) * m := by
      rw [Nat.add_mul, Nat.mul_comm (k * o / m), Nat.mul_comm (s * o / m)]
      omega
    rw [this, Nat.add_mul_div_right _ _ (by omega)]
    omega
  have q : (k * o % m + s * o % m) / m ≤ 1 := by
    have : (k * o % m + s * o % m) / m < 2 := Nat.div_lt_of_lt_mul (by omega)
    omega
  rw [e]
  generalize (k * o % m + s * o % m) / m = g at q
  generalize k * o / m = x
  generalize s * o / m = y
  omega
theorem ff_period {o m : Nat} (hm : 1 ≤ m) (k : Nat) : FF o m (k + m) = FF o m k + o := by
  unfold FF
  rw [Nat.add_mul, Nat.add_comm (k * o), Nat.mul_comm m o, Nat.add_comm (o * m), Nat.add_mul_div_right _ _ (by omega)]
theorem ww_len (lc o m n : Nat) : (WW lc o m n).length = n := by unfold WW; rw [List.length_map, List.length_range]
theorem ww_take {lc o m n k : Nat} (h : k ≤ n) : (WW lc o m n).take k = WW lc o m k := by
  unfold WW
  rw [← List.map_take, List.take_range, Nat.min_eq_left h]
theorem ww_succ (lc o m n : Nat) : WW lc o m (n + 1) = WW lc o m n ++ [wl lc o m n] := by
  unfold WW
  rw [List.range_succ, List.map_append]
  rfl
/-- how often a letter stands ahead of a place -/
def pre (c : Nat) (cs : List Nat) (k : Nat) : Nat := (cs.take k).count c
theorem ww_count {lc o m : Nat} (hm : 1 ≤ m) (ho : o ≤ m) (hl : lc ≠ 66) : ∀ n, (WW lc o m n).count lc = FF o m n ∧ (WW lc o m n).count 66 + FF o m n = n
  | 0 => by
    rw [ff_zero]
    exact ⟨rfl, rfl⟩
  | n + 1 => by
    obtain ⟨h1, h2⟩ := ww_count hm ho hl n
    obtain ⟨s1, s2⟩ := ff_step hm ho n
    rw [ww_succ, List.count_append, List.count_append, h1]
    unfold wl
    split
    · rename_i h
      rw [List.count_singleton_self, show List.count 66 [lc] = 0 by rw [List.count_singleton]; simp [hl]]
      omega
    · rename_i h
      rw [List.count_singleton_self, show List.count lc [66] = 0 by rw [List.count_singleton]; simp [Ne.symm hl]]
      omega
theorem ww_other {lc o m c : Nat} (h1 : c ≠ lc) (h2 : c ≠ 66) (n : Nat) : (WW lc o m n).count c = 0 := by
  rw [List.count_eq_zero]
  intro h
  obtain ⟨k, _, e⟩ := List.mem_map.mp h
  unfold wl at e
  split at e
  · exact h1 e.symm
  · exact h2 e.symm
/-- any two stretches of the same length have the letter equally often, or once more -/
def EvIn (c : Nat) (cs : List Nat) : Prop := ∀ s i j, i + s ≤ cs.length → j + s ≤ cs.length → pre c cs (i + s) - pre c cs i ≤ pre c cs (j + s) - pre c cs j + 1
def EvAll (cs : List Nat) : Prop := EvIn 78 cs ∧ EvIn 84 cs ∧ EvIn 66 cs
theorem pre_mono (c : Nat) (cs : List Nat) {i j : Nat} (h : i ≤ j) : pre c cs i ≤ pre c cs j := by
  unfold pre
  have : cs.take i = (cs.take j).take i := by rw [List.take_take, Nat.min_eq_left h]
  rw [this]
  exact List.Sublist.count_le _ (List.take_sublist _ _)
theorem pre_le (c : Nat) (cs : List Nat) (k : Nat) : pre c cs k ≤ k := by
  unfold pre
  exact Nat.le_trans List.count_le_length (by rw [List.length_take]; omega)
theorem pre_ww {lc o m n c k : Nat} (hm : 1 ≤ m) (ho : o ≤ m) (hl : lc ≠ 66) (hk : k ≤ n) : pre c (WW lc o m n) k = if c = lc then FF o m k else if c = 66 then k - FF o m k else 0 := by
  unfold pre
  rw [ww_take hk]
  obtain ⟨h1, h2⟩ := ww_count hm ho hl k
  split
  · rename_i e
    rw [e, h1]
  · rename_i e
    split
    · rename_i e2
      rw [e2]
      omega
    · rename_i e2
      exact ww_other e e2 k
theorem ww_even {lc o m n c : Nat} (hm : 1 ≤ m) (ho : o ≤ m) (hl : lc ≠ 66) : EvIn c (WW lc o m n) := by
  intro s i j hi hj
  rw [ww_len] at hi hj
  rw [pre_ww hm ho hl hi, pre_ww hm ho hl (Nat.le_trans (Nat.le_add_right i s) hi), pre_ww hm ho hl hj, pre_ww hm ho hl (Nat.le_trans (Nat.le_add_right j s) hj)]
  obtain ⟨a1, a2⟩ := ff_add (o := o) hm i s
  obtain ⟨b1, b2⟩ := ff_add (o := o) hm j s
  have m1 : FF o m i ≤ FF o m (i + s) := ff_mono (Nat.le_add_right _ _)
  have m2 : FF o m j ≤ FF o m (j + s) := ff_mono (Nat.le_add_right _ _)
  have fk : ∀ k, FF o m k ≤ k := fun k => by
    have := (ww_count (lc := lc) hm ho hl k).2
    omega
  have f1 := fk i
  have f2 := fk (i + s)
  have f3 := fk j
  have f4 := fk (j + s)
  have f5 := fk s
  split
  · omega
  · split
    · omega
    · omega
theorem pre_rev {c : Nat} {cs : List Nat} {k : Nat} (h : k ≤ cs.length) : pre c cs.reverse k + pre c cs (cs.length - k) = pre c cs cs.length := by
  unfold pre
  rw [List.take_reverse, List.count_reverse, List.take_length]
  have := List.take_append_drop (cs.length - k) cs
  have e := congrArg (List.count c) this
  rw [List.count_append] at e
  omega
theorem ev_rev {c : Nat} {cs : List Nat} (h : EvIn c cs) : EvIn c cs.reverse := by
  intro s i j hi hj
  rw [List.length_reverse] at hi hj
  have a1 := pre_rev (c := c) (cs := cs) hi
  have a2 := pre_rev (c := c) (cs := cs) (show i ≤ cs.length by omega)
  have b1 := pre_rev (c := c) (cs := cs) hj
  have b2 := pre_rev (c := c) (cs := cs) (show j ≤ cs.length by omega)
  have k := h s (cs.length - (i + s)) (cs.length - (j + s)) (by omega) (by omega)
  rw [show cs.length - (i + s) + s = cs.length - i by omega, show cs.length - (j + s) + s = cs.length - j by omega] at k
  have m1 := pre_mono c cs (show cs.length - (i + s) ≤ cs.length - i by omega)
  have m2 := pre_mono c cs (show cs.length - (j + s) ≤ cs.length - j by omega)
  omega
/-! ### its round -/
theorem ww_double {lc o m : Nat} (hm : 1 ≤ m) : WW lc o m m ++ WW lc o m m = WW lc o m (m + m) := by
  unfold WW
  rw [List.range_add, List.map_append, List.map_map]
  congr 1
  refine List.map_congr_left fun k _ => ?_
  show wl lc o m k = wl lc o m (m + k)
  unfold wl
  rw [Nat.add_comm m k, show k + m + 1 = (k + 1) + m by omega, ff_period hm, ff_period hm]
  by_cases h : FF o m k < FF o m (k + 1)
  · rw [if_pos h, if_pos (by omega)]
  · rw [if_neg h, if_neg (by omega)]
theorem ff_gcd {o m : Nat} (hm : 1 ≤ m) (k : Nat) : FF (o / Nat.gcd o m) (m / Nat.gcd o m) k = FF o m k := by
  unfold FF
  have g0 : 0 < Nat.gcd o m := Nat.gcd_pos_of_pos_right _ (by omega)
  have e1 : o / Nat.gcd o m * Nat.gcd o m = o := Nat.div_mul_cancel (Nat.gcd_dvd_left o m)
  have e2 : m / Nat.gcd o m * Nat.gcd o m = m := Nat.div_mul_cancel (Nat.gcd_dvd_right o m)
  have : k * o / m = k * (o / Nat.gcd o m) * Nat.gcd o m / (m / Nat.gcd o m * Nat.gcd o m) := by
    rw [e2, Nat.mul_assoc, e1]
  rw [this, Nat.mul_div_mul_right _ _ g0]
theorem ww_gcd {lc o m : Nat} (hm : 1 ≤ m) (n : Nat) : WW lc (o / Nat.gcd o m) (m / Nat.gcd o m) n = WW lc o m n := by
  unfold WW
  refine List.map_congr_left fun k _ => ?_
  unfold wl
  rw [ff_gcd hm, ff_gcd hm]
theorem ww_rep {lc o m : Nat} (hm : 1 ≤ m) : ∀ t, WW lc o m (t * m) = (List.replicate t (WW lc o m m)).flatten
  | 0 => by
    rw [Nat.zero_mul]
    rfl
  | t + 1 => by
    rw [List.replicate_succ, List.flatten_cons, ← ww_rep hm t, Nat.succ_mul, Nat.add_comm]
    unfold WW
    rw [List.range_add, List.map_append, List.map_map]
    congr 1
    refine List.map_congr_left fun k _ => ?_
    show wl lc o m (m + k) = wl lc o m k
    unfold wl
    rw [Nat.add_comm m k, show k + m + 1 = (k + 1) + m by omega, ff_period hm, ff_period hm]
    by_cases h : FF o m k < FF o m (k + 1)
    · rw [if_pos h, if_pos (by omega)]
    · rw [if_neg h, if_neg (by omega)]
theorem count_rep (c : Nat) (cs : List Nat) : ∀ t, ((List.replicate t cs).flatten).count c = t * cs.count c
  | 0 => by simp
  | t + 1 => by
    rw [List.replicate_succ, List.flatten_cons, List.count_append, count_rep c cs t, Nat.succ_mul]
    omega
theorem ok_iff {z : Str} {k : Nat} (hk : k ≤ z.length) : okR z k = true ↔ (List.replicate (z.length / k) ((tl z).take k)).flatten = tl z := by
  unfold okR
  rw [decide_eq_true_iff]
  constructor
  · intro h
    have e := congrArg tl h
    rw [tl_mul, tl_take hk] at e
    exact e
  · intro h
    refine ext_tl ?_
    rw [tl_mul, tl_take hk]
    exact h
/-- the round of an even word, written once or more -/
theorem ww_round {lc o m e : Nat} {z : Str} (hm : 1 ≤ m) (ho : o ≤ m) (hl : lc ≠ 66) (he : 1 ≤ e) (hz : tl z = WW lc o m (e * m)) : rk z = m / Nat.gcd o m := by
  have g0 : 0 < Nat.gcd o m := Nat.gcd_pos_of_pos_right _ (by omega)
  have e1 : o / Nat.gcd o m * Nat.gcd o m = o := Nat.div_mul_cancel (Nat.gcd_dvd_left o m)
  have e2 : m / Nat.gcd o m * Nat.gcd o m = m := Nat.div_mul_cancel (Nat.gcd_dvd_right o m)
  have cop : Nat.gcd (o / Nat.gcd o m) (m / Nat.gcd o m) = 1 := by rw [Nat.gcd_div (Nat.gcd_dvd_left o m) (Nat.gcd_dvd_right o m), Nat.div_self g0]
  have pr : o / Nat.gcd o m ≤ m / Nat.gcd o m := Nat.div_le_div_right ho
  have wg := fun n => ww_gcd (lc := lc) (o := o) hm n
  generalize hg : Nat.gcd o m = g at g0 e1 e2 cop wg pr ⊢
  generalize hp : o / g = p at e1 cop wg pr
  generalize hr : m / g = r at e2 cop wg pr ⊢
  have r1 : 1 ≤ r := by
    rcases Nat.eq_zero_or_pos r with h | h
    · rw [h, Nat.zero_mul] at e2
      omega
    · exact h
  have zl : z.length = e * m := by rw [tl_len, hz, ww_len]
  have em : e * m = e * g * r := by rw [← e2, Nat.mul_comm r g, Nat.mul_assoc]
  have rz : r ≤ z.length := by
    rw [zl, em]
    exact Nat.le_mul_of_pos_left r (Nat.mul_pos he g0)
  have hz' : tl z = WW lc p r (e * g * r) := by rw [hz, ← wg, em]
  refine rk_eq r1 rz ((ok_iff rz).mpr ?_) fun j j1 jr => ?_
  · rw [zl, em, Nat.mul_div_cancel _ (by omega), hz', ww_take (Nat.le_mul_of_pos_left r (Nat.mul_pos he g0)), ← ww_rep r1]
  · cases h : okR z j with
    | false => rfl
    | true =>
      exfalso
      have jz : j ≤ z.length := by omega
      have rep := (ok_iff jz).mp h
      have lj := okR_len h jz
      generalize z.length / j = t at rep lj
      have jn : j ≤ e * g * r := by omega
      rw [hz', ww_take jn] at rep
      have c := congrArg (List.count lc) rep
      rw [count_rep, (ww_count r1 pr hl j).1, (ww_count r1 pr hl _).1] at c
      have f2 : FF p r (e * g * r) = e * g * p := by
        unfold FF
        rw [Nat.mul_assoc (e * g), Nat.mul_comm r p, ← Nat.mul_assoc, Nat.mul_div_cancel _ (by omega)]
      rw [f2] at c
      have t0 : 0 < t := by
        rcases Nat.eq_zero_or_pos t with h | h
        · rw [h, Nat.zero_mul] at lj
          omega
        · exact h
      have lj' : t * j = e * g * r := by rw [lj, zl, em]
      -- p * j = FF j * r
      have key : p * j = FF p r j * r := by
        have a : t * (p * j) = t * (FF p r j * r) := by
          have a1 : t * (p * j) = p * (t * j) := Nat.mul_left_comm _ _ _
          have a2 : t * (FF p r j * r) = (t * FF p r j) * r := (Nat.mul_assoc _ _ _).symm
          rw [a1, a2, c, lj', Nat.mul_assoc, Nat.mul_assoc, Nat.mul_left_comm p, Nat.mul_left_comm p, Nat.mul_assoc]
        exact Nat.eq_of_mul_eq_mul_left t0 a
      have dv : r ∣ p * j := ⟨FF p r j, by rw [key, Nat.mul_comm]⟩
      have dj : r ∣ j := Nat.Coprime.dvd_of_dvd_mul_left (Nat.Coprime.symm cop) dv
      have := Nat.le_of_dvd (by omega) dj
      omega
end Mm

set_option Elab.async false
set_option linter.all false
set_option maxRecDepth 100000
set_option maxHeartbeats 1000000
namespace Mm
open PySem PySem.Spec PyProof.Rows L2 Evl
open TL (tl tl_append joinL tl_join join_eq ext_tl)
theorem gr_ff (k o m : Nat) : grI (k : Int) (o : Int) (m : Int) = decide (FF o m k < FF o m (k + 1)) := by
  unfold grI FF
  rw [decide_eq_decide]
  have e1 : ((k : Int) + 1) * (o : Int) / (m : Int) = (((k + 1) * o / m : Nat) : Int) := by
    rw [Int.natCast_ediv, Int.natCast_mul, Int.natCast_add]
    rfl
  have e2 : (k : Int) * (o : Int) / (m : Int) = ((k * o / m : Nat) : Int) := by
    rw [Int.natCast_ediv, Int.natCast_mul]
  rw [e1, e2]
  omega
theorem ev_ww (lc o m : Nat) : evL lc (o : Int) (m : Int) = WW lc o m m := by
  unfold evL WW
  rw [Int.toNat_natCast]
  refine List.map_congr_left fun k _ => ?_
  unfold evC wl
  rw [gr_ff]
  by_cases h : FF o m k < FF o m (k + 1)
  · rw [if_pos (decide_eq_true h), if_pos h]
  · rw [if_neg (by rw [decide_eq_false h]; decide), if_neg h]
/-- the numbers of an even edge -/
structure Evn (d a : Int) (lc o m : Nat) : Prop where
  m1 : 1 ≤ m
  om : o ≤ m
  m2 : m ≤ 200
  c : lc = 78 ∧ d = m + o ∧ a = m - o ∧ 1 ≤ o ∨ lc = 84 ∧ d = m - o ∧ a = m + o
theorem Evn.ne {d a : Int} {lc o m : Nat} (h : Evn d a lc o m) : lc ≠ 66 := by
  rcases h.c with ⟨e, _⟩ | ⟨e, _⟩ <;> omega
theorem Evn.word {d a : Int} {lc o m : Nat} (h : Evn d a lc o m) : evT d a = WW lc o m m := by
  unfold evT
  have hc := h.c
  have e1 : absI (d - a) / 2 = (o : Int) := by
    unfold absI
    split <;> omega
  have e2 : (d + a) / 2 = (m : Int) := by omega
  have e3 : evLc d a = lc := by
    unfold evLc
    by_cases g : d > a
    · rw [if_pos (decide_eq_true g)]
      omega
    · rw [if_neg (by rw [decide_eq_false g]; decide)]
      omega
  rw [e1, e2, e3, ev_ww]
theorem Evn.no {d a : Int} {lc o m : Nat} (h : Evn d a lc o m) : evNo d a = false := by
  unfold evNo
  have := h.m1
  have hc := h.c
  rw [decide_eq_false (by omega), decide_eq_false (by omega)]
  rfl
theorem evn_of {d a : Int} (hd : 0 ≤ d ∧ d ≤ 200) (ha : 0 ≤ a ∧ a ≤ 200) (h : (d + a) % 2 = 0) (h0 : d + a ≠ 0) : ∃ lc o m, Evn d a lc o m := by
  by_cases g : d > a
  · exact ⟨78, ((d - a) / 2).toNat, ((d + a) / 2).toNat, by omega, by omega, by omega, Or.inl ⟨rfl, by omega, by omega, by omega⟩⟩
  · exact ⟨84, ((a - d) / 2).toNat, ((d + a) / 2).toNat, by omega, by omega, by omega, Or.inr ⟨rfl, by omega, by omega⟩⟩
theorem sum_ww {lc o m : Nat} (hm : 1 ≤ m) (ho : o ≤ m) : ∀ n, (lc = 78 → ((WW lc o m n).map dnC).sum = n + FF o m n ∧ ((WW lc o m n).map asC).sum = n - FF o m n) ∧ (lc = 84 → ((WW lc o m n).map dnC).sum = n - FF o m n ∧ ((WW lc o m n).map asC).sum = n + FF o m n)
  | 0 => by
    rw [ff_zero]
    exact ⟨fun _ => ⟨rfl, rfl⟩, fun _ => ⟨rfl, rfl⟩⟩
  | n + 1 => by
    obtain ⟨h1, h2⟩ := sum_ww hm ho n
    obtain ⟨s1, s2⟩ := ff_step hm ho n
    rw [ww_succ, List.map_append, List.map_append, List.sum_append, List.sum_append]
    unfold wl
    refine ⟨fun e => ?_, fun e => ?_⟩
    · obtain ⟨a1, a2⟩ := h1 e
      rw [a1, a2, e]
      split
      · show (n : Int) + FF o m n + (2 + 0) = ((n + 1 : Nat) : Int) + FF o m (n + 1) ∧ (n : Int) - FF o m n + (0 + 0) = ((n + 1 : Nat) : Int) - FF o m (n + 1)
        omega
      · show (n : Int) + FF o m n + (1 + 0) = ((n + 1 : Nat) : Int) + FF o m (n + 1) ∧ (n : Int) - FF o m n + (1 + 0) = ((n + 1 : Nat) : Int) - FF o m (n + 1)
        omega
    · obtain ⟨a1, a2⟩ := h2 e
      rw [a1, a2, e]
      split
      · show (n : Int) - FF o m n + (0 + 0) = ((n + 1 : Nat) : Int) - FF o m (n + 1) ∧ (n : Int) + FF o m n + (2 + 0) = ((n + 1 : Nat) : Int) + FF o m (n + 1)
        omega
      · show (n : Int) - FF o m n + (1 + 0) = ((n + 1 : Nat) : Int) - FF o m (n + 1) ∧ (n : Int) + FF o m n + (1 + 0) = ((n + 1 : Nat) : Int) + FF o m (n + 1)
        omega
theorem ff_all {o m : Nat} (hm : 1 ≤ m) : FF o m m = o := by
  unfold FF
  rw [Nat.mul_div_cancel_left _ (by omega)]
theorem Evn.fall {d a : Int} {lc o m : Nat} (h : Evn d a lc o m) {z : Str} (hz : tl z = WW lc o m m) : fallD z = .tuple [.int d, .int a] := by
  unfold fallD
  obtain ⟨s1, s2⟩ := sum_ww (lc := lc) h.m1 h.om m
  rw [ff_all h.m1] at s1 s2
  rw [hz]
  rcases h.c with ⟨e, hd, ha, _⟩ | ⟨e, hd, ha⟩
  · rw [(s1 e).1, (s1 e).2, ← hd, ← ha]
  · rw [(s2 e).1, (s2 e).2, ← hd, ← ha]
theorem Evn.all {d a : Int} {lc o m : Nat} (h : Evn d a lc o m) (n : Nat) : EvAll (WW lc o m n) := ⟨ww_even h.m1 h.om h.ne, ww_even h.m1 h.om h.ne, ww_even h.m1 h.om h.ne⟩
theorem Evn.swap {d a : Int} {lc o m : Nat} (h : Evn d a lc o m) : ∃ lc', Evn a d lc' o m := by
  have := h.om
  have := h.m1
  have := h.m2
  rcases h.c with ⟨e, hd, ha, _⟩ | ⟨e, hd, ha⟩
  · exact ⟨84, h.m1, h.om, h.m2, Or.inr ⟨rfl, ha, hd⟩⟩
  · rcases Nat.eq_zero_or_pos o with h0 | h0
    · exact ⟨84, h.m1, h.om, h.m2, Or.inr ⟨rfl, by omega, by omega⟩⟩
    · exact ⟨78, h.m1, h.om, h.m2, Or.inl ⟨rfl, ha, hd, h0⟩⟩
theorem Evn.edge {d a : Int} {lc o m : Nat} (h : Evn d a lc o m) {z : Str} {e : Nat} (hz : tl z = WW lc o m (e * m)) (e1 : 1 ≤ e) (e2 : e * m ≤ 200) : EdgeS z := by
  have := h.m1
  have l : 1 * 1 ≤ e * m := Nat.mul_le_mul e1 this
  refine edge_of hz (by rw [ww_len]; omega) (by rw [ww_len]; exact e2) fun c hc => ?_
  obtain ⟨k, _, rfl⟩ := List.mem_map.mp hc
  unfold wl isL
  rcases h.c with ⟨e, _⟩ | ⟨e, _⟩ <;> (rw [e]; split <;> simp)
/-- the round of an even edge, written once or more -/
theorem Evn.round {d a : Int} {lc o m : Nat} (h : Evn d a lc o m) {z : Str} {e : Nat} (hz : tl z = WW lc o m (e * m)) (e1 : 1 ≤ e) : tl (roundS z) = WW lc (o / Nat.gcd o m) (m / Nat.gcd o m) (m / Nat.gcd o m) := by
  unfold roundS
  have rk := ww_round h.m1 h.om h.ne e1 hz
  rw [rk]
  have le : m / Nat.gcd o m ≤ e * m := Nat.le_trans (Nat.div_le_self _ _) (Nat.le_mul_of_pos_left m e1)
  rw [tl_take (by rw [tl_len, hz, ww_len]; exact le), hz, ww_take le, ww_gcd h.m1]
theorem Evn.own {d a : Int} {lc o m : Nat} (h : Evn d a lc o m) : ∃ x y : Int, Evn x y lc (o / Nat.gcd o m) (m / Nat.gcd o m) := by
  have g0 : 0 < Nat.gcd o m := Nat.gcd_pos_of_pos_right _ (by have := h.m1; omega)
  have pr : o / Nat.gcd o m ≤ m / Nat.gcd o m := Nat.div_le_div_right h.om
  have e1 : o / Nat.gcd o m * Nat.gcd o m = o := Nat.div_mul_cancel (Nat.gcd_dvd_left o m)
  have e2 : m / Nat.gcd o m * Nat.gcd o m = m := Nat.div_mul_cancel (Nat.gcd_dvd_right o m)
  have r2 : m / Nat.gcd o m ≤ m := Nat.div_le_self _ _
  have m2 := h.m2
  have m1 := h.m1
  generalize Nat.gcd o m = g at g0 pr e1 e2 r2 ⊢
  generalize o / g = p at pr e1 ⊢
  generalize m / g = r at pr e2 r2 ⊢
  have r1 : 1 ≤ r := by
    rcases Nat.eq_zero_or_pos r with q | q
    · rw [q, Nat.zero_mul] at e2
      omega
    · exact q
  rcases h.c with ⟨e, hd, ha, o1⟩ | ⟨e, hd, ha⟩
  · have p1 : 1 ≤ p := by
      rcases Nat.eq_zero_or_pos p with q | q
      · rw [q, Nat.zero_mul] at e1
        omega
      · exact q
    exact ⟨r + p, r - p, r1, pr, by omega, Or.inl ⟨e, rfl, rfl, p1⟩⟩
  · exact ⟨r - p, r + p, r1, pr, by omega, Or.inr ⟨e, rfl, rfl⟩⟩
/-! ### where its letters other than B stand -/
def cc (o m j : Nat) : Nat := (j * m + o - 1) / o
theorem ff_lo {o m : Nat} (hm : 1 ≤ m) (n : Nat) : FF o m n * m ≤ n * o ∧ n * o < (FF o m n + 1) * m := by
  unfold FF
  have h1 := Nat.div_add_mod (n * o) m
  have l1 := Nat.mod_lt (n * o) (show 0 < m by omega)
  have e : n * o / m * m = m * (n * o / m) := Nat.mul_comm _ _
  rw [Nat.add_mul]
  omega
theorem cc_at {o m n : Nat} (hm : 1 ≤ m) (ho : 1 ≤ o) (h : FF o m n < FF o m (n + 1)) (hs : FF o m (n + 1) ≤ FF o m n + 1) : cc o m (FF o m n + 1) = n + 1 := by
  obtain ⟨a1, a2⟩ := ff_lo (o := o) hm n
  obtain ⟨b1, b2⟩ := ff_lo (o := o) hm (n + 1)
  have e : FF o m (n + 1) = FF o m n + 1 := by omega
  rw [e] at b1
  unfold cc
  have c1 : (n + 1) * o = n * o + o := Nat.succ_mul n o
  generalize (FF o m n + 1) * m = X at a2 b1 ⊢
  have u : X + o - 1 = (n + 1) * o + (X - n * o - 1) := by omega
  have v : X - n * o - 1 < o := by omega
  rw [u, Nat.add_comm, Nat.add_mul_div_right _ _ (by omega), Nat.div_eq_of_lt v]
  omega
theorem ends_eq {o m : Nat} (hm : 1 ≤ m) (om : o ≤ m) (ho : 1 ≤ o) : ∀ n, ((List.range n).filter fun k => decide (FF o m k < FF o m (k + 1))).map (· + 1) = (List.range (FF o m n)).map fun j => cc o m (j + 1)
  | 0 => by
    rw [ff_zero]
    rfl
  | n + 1 => by
    have ih := ends_eq hm om ho n
    obtain ⟨s1, s2⟩ := ff_step hm om n
    rw [List.range_succ, List.filter_append, List.map_append, ih]
    by_cases h : FF o m n < FF o m (n + 1)
    · have e : FF o m (n + 1) = FF o m n + 1 := by omega
      rw [e, List.range_succ (n := FF o m n), List.map_append]
      congr 1
      have f : List.filter (fun k => decide (FF o m k < FF o m (k + 1))) [n] = [n] := by
        simp [h]
      rw [f]
      show [n + 1] = [cc o m (FF o m n + 1)]
      rw [cc_at hm ho h s2]
    · have e : FF o m (n + 1) = FF o m n := by omega
      have f : List.filter (fun k => decide (FF o m k < FF o m (k + 1))) [n] = [] := by
        simp [h]
      rw [f, e]
      simp
theorem cc_zero {o m : Nat} (ho : 1 ≤ o) : cc o m 0 = 0 := by
  unfold cc
  rw [Nat.zero_mul]
  exact Nat.div_eq_of_lt (by omega)
theorem cc_gg {o m i : Nat} (ho : 1 ≤ o) (hi : i ≤ o) : cc o m (o - i) + i * m / o = m := by
  unfold cc
  have h1 := Nat.div_add_mod (i * m) o
  have l1 := Nat.mod_lt (i * m) (show 0 < o by omega)
  have le : i * m / o ≤ m := by
    have : i * m / o ≤ o * m / o := Nat.div_le_div_right (Nat.mul_le_mul_right m hi)
    rw [Nat.mul_div_cancel_left _ (by omega)] at this
    exact this
  generalize hq : i * m / o = q at h1 le ⊢
  generalize i * m % o = s at h1 l1
  have e0 : (o - i) * m = o * m - i * m := Nat.sub_mul _ _ _
  have e1 : o * m = o * q + o * (m - q) := by
    rw [← Nat.mul_add]
    congr 1
    omega
  have e : (o - i) * m + o - 1 = (o - 1 - s) + (m - q) * o := by
    rw [e0, Nat.mul_comm (m - q) o]
    have lim : i * m ≤ o * m := Nat.mul_le_mul_right m hi
    have bound : s ≤ o * (m - q) := by
      rw [← h1, e1] at lim
      omega
    omega
  rw [e, Nat.add_mul_div_right _ _ (by omega), Nat.div_eq_of_lt (by omega)]
  omega
def gapI (o m j : Nat) : Int := (cc o m (j + 1) : Int) - cc o m j
theorem tk_nat (o m i : Nat) : tkI (o : Int) (m : Int) (i : Int) = ((i + 1) * m / o : Nat) - ((i * m / o : Nat) : Int) := by
  unfold tkI
  rw [Int.natCast_ediv, Int.natCast_ediv, Int.natCast_mul, Int.natCast_mul, Int.natCast_add]
  rfl
theorem rev_range {α : Type} (f : Nat → α) (n : Nat) : ((List.range n).map f).reverse = (List.range n).map fun i => f (n - 1 - i) := by
  apply List.ext_getElem
  · simp
  · intro i h1 h2
    rw [List.getElem_reverse]
    simp
theorem gaps_rev {o m : Nat} (ho : 1 ≤ o) : ((List.range o).map (gapI o m)).reverse = (List.range o).map fun i : Nat => tkI (o : Int) (m : Int) (i : Int) := by
  rw [rev_range]
  refine List.map_congr_left fun i hi => ?_
  have hi := List.mem_range.mp hi
  have a := cc_gg (m := m) ho (show i ≤ o by omega)
  have b := cc_gg (m := m) ho (show i + 1 ≤ o by omega)
  rw [tk_nat]
  unfold gapI
  rw [show o - 1 - i + 1 = o - i by omega, show o - 1 - i = o - (i + 1) by omega]
  omega
theorem gaps_sum {o m : Nat} (ho : 1 ≤ o) : ((List.range o).map (gapI o m)).sum = m := by
  have key : ∀ n, ((List.range n).map (gapI o m)).sum = cc o m n := by
    intro n
    induction n with
    | zero => rw [cc_zero ho]; rfl
    | succ n ih =>
      rw [List.range_succ, List.map_append, List.sum_append, ih]
      unfold gapI
      simp
      omega
  rw [key]
  have := cc_gg (m := m) ho (Nat.zero_le o)
  rw [Nat.sub_zero, Nat.zero_mul, Nat.zero_div] at this
  omega
/-! ### two letters exchanged -/
theorem sum_set (f : Nat → Int) : ∀ (l : List Nat) (i : Nat) (h : i < l.length) (v : Nat), ((l.set i v).map f).sum = (l.map f).sum - f l[i] + f v
  | x :: l, 0, _, v => by
    simp
    omega
  | x :: l, i + 1, h, v => by
    have := sum_set f l i (by simpa using h) v
    simp only [List.set_cons_succ, List.map_cons, List.sum_cons, List.getElem_cons_succ, this]
    omega
theorem swap_sum (f : Nat → Int) {l : List Nat} {i j : Nat} (hi : i < l.length) (hj : j < l.length) (ne : i ≠ j) : (((l.set i l[j]).set j l[i]).map f).sum = (l.map f).sum := by
  rw [sum_set f _ j (by rw [List.length_set]; exact hj), sum_set f _ i hi, List.getElem_set_ne ne]
  omega
end Mm

set_option Elab.async false
set_option linter.all false
set_option maxRecDepth 100000
set_option maxHeartbeats 4000000
namespace Mm
open PySem PySem.Spec PyProof.Rows L2 Evl
open TL (tl tl_append joinL tl_join join_eq ext_tl)
/-! ### sum of a tuple of numbers -/
section
variable {prog : Program} {w : World} {A : Around} {E : Value → Shared → Prop} {s : Shared} {l : Addr} {its : List Value} {ns : List Int} {Q : Value → Shared → Prop}
theorem sum_rawT (hh : A.handled = none) (hl : s.heap.IsTuple l its.toArray) (hi : PyProof.Rows.IntsAre its ns)
    (h : ∀ h' tk t', (∀ b o, s.heap.get? b = some o → h'.get? b = some o) → Q (.int ns.sum t') { s with heap := h', toks := tk }) : wpAny (model prog w) A (call (.builtin "sum") [.ref l]) Q E s := by
  obtain ⟨xs, e⟩ := hi.allInts.items
  have hn : PySem.numsOf (intItems xs).toList = ns := by rw [← e]; exact hi.numsOf
  rw [nums_intItems] at hn
  rw [e] at hl
  have lt : l < s.heap.objs.size := by
    obtain ⟨_, e, _⟩ := hl
    exact Heap.lt_size e
  refine call_sum_walkG (wpAny_pyIter_tuple hl ?_)
  refine ⟨_, _, _, _, _, _, numAt xs, rfl, Walks.tuple (A := A.in1) hh _ l (Nat.ne_of_lt lt) (intItems xs), ⟨⟨_, Heap.get?_push_size _ rfl, rfl, rfl⟩, hl.push _⟩, fun b hb => ?_, fun _ _ => intItems_at, fun h' tk t' hk => ?_⟩
  · show b < (s.heap.push _).objs.size
    rw [Heap.size_push]
    rcases List.mem_cons.mp hb with rfl | hb
    · exact Nat.lt_succ_self _
    · rw [List.mem_singleton.mp hb]
      exact Nat.lt_succ_of_lt lt
  · have := h h' tk t' (fun b o e => hk b o (fun hm => by
      rw [List.mem_singleton.mp hm] at e
      exact absurd (Heap.lt_size e) (Nat.lt_irrefl _)) (Heap.get?_push_of_some _ e))
    rw [show (intItems xs).size = xs.size by simp [intItems], preSum_eq, List.take_of_length_le (by simp), hn]
    exact this
end
def rSumT (K : PySem.W.Frag) : List V → Hp → VK → Prop := fun vs H Q => ∃ (a : Addr) (ns : List Int), vs = [V.ref a] ∧ SqT K H a (ns.map V.int) ∧ Q (.int ns.sum) H
section
variable {X : Cx} {K : PySem.W.Frag} {ns : List Int} {m : Int} {b : Bool}
theorem fr_sumT (h : X.K = K) (hc : X.calm = true) : CallR X (.builtin "sum") (rSumT K) := by
  subst h
  intro pins s σ H vs us Q I r h
  obtain ⟨a, ns, rfl, hs, q⟩ := h
  obtain ⟨its, rv, hl, _⟩ := I.tuple hs
  rw [Vals.ref1 r]
  exact sum_rawT (I.ok.hd hc) hl (intsAre_of rv) fun h' tk t' hk => ⟨.int _, H, I.kept hk, ⟨_, rfl⟩, q⟩
theorem cd_sumT : CallD K (rSumT K) [.tuple (ns.map .int)] (.int ns.sum) := fun H1 xs hx Q q => by
  cases hx with
  | cons h t =>
    cases t
    obtain ⟨a, ys, rfl, ht, ha⟩ := dp_tupI h
    rw [ints_only ha] at ht
    exact ⟨a, ns, rfl, ht, q _ H1 (Ex.refl H1) (.int _)⟩
theorem fr_maxLK (h : X.K = K) (hc : X.calm = true) : CallR X (.builtin "max") (rMax K) := h ▸ cr_max hc
theorem fr_minLK (h : X.K = K) (hc : X.calm = true) : CallR X (.builtin "min") (rMin K) := h ▸ cr_min hc
theorem cd_maxL (hm : m ∈ ns) (hl : ∀ y ∈ ns, y ≤ m) : CallD K (rMax K) [.list (ns.map .int)] (.int m) := fun H1 xs hx Q q => by
  cases hx with
  | cons h t =>
    cases t
    obtain ⟨a, ys, rfl, ht, ha⟩ := dp_lstI h
    rw [ints_only ha] at ht
    refine ⟨a, ns, rfl, ht, List.length_pos_of_mem hm, fun m' h1 h2 => ?_⟩
    have e : m' = m := by
      have := hl m' h1
      have := h2 m hm
      omega
    rw [e]
    exact q _ H1 (Ex.refl H1) (.int _)
theorem cd_minL (hm : m ∈ ns) (hl : ∀ y ∈ ns, m ≤ y) : CallD K (rMin K) [.list (ns.map .int)] (.int m) := fun H1 xs hx Q q => by
  cases hx with
  | cons h t =>
    cases t
    obtain ⟨a, ys, rfl, ht, ha⟩ := dp_lstI h
    rw [ints_only ha] at ht
    refine ⟨a, ns, rfl, ht, List.length_pos_of_mem hm, fun m' h1 h2 => ?_⟩
    have e : m' = m := by
      have := hl m' h1
      have := h2 m hm
      omega
    rw [e]
    exact q _ H1 (Ex.refl H1) (.int _)
end
theorem has_max : ∀ ns : List Int, ns ≠ [] → ∃ m ∈ ns, ∀ y ∈ ns, y ≤ m
  | [x], _ => ⟨x, List.mem_cons_self, fun y hy => by rw [List.mem_singleton.mp hy]; exact Int.le_refl _⟩
  | x :: y :: r, _ => by
    obtain ⟨m, h1, h2⟩ := has_max (y :: r) (by simp)
    by_cases c : m ≤ x
    · exact ⟨x, List.mem_cons_self, fun z hz => by
        rcases List.mem_cons.mp hz with rfl | h
        · exact Int.le_refl _
        · have := h2 z h
          omega⟩
    · exact ⟨m, List.mem_cons_of_mem _ h1, fun z hz => by
        rcases List.mem_cons.mp hz with rfl | h
        · omega
        · exact h2 z h⟩
theorem has_min (ns : List Int) (h : ns ≠ []) : ∃ m ∈ ns, ∀ y ∈ ns, m ≤ y := by
  obtain ⟨m, h1, h2⟩ := has_max (ns.map fun x => -x) (by simpa using h)
  obtain ⟨x, hx, rfl⟩ := List.mem_map.mp h1
  refine ⟨x, hx, fun y hy => ?_⟩
  have := h2 (-y) (List.mem_map.mpr ⟨y, hy, rfl⟩)
  omega
/-! ### is a word spread evenly -/
open Classical in
noncomputable def evB (c : Nat) (cs : List Nat) : Bool := decide (EvIn c cs)
noncomputable def evA (cs : List Nat) : Bool := [evB 78 cs, evB 84 cs, evB 66 cs].all id
open Classical in
theorem evB_true {c : Nat} {cs : List Nat} (h : EvIn c cs) : evB c cs = true := by unfold evB; exact decide_eq_true h
open Classical in
theorem evB_false {c : Nat} {cs : List Nat} (h : ¬ EvIn c cs) : evB c cs = false := by unfold evB; exact decide_eq_false h
theorem evA_true {cs : List Nat} (h : EvAll cs) : evA cs = true := by
  unfold evA
  rw [evB_true h.1, evB_true h.2.1, evB_true h.2.2]
  rfl
noncomputable def REvIn (ds : List PyData) (d : PyData) : Prop := ∃ (z : Str) (c : Nat), EdgeS z ∧ isL c ∧ ds = [.str z, .str (sg c)] ∧ d = .bool (evB c (tl z))
noncomputable def RIsEven (ds : List PyData) (d : PyData) : Prop := ∃ z : Str, EdgeS z ∧ ds = [.str z] ∧ d = .bool (evA (tl z))
def sumsD (c : Nat) (cs : List Nat) (n : Nat) : List PyData := (List.range (n + 1)).map fun k => .int (pre c cs k : Int)
def gapL (c : Nat) (cs : List Nat) (s : Nat) : List Int := (List.range (cs.length + 1 - s)).map fun k => (pre c cs (k + s) : Int) - pre c cs k
theorem sums_len (c : Nat) (cs : List Nat) (n : Nat) : (sumsD c cs n).length = n + 1 := by unfold sumsD; rw [List.length_map, List.length_range]
theorem sums_at {c : Nat} {cs : List Nat} {n k : Nat} (h : k ≤ n) : (sumsD c cs n)[k]? = some (.int (pre c cs k : Int)) := by
  unfold sumsD
  rw [List.getElem?_map, List.getElem?_range (by omega)]
  rfl
theorem sums_succ (c : Nat) (cs : List Nat) (n : Nat) : sumsD c cs (n + 1) = sumsD c cs n ++ [.int (pre c cs (n + 1) : Int)] := by
  unfold sumsD
  rw [List.range_succ, List.map_append]
  rfl
theorem pre_succ {c x : Nat} {cs : List Nat} {i : Nat} (h : cs[i]? = some x) : pre c cs (i + 1) = pre c cs i + (if x = c then 1 else 0) := by
  unfold pre
  rw [List.take_add_one, h, List.count_append]
  show _ + List.count c [x] = _
  rw [List.count_singleton]
  by_cases e : x = c
  · rw [if_pos e, e]
    simp
  · rw [if_neg e]
    simp [e]
theorem gap_mem {c : Nat} {cs : List Nat} {s : Nat} {x : Int} (h : x ∈ gapL c cs s) (hs : s ≤ cs.length) : ∃ i, i + s ≤ cs.length ∧ x = ((pre c cs (i + s) - pre c cs i : Nat) : Int) := by
  obtain ⟨k, hk, rfl⟩ := List.mem_map.mp h
  have := List.mem_range.mp hk
  have m := pre_mono c cs (Nat.le_add_right k s)
  exact ⟨k, by omega, by omega⟩
theorem gap_bad {c : Nat} {cs : List Nat} {s : Nat} {x y : Int} (hs : s ≤ cs.length) (hx : x ∈ gapL c cs s) (hy : y ∈ gapL c cs s) (h : x - y > 1) : evB c cs = false := by
  refine evB_false fun ev => ?_
  obtain ⟨i, hi, rfl⟩ := gap_mem hx hs
  obtain ⟨j, hj, rfl⟩ := gap_mem hy hs
  have := ev s i j hi hj
  omega
theorem gap_ok {c : Nat} {cs : List Nat} {s : Nat} {mx mn : Int} (h1 : ∀ y ∈ gapL c cs s, y ≤ mx) (h2 : ∀ y ∈ gapL c cs s, mn ≤ y) (h : ¬ (mx - mn > 1)) : ∀ i j, i + s ≤ cs.length → j + s ≤ cs.length → pre c cs (i + s) - pre c cs i ≤ pre c cs (j + s) - pre c cs j + 1 := fun i j hi hj => by
  have a := h1 _ (List.mem_map.mpr ⟨i, List.mem_range.mpr (by omega), rfl⟩)
  have b := h2 _ (List.mem_map.mpr ⟨j, List.mem_range.mpr (by omega), rfl⟩)
  have m1 := pre_mono c cs (Nat.le_add_right i s)
  have m2 := pre_mono c cs (Nat.le_add_right j s)
  omega
theorem gap_end {c : Nat} {cs : List Nat} (h : ∀ s, 1 ≤ s → s < cs.length → ∀ i j, i + s ≤ cs.length → j + s ≤ cs.length → pre c cs (i + s) - pre c cs i ≤ pre c cs (j + s) - pre c cs j + 1) : evB c cs = true := by
  refine evB_true fun s i j hi hj => ?_
  rcases Nat.eq_zero_or_pos s with rfl | h1
  · rw [Nat.add_zero, Nat.add_zero]
    omega
  · by_cases h2 : s < cs.length
    · exact h s h1 h2 i j hi hj
    · obtain rfl : i = 0 := by omega
      obtain rfl : j = 0 := by omega
      omega
def pairSub : PyData → PyData
  | .tuple [.int a, .int b] => .int (b - a)
  | _ => .none
theorem zip_gaps {c : Nat} {cs : List Nat} {s : Nat} (hs : s ≤ cs.length) : picked (fun _ => true) pairSub (zipD (sumsD c cs cs.length) ((sumsD c cs cs.length).drop s)) = (gapL c cs s).map .int := by
  unfold picked
  rw [List.filter_eq_self.mpr (fun _ _ => rfl)]
  apply List.ext_getElem?
  intro k
  unfold zipD
  rw [List.getElem?_map, List.getElem?_zipWith, List.getElem?_drop, List.getElem?_map]
  unfold gapL
  rw [List.getElem?_map]
  by_cases h : k + s ≤ cs.length
  · rw [sums_at (show k ≤ cs.length by omega), sums_at (show s + k ≤ cs.length by omega), List.getElem?_range (by omega)]
    show some (PyData.int ((pre c cs (s + k) : Int) - pre c cs k)) = some (PyData.int ((pre c cs (k + s) : Int) - pre c cs k))
    rw [Nat.add_comm s k]
  · have e : (sumsD c cs cs.length)[s + k]? = none := List.getElem?_eq_none (by rw [sums_len]; omega)
    have e2 : (List.range (cs.length + 1 - s))[k]? = none := List.getElem?_eq_none (by rw [List.length_range]; omega)
    rw [e, e2]
    cases (sumsD c cs cs.length)[k]? <;> rfl
theorem zip_mem {c : Nat} {cs : List Nat} {s : Nat} {e : PyData} (h : e ∈ zipD (sumsD c cs cs.length) ((sumsD c cs cs.length).drop s)) : ∃ a b : Int, e = .tuple [.int a, .int b] := by
  obtain ⟨k, hk⟩ := List.mem_iff_getElem?.mp h
  unfold zipD at hk
  rw [List.getElem?_zipWith, List.getElem?_drop] at hk
  unfold sumsD at hk
  rw [List.getElem?_map, List.getElem?_map] at hk
  cases h1 : (List.range (cs.length + 1))[k]? with
  | none => rw [h1] at hk; cases hk
  | some a =>
    cases h2 : (List.range (cs.length + 1))[s + k]? with
    | none => rw [h1, h2] at hk; cases hk
    | some b =>
      rw [h1, h2] at hk
      exact ⟨_, _, (Option.some.inj hk).symm⟩
theorem gap_ne {c : Nat} {cs : List Nat} {s : Nat} (hs : s ≤ cs.length) : gapL c cs s ≠ [] := by
  intro h
  have := congrArg List.length h
  unfold gapL at this
  rw [List.length_map, List.length_range] at this
  simp at this
  omega
end Mm

set_option Elab.async false
set_option linter.all false
set_option maxRecDepth 100000
set_option maxHeartbeats 4000000
/-! words read backwards -/
namespace Mm
open PySem PySem.Spec PyProof.Rows L2 Evl
open TL (tl tl_append)
theorem pre_revC (c : Nat) (cs : List Nat) {k : Nat} (h : k ≤ cs.length) : pre c cs.reverse k + pre c cs (cs.length - k) = cs.count c := by
  unfold pre
  rw [List.take_reverse, List.count_reverse]
  have e := congrArg (List.count c) (List.take_append_drop (cs.length - k) cs)
  rw [List.count_append] at e
  omega
theorem evIn_rev {c : Nat} {cs : List Nat} (h : EvIn c cs) : EvIn c cs.reverse := fun s i j hi hj => by
  rw [List.length_reverse] at hi hj
  have a1 := pre_revC c cs (k := i + s) hi
  have a2 := pre_revC c cs (k := i) (by omega)
  have a3 := pre_revC c cs (k := j + s) hj
  have a4 := pre_revC c cs (k := j) (by omega)
  have k := h s (cs.length - (i + s)) (cs.length - (j + s)) (by omega) (by omega)
  rw [show cs.length - (i + s) + s = cs.length - i by omega, show cs.length - (j + s) + s = cs.length - j by omega] at k
  have m1 := pre_mono c cs (show cs.length - (i + s) ≤ cs.length - i by omega)
  have m2 := pre_mono c cs (show cs.length - (j + s) ≤ cs.length - j by omega)
  have m3 := pre_mono c cs.reverse (show i ≤ i + s by omega)
  have m4 := pre_mono c cs.reverse (show j ≤ j + s by omega)
  omega
theorem evB_rev (c : Nat) (cs : List Nat) : evB c cs.reverse = evB c cs := by
  by_cases h : EvIn c cs
  · rw [evB_true h, evB_true (evIn_rev h)]
  · rw [evB_false h, evB_false fun k => h (by have := evIn_rev k; rwa [List.reverse_reverse] at this)]
theorem evA_rev (cs : List Nat) : evA cs.reverse = evA cs := by
  unfold evA
  rw [evB_rev, evB_rev, evB_rev]
theorem edge_rev {z : Str} (h : EdgeS z) : EdgeS (mkS (tl z).reverse) := by
  have h1 := h.1.1
  have h2 := h.1.2
  rw [tl_len] at h1 h2
  exact edge_of (cs := (tl z).reverse) rfl (by rw [List.length_reverse]; exact h1) (by rw [List.length_reverse]; exact h2) fun c hc => h.2 c (List.mem_reverse.mp hc)
theorem edge_take {z : Str} (h : ∀ c ∈ tl z, isL c) (h1 : 1 ≤ z.length) {k : Nat} (hk : 1 ≤ k) (hk2 : k ≤ 200) : EdgeS (cutS z none (some (k : Int))) := by
  refine edge_of (cs := (tl z).take (min k z.length)) tl_takeM ?_ ?_ fun c hc => h c (List.mem_of_mem_take hc)
  · rw [List.length_take, ← tl_len]
    omega
  · rw [List.length_take, ← tl_len]
    omega
theorem isL_B : ∀ c ∈ tl (Str.ofString "B"), isL c := by decide
theorem edge_lblb {lc : Nat} (hl : isL lc) {m r : Nat} (hm : m ≤ 97) (hr : r ≤ 2) : EdgeS (sg lc ++ Txt.mul (Str.ofString "B") (m : Int) ++ sg lc ++ Txt.mul (Str.ofString "B") ((m : Int) + (r : Int))) := by
  have lB : (Str.ofString "B").length = 1 := rfl
  have lS : (sg lc).length = 1 := rfl
  rw [show ((m : Int) + (r : Int)) = ((m + r : Nat) : Int) by omega]
  have mB : ∀ (n : Nat) c, c ∈ tl (Txt.mul (Str.ofString "B") (n : Int)) → isL c := fun n c hc => by
    rw [tl_mul] at hc
    obtain ⟨l, hl', hc⟩ := List.mem_flatten.mp hc
    rw [List.eq_of_mem_replicate hl'] at hc
    exact isL_B c hc
  refine ⟨⟨?_, ?_⟩, fun c hc => ?_⟩
  · rw [len_addS, len_addS, len_addS, lS]
    omega
  · rw [len_addS, len_addS, len_addS, len_mul, len_mul, lS, lB]
    omega
  · rw [tl_append, tl_append, tl_append] at hc
    have one : ∀ c ∈ tl (sg lc), isL c := fun c hc => by
      rw [show c = lc by simpa [sg, TL.tl] using hc]
      exact hl
    rcases List.mem_append.mp hc with hc | hc
    · rcases List.mem_append.mp hc with hc | hc
      · rcases List.mem_append.mp hc with hc | hc
        · exact one c hc
        · exact mB _ c hc
      · exact one c hc
    · exact mB _ c hc
end Mm

set_option Elab.async false
set_option linter.all false
set_option maxRecDepth 100000
set_option maxHeartbeats 4000000
namespace K22
open PySem PySem.Spec PyProof.Rows L2 Evl Mm
open TL (tl tl_append)
def topS (i : Nat) : Stmt := PySem.Challenge.pw_meshmend_k22_what_is_spread_evenly.main.body.getD i (.Pass ⟨0, 0, 0, 0⟩)
abbrev s_p_is_even : Stmt := topS 2
theorem sc_p_is_even : FnScope ["edge", "letter"] ["edge"] (defScope s_p_is_even) := ⟨rfl, rfl, rfl, by decide +kernel, rfl, by decide +kernel, by decide +kernel⟩
abbrev N_p_is_even : List Str := ["edge", "letter"]
abbrev s_p__is_even_in : Stmt := topS 3
theorem sc_p__is_even_in : FnScope ["edge", "letter", "counts", "sign", "size", "found", "ahead", "behind"] ["edge", "letter"] (defScope s_p__is_even_in) := ⟨rfl, rfl, rfl, by decide +kernel, rfl, by decide +kernel, by decide +kernel⟩
abbrev N_p__is_even_in : List Str := ["edge", "letter", "counts", "sign", "size", "found", "ahead", "behind"]
abbrev s_deck : Stmt := topS 5
theorem sc_deck : FnScope ["_law_script"] ["_law_script"] (defScope s_deck) := ⟨rfl, rfl, rfl, by decide +kernel, rfl, by decide +kernel, by decide +kernel⟩
abbrev N_deck : List Str := ["_law_script"]
abbrev s_draw : Stmt := topS 6
theorem sc_draw : FnScope ["_law_deck_here", "_law_many", "_law_found", "_law_cell", "_law_mixed"] ["_law_deck_here", "_law_many"] (defScope s_draw) := ⟨rfl, rfl, rfl, by decide +kernel, rfl, by decide +kernel, by decide +kernel⟩
abbrev N_draw : List Str := ["_law_deck_here", "_law_many", "_law_found", "_law_cell", "_law_mixed"]
abbrev s_one : Stmt := topS 7
theorem sc_one : FnScope ["_law_deck_here", "_law_items"] ["_law_deck_here", "_law_items"] (defScope s_one) := ⟨rfl, rfl, rfl, by decide +kernel, rfl, by decide +kernel, by decide +kernel⟩
abbrev N_one : List Str := ["_law_deck_here", "_law_items"]
abbrev s_edge : Stmt := topS 8
theorem sc_edge : FnScope ["_law_deck_here", "_law_most", "_law_size", "_law_way", "_law_letters", "_law_k", "_law_part", "_law_odd", "_law_found", "_law_at", "_law_to", "_law_turn"] ["_law_deck_here", "_law_most"] (defScope s_edge) := ⟨rfl, rfl, rfl, by decide +kernel, rfl, by decide +kernel, by decide +kernel⟩
abbrev N_edge : List Str := ["_law_deck_here", "_law_most", "_law_size", "_law_way", "_law_letters", "_law_k", "_law_part", "_law_odd", "_law_found", "_law_at", "_law_to", "_law_turn"]
abbrev s_is_even : Stmt := topS 9
theorem sc_is_even : FnScope ["_law_edge_here", "_law_letter", "_law_sums", "_law_sign", "_law_long", "_law_counts", "_law_k"] ["_law_edge_here"] (defScope s_is_even) := ⟨rfl, rfl, rfl, by decide +kernel, rfl, by decide +kernel, by decide +kernel⟩
abbrev N_is_even : List Str := ["_law_edge_here", "_law_letter", "_law_sums", "_law_sign", "_law_long", "_law_counts", "_law_k"]
abbrev s_law : Stmt := topS 10
theorem sc_law : FnScope ["_law_script", "_law_deck_here", "_law_turn", "_law_many", "_law_letter", "_law_more", "_law_edge_here", "_law_value"] ["_law_script"] (defScope s_law) := ⟨rfl, rfl, rfl, by decide +kernel, rfl, by decide +kernel, by decide +kernel⟩
abbrev N_law : List Str := ["_law_script", "_law_deck_here", "_law_turn", "_law_many", "_law_letter", "_law_more", "_law_edge_here", "_law_value"]
section
variable {P : Program} {w : World} {K : PySem.W.Frag} {mg : Str → Option Value} {base : Heap}
theorem c_deck (T : Def K mg "_law_deck" s_deck) (B : Bl mg) : Cal P w K mg base 1 "_law_deck" (spDeck K) := by
  refine cal_via (k := 0) (sp0 := spDeck0 K) T sc_deck (fun F => deck_up rfl F) (fun _ _ _ _ _ _ us hl => match us, hl with | [_], _ => rfl) (fun vs H Q E h => ?_) (fun f cdv A outer s H vs Q E hr h => ?_)
  · obtain ⟨a, ns, rfl, _⟩ := h
    rfl
  obtain ⟨a, ns, rfl, hs, sm, q⟩ := h
  have nd := sc_deck.nd
  refine ⟨_, (pss_one (ps_ret (pe_lst (pa_cons (pe_callTy (fr_lstK (K := K) rfl) (by rfl) B.b_list (by decide +kernel) (pa_cons (pe_slice (sl_listK (K := K) rfl) (pv 0) po_none (po_some pe_int)) pa_nil)) (pa_cons pe_int (pa_cons pe_int (pa_cons pe_int pa_nil))))))), ?_⟩
  refine ⟨.ref a, rfl, 63, rfl, a, _, rfl, hs, fun p np => ?_⟩
  refine ⟨p, _, rfl, Or.inl (SqL.of upd_same), fun l nl => ⟨by show 4 ≤ sizeLine; decide, fun d nd => ?_⟩⟩
  have lp : l ≠ p := fun e => by
    rw [e, upd_same] at nl
    cases nl
  have e1 : Ex H (upd H p (.lst (cutV (ns.map V.int) none (some 63)))) := Ex.new np
  have e2 : Ex (upd H p (.lst (cutV (ns.map V.int) none (some 63)))) (upd (upd H p (.lst (cutV (ns.map V.int) none (some 63)))) l (.lst (cutV (ns.map V.int) none (some 63)))) := Ex.new nl
  have ld : l ≠ d := fun e => by
    rw [← e, upd_same] at nd
    cases nd
  have cut : cutV (ns.map V.int) none (some 63) = ns.map V.int := cut63 (by rw [List.length_map]; exact sm)
  refine q d l _ (e1.trans (e2.trans (Ex.new nd))) (fresh_back (e1.trans e2) nd) upd_same ?_ ld
  rw [upd_ne ld, upd_same, cut]

theorem c_draw (T : Def K mg "_law_draw" s_draw) (B : Bl mg) : Cal P w K mg base 1 "_law_draw" spDraw := by
  refine cal_via (k := 0) (sp0 := spDraw0) T sc_draw (fun F => draw_up rfl F) (fun _ _ _ _ _ _ us hl => match us, hl with | [_, _], _ => rfl) (fun vs H Q E h => ?_) (fun f cdv A outer s H vs Q E hr h => ?_)
  · obtain ⟨D, L, ns, b, many, i, r, n, rfl, _⟩ := h
    rfl
  obtain ⟨D, L, ns, b, many, i, r, n, rfl, hD, hL, sm, kn, hb, h1, h2, q⟩ := h
  obtain ⟨k1, k2, k3, k4, k5⟩ := kn
  have nd := sc_draw.nd
  refine ⟨_, (pss_cons (ps_asg (pe_op op_add (pe_ix (ixK (K := K) rfl) (pv 0) pe_int (fun _ _ => rfl)) pe_int) (pg_sub (pv 0) pe_int set_list))
    (pss_cons (ps_if (pt_cmpR op_gt (pe_ix (ixK (K := K) rfl) (pv 0) pe_int (fun _ _ => rfl)) pe_int (nomark _))
    (pss_cons (ps_set (i := 2) nd rfl (.inl rfl) (pe_op op_mod (pe_callTy fr_int (by rfl) B.b_int (by decide +kernel) (pa_cons (pe_ix (ixK (K := K) rfl) (pv 0) pe_int (fun _ _ => rfl)) pa_nil)) (pv 1)))
    (pss_cons (ps_asg (pe_op op_fdiv (pe_ix (ixK (K := K) rfl) (pv 0) pe_int (fun _ _ => rfl)) (pv 1)) (pg_sub (pv 0) pe_int set_list))
    (pss_one (ps_ret (pv 2)))))
    pss_nil)
    (pss_cons (ps_set (i := 3) nd rfl (.inl rfl) pe_int)
    (Evl.pss_cut (ps_if (pt_cmpR (op_neK (K := K) rfl hr.units) (pe_ix (ixK (K := K) rfl) (pv 0) pe_int (fun _ _ => rfl)) (pe_lst pa_nil) (nomark _))
    (pss_one (ps_set (i := 3) nd rfl (.inl rfl) (pe_ix (ixK (K := K) rfl) (pe_ix (ixK (K := K) rfl) (pv 0) pe_int (fun _ _ => rfl)) (pe_op op_mod (pe_callTy fr_int (by rfl) B.b_int (by decide +kernel) (pa_cons (pe_ix (ixK (K := K) rfl) (pv 0) pe_int (fun _ _ => rfl)) pa_nil)) (pe_callB (fr_lenK (K := K) rfl) (by rfl) B.b_len PySem.boot_len (pa_cons (pe_ix (ixK (K := K) rfl) (pv 0) pe_int (fun _ _ => rfl)) pa_nil))) (fun _ _ => rfl))))
    pss_nil)
    (pss_cons (ps_asg (pe_op op_add (pe_ix (ixK (K := K) rfl) (pv 0) pe_int (fun _ _ => rfl)) pe_int) (pg_sub (pv 0) pe_int set_list))
    (pss_cons (ps_if (PW.pt (pw_and (pt_cmpR op_ge (pe_callB fr_abs (by rfl) B.b_abs (by decide +kernel) (pa_cons (pv 3) pa_nil)) (pe_op op_pow pe_int pe_int) (nomark _)) (pw_and1 (pt_cmpR op_le (pe_ix (ixK (K := K) rfl) (pv 0) pe_int (fun _ _ => rfl)) (pe_callB (fr_lenK (K := K) rfl) (by rfl) B.b_len PySem.boot_len (pa_cons (pe_ix (ixK (K := K) rfl) (pv 0) pe_int (fun _ _ => rfl)) pa_nil)) (nomark _)))))
    (pss_cons (ps_asg (pe_op op_fdiv (pe_callB fr_abs (by rfl) B.b_abs (by decide +kernel) (pa_cons (pv 3) pa_nil)) (pv 1)) (pg_sub (pv 0) pe_int set_list))
    (pss_one (ps_ret (pe_op op_mod (pe_callTy fr_int (by rfl) B.b_int (by decide +kernel) (pa_cons (pe_callB fr_abs (by rfl) B.b_abs (by decide +kernel) (pa_cons (pv 3) pa_nil)) pa_nil)) (pv 1)))))
    pss_nil)
    (pss_cons (ps_set (i := 4) nd rfl (.inl rfl) (pe_op op_mod (pe_op op_pow (pe_callTy fr_int (by rfl) B.b_int (by decide +kernel) (pa_cons (pe_op op_add (pe_op op_mod (pe_callTy fr_int (by rfl) B.b_int (by decide +kernel) (pa_cons (pv 3) pa_nil)) pe_int) (pe_op op_mul pe_int (pe_ix (ixK (K := K) rfl) (pv 0) pe_int (fun _ _ => rfl)))) pa_nil)) pe_int) pe_int))
    (pss_cons (ps_set (i := 4) nd rfl (.inl rfl) (pe_op op_mod (pe_op op_pow (pe_callTy fr_int (by rfl) B.b_int (by decide +kernel) (pa_cons (pe_op op_add (pe_op op_mul (pv 4) (pe_op op_add (pe_op op_mul pe_int (pe_ix (ixK (K := K) rfl) (pv 0) pe_int (fun _ _ => rfl))) pe_int)) pe_int) pa_nil)) pe_int) pe_int))
    (pss_one (ps_ret (pe_op op_mod (pe_op op_fdiv (pv 4) pe_int) (pv 1)))))))))))), ?_⟩
  by_cases LD : L = D
  · exact (dk_self LD hD hL).elim
  -- the count
  refine qd_setL (K := K) (j := 3) rfl hD (by show 3 < 4; decide) (ed_op (ed_op (ed_var rfl (dk_dp hD hL)) ed_int (opD_ixL (d := .int n) rfl)) ed_int opD_I0) fun v H1 e1 dv => ?_
  cases dp_intI dv
  have st1 : ∀ a o, a ≠ D → H a = some o → upd H1 D (.lst ((dkv L i r n).set 3 (.int (n + 1)))) a = some o := fun a o z y => by
    rw [upd_ne z]
    exact e1 a o y
  have hD1 : upd H1 D (.lst ((dkv L i r n).set 3 (.int (n + 1)))) D = some (.lst (dkv L i r (n + 1))) := upd_same
  generalize upd H1 D (.lst ((dkv L i r n).set 3 (.int (n + 1)))) = G at st1 hD1 ⊢
  have hL1 := st1 L _ LD hL
  -- what is left of a great number
  refine q_when (eq_test (K := K) (ed_op (ed_op (ed_var rfl (dk_dp hD1 hL1)) ed_int (opD_ixL (d := .int r) rfl)) ed_int opD_B0)) (fun _ H2 e2 => ?_) (fun _ H2 e2 => ?_)
  · have hD2 := e2 _ _ hD1
    have hL2 := e2 _ _ hL1
    refine qd_asg (K := K) (ed_op (ed_cb (ds_cons (ed_op (ed_var rfl (dk_dp hD2 hL2)) ed_int (opD_ixL (d := .int r) rfl)) ds_nil) cd_int) (ed_var rfl (.int many)) (opD_I (show (0 : Int) < many by omega))) fun v H3 e3 dv => ?_
    cases dp_intI dv
    have hD3 := e3 _ _ hD2
    have hL3 := e3 _ _ hL2
    refine qd_setL (K := K) (j := 2) rfl hD3 (by show 2 < 4; decide) (ed_op (ed_op (ed_var rfl (dk_dp hD3 hL3)) ed_int (opD_ixL (d := .int r) rfl)) (ed_var rfl (.int many)) (opD_I (show CDiv r many from ⟨by omega, by omega⟩))) fun v H4 e4 dv => ?_
    cases dp_intI dv
    refine ⟨.int (r % many), rfl, q _ i (r / many) (n + 1) _ (fun a o z y => ?_) upd_same ⟨k1, by omega, Int.ediv_nonneg k3 (by omega), by omega, by omega⟩ (Int.emod_nonneg _ (by omega)) (Int.emod_lt_of_pos _ (by omega))⟩
    rw [upd_ne z]
    exact e4 _ _ (e3 _ _ (e2 _ _ (st1 a o z y)))
  have st2 : ∀ a o, a ≠ D → H a = some o → H2 a = some o := fun a o z y => e2 _ _ (st1 a o z y)
  have hD2 := e2 _ _ hD1
  have hL2 := e2 _ _ hL1
  refine qd_asg (K := K) ed_int fun v H3 e3 dv => ?_
  cases dp_intI dv
  have st3 : ∀ a o, a ≠ D → H a = some o → H3 a = some o := fun a o z y => e3 _ _ (st2 a o z y)
  have hD3 := e3 _ _ hD2
  have hL3 := e3 _ _ hL2
  refine q_cut (M := fun σ' H' => ∃ c : Int, σ' = [some (.ref D), some (.int many), none, some (.int c), none] ∧ (∀ a o, a ≠ D → H a = some o → H' a = some o) ∧ H' D = some (.lst (dkv L i r (n + 1)))) ?_ ?_
  · refine s_when (eq_test (K := K) (ed_op (ed_op (ed_var rfl (dk_dp hD3 hL3)) ed_int (opD_ixL (d := .list (ns.map .int)) rfl)) (ed_lst ds_nil) (opD_neInts ns))) (fun ne H4 e4 => ?_) (fun _ H4 e4 => ⟨83, rfl, fun a o z y => e4 _ _ (st3 a o z y), e4 _ _ hD3⟩)
    have hD4 := e4 _ _ hD3
    have hL4 := e4 _ _ hL3
    have pos : 0 < ns.length := by
      cases ns with
      | nil => cases ne
      | cons x xs =>
        rw [List.length_cons]
        omega
    obtain ⟨j, hj⟩ : ∃ j : Nat, i % (ns.length : Int) = (j : Int) := ⟨(i % (ns.length : Int)).toNat, (Int.toNat_of_nonneg (Int.emod_nonneg _ (by omega))).symm⟩
    have jl : j < ns.length := by
      have := Int.emod_lt_of_pos i (show (0 : Int) < (ns.length : Int) by omega)
      omega
    have look : atI (ns.map PyData.int) (i % (ns.length : Int)) = some (.int ns[j]) := by
      rw [hj]
      refine atI_nat ?_
      rw [List.getElem?_map, List.getElem?_eq_getElem jl]
      rfl
    refine sd_asg (K := K) (ed_op (ed_op (ed_var rfl (dk_dp hD4 hL4)) ed_int (opD_ixL (d := .list (ns.map .int)) rfl)) (ed_op (ed_cb (ds_cons (ed_op (ed_var rfl (dk_dp hD4 hL4)) ed_int (opD_ixL (d := .int i) rfl)) ds_nil) cd_int)
      (ed_cb (ds_cons (ed_op (ed_var rfl (dk_dp hD4 hL4)) ed_int (opD_ixL (d := .list (ns.map .int)) rfl)) ds_nil) cd_lenL) (opD_I (show (0 : Int) < (((ns.map PyData.int).length : Nat) : Int) by rw [List.length_map]; omega)))
      (opD_ixL (d := .int ns[j]) (by rw [List.length_map]; exact look))) fun v H5 e5 dv => ?_
    cases dp_intI dv
    exact ⟨ns[j], rfl, fun a o z y => e5 _ _ (e4 _ _ (st3 a o z y)), e5 _ _ hD4⟩
  rintro σ' H4 ⟨c, rfl, st4, hD4⟩
  have hL4 := st4 L _ LD hL
  refine qd_setL (K := K) (j := 1) rfl hD4 (by show 1 < 4; decide) (ed_op (ed_op (ed_var rfl (dk_dp hD4 hL4)) ed_int (opD_ixL (d := .int i) rfl)) ed_int opD_I0) fun v H5 e5 dv => ?_
  cases dp_intI dv
  have st5 : ∀ a o, a ≠ D → H a = some o → upd H5 D (.lst ((dkv L i r (n + 1)).set 1 (.int (i + 1)))) a = some o := fun a o z y => by
    rw [upd_ne z]
    exact e5 a o (st4 a o z y)
  have hD5 : upd H5 D (.lst ((dkv L i r (n + 1)).set 1 (.int (i + 1)))) D = some (.lst (dkv L (i + 1) r (n + 1))) := upd_same
  generalize upd H5 D (.lst ((dkv L i r (n + 1)).set 1 (.int (i + 1)))) = G2 at st5 hD5 ⊢
  have hL5 := st5 L _ LD hL
  have ab : (0 : Int) ≤ (if c < 0 then -c else c) := by
    split <;> omega
  refine q_when (et_and (eq_test (K := K) (ed_op (ed_cb (ds_cons (ed_var rfl (.int c)) ds_nil) cd_abs) (ed_op ed_int ed_int (opD_I (show CPow 10 18 from ⟨by decide, by decide, by decide⟩))) opD_B0))
    (fun _ => eq_test (ed_op (ed_op (ed_var rfl (dk_dp hD5 hL5)) ed_int (opD_ixL (d := .int (i + 1)) rfl)) (ed_cb (ds_cons (ed_op (ed_var rfl (dk_dp hD5 hL5)) ed_int (opD_ixL (d := .list (ns.map .int)) rfl)) ds_nil) cd_lenL) opD_B0))) (fun _ H6 e6 => ?_) (fun _ H6 e6 => ?_)
  · have hD6 := e6 _ _ hD5
    refine qd_setL (K := K) (j := 2) rfl hD6 (by show 2 < 4; decide) (ed_op (ed_cb (ds_cons (ed_var rfl (.int c)) ds_nil) cd_abs) (ed_var rfl (.int many)) (opD_I (show CDiv _ many from ⟨by omega, by omega⟩))) fun v H7 e7 dv => ?_
    cases dp_intI dv
    refine sd_ret (K := K) (ed_op (ed_cb (ds_cons (ed_cb (ds_cons (ed_var rfl (.int c)) ds_nil) cd_abs) ds_nil) cd_int) (ed_var rfl (.int many)) (opD_I (show (0 : Int) < many by omega))) fun v H8 e8 dv => ?_
    cases dp_intI dv
    refine q _ (i + 1) _ (n + 1) _ (fun a o z y => e8 _ _ ?_) (e8 _ _ upd_same) ⟨by omega, by omega, Int.ediv_nonneg ab (by omega), by omega, by omega⟩ (Int.emod_nonneg _ (by omega)) (Int.emod_lt_of_pos _ (by omega))
    rw [upd_ne z]
    exact e7 _ _ (e6 _ _ (st5 a o z y))
  have hD6 := e6 _ _ hD5
  have hL6 := e6 _ _ hL5
  have m1 := Int.emod_nonneg c (show (2147483563 : Int) ≠ 0 by decide)
  have m2 := Int.emod_lt_of_pos c (show (0 : Int) < 2147483563 by decide)
  refine qd_asg (K := K) (ed_op (ed_op (ed_cb (ds_cons (ed_op (ed_op (ed_cb (ds_cons (ed_var rfl (.int c)) ds_nil) cd_int) ed_int (opD_I (show (0 : Int) < 2147483563 by decide)))
    (ed_op ed_int (ed_op (ed_var rfl (dk_dp hD6 hL6)) ed_int (opD_ixL (d := .int (n + 1)) rfl)) (opD_I (show CMul 77232917 (n + 1) from Or.inl ⟨by decide, by decide⟩))) opD_I0) ds_nil) cd_int) ed_int
    (opD_I (show CPow (c % 2147483563 + 77232917 * (n + 1)) 5 from ⟨by decide, by decide, by omega⟩))) ed_int (opD_I (show (0 : Int) < 2147483399 by decide))) fun v H7 e7 dv => ?_
  cases dp_intI dv
  have hD7 := e7 _ _ hD6
  have hL7 := e7 _ _ hL6
  generalize (c % 2147483563 + 77232917 * (n + 1)) ^ (5 : Int).toNat = x1
  have p1 := Int.emod_nonneg x1 (show (2147483399 : Int) ≠ 0 by decide)
  have p2 := Int.emod_lt_of_pos x1 (show (0 : Int) < 2147483399 by decide)
  generalize x1 % 2147483399 = y1 at p1 p2 ⊢
  have w2 : (y1 * (2 * (n + 1) + 7) + 6449).natAbs < 2 ^ 64 := by
    have u1 : (0 : Int) ≤ y1 * (2 * (n + 1) + 7) := Int.mul_nonneg p1 (by omega)
    have u2 : y1 * (2 * (n + 1) + 7) ≤ 2147483399 * (2 * 1000000001 + 7) := Int.mul_le_mul (by omega) (by omega) (by omega) (by decide)
    omega
  refine qd_asg (K := K) (ed_op (ed_op (ed_cb (ds_cons (ed_op (ed_op (ed_var rfl (.int y1)) (ed_op (ed_op ed_int (ed_op (ed_var rfl (dk_dp hD7 hL7)) ed_int (opD_ixL (d := .int (n + 1)) rfl)) (opD_I (show CMul 2 (n + 1) from Or.inl ⟨by decide, by decide⟩))) ed_int opD_I0)
    (opD_I (show CMul y1 (2 * (n + 1) + 7) from Or.inl ⟨by omega, by omega⟩))) ed_int opD_I0) ds_nil) cd_int) ed_int (opD_I (show CPow (y1 * (2 * (n + 1) + 7) + 6449) 3 from ⟨by decide, by decide, w2⟩))) ed_int (opD_I (show (0 : Int) < 2147483647 by decide))) fun v H8 e8 dv => ?_
  cases dp_intI dv
  have hD8 := e8 _ _ hD7
  refine sd_ret (K := K) (ed_op (ed_op (ed_var rfl (.int _)) ed_int (opD_I (show CDiv _ 32 from ⟨by decide, by decide⟩))) (ed_var rfl (.int many)) (opD_I (show (0 : Int) < many by omega))) fun v H9 e9 dv => ?_
  cases dp_intI dv
  exact q _ (i + 1) r (n + 1) _ (fun a o z y => e9 _ _ (e8 _ _ (e7 _ _ (e6 _ _ (st5 a o z y))))) (e9 _ _ hD8) ⟨by omega, by omega, k3, by omega, by omega⟩ (Int.emod_nonneg _ (by omega)) (Int.emod_lt_of_pos _ (by omega))

theorem c_oneS (T : Def K mg "_law_one" s_one) (B : Bl mg) (C_draw : Cal P w K mg base 1 "_law_draw" spDr) : Cal P w K mg base 2 "_law_one" (spOneS K) := by
  refine cal_of (k := 1) T sc_one (fun _ _ _ _ _ _ us hl => match us, hl with | [_, _], _ => rfl) (fun vs H Q E h => ?_) (fun f cdv A outer s H vs Q E hr h => ?_)
  · obtain ⟨D, L, ns, b, v, d, ds, rfl, _⟩ := h
    rfl
  obtain ⟨D, L, ns, b, v, d, ds, rfl, dk, hb, dv, it, l1, l2, q⟩ := h
  have nd := sc_one.nd
  refine ⟨_, (pss_one (ps_ret (pe_ix (ixSK (K := K) rfl) (pv 1) (pe_c C_draw hr (by decide) (by rfl) (pa_cons (pv 0) (pa_cons (pe_callB (fr_lenSK (K := K) rfl) (by rfl) B.b_len PySem.boot_len (pa_cons (pv 1) pa_nil)) pa_nil))) (fun _ _ => rfl)))), ?_⟩
  refine ⟨v, rfl, .ref D, rfl, ?_⟩
  have hlen : EvD K (tCB (fLenS K) (tCons (tVar 1) tNil)) [some (.ref D), some v] H (.int ds.length) := by
    rcases it with rfl | ⟨z, rfl, rfl⟩
    · exact ed_cb (ds_cons (ed_var rfl dv) ds_nil) cd_lenSL
    · rw [List.length_map] at l2 ⊢
      rw [← tl_len] at l2 ⊢
      exact ed_cb (ds_cons (ed_var rfl dv) ds_nil) (cd_lenSS (by omega))
  refine hlen H (Ex.refl H) _ fun x H1 e1 dx => ?_
  cases dp_intI dx
  refine ⟨D, L, ns, b, ds.length, rfl, dk_ex e1 dk, hb, by omega, by omega, fun n H2 ey dk2 n0 n1 => ?_⟩
  obtain ⟨j, rfl⟩ := Int.eq_ofNat_of_zero_le n0
  have jl : j < ds.length := by omega
  have hd : ds[j]? = some ds[j] := List.getElem?_eq_getElem jl
  have dv2 := dpy ey (dpm e1 dv)
  have mem := List.mem_of_getElem? hd
  rcases it with rfl | ⟨z, rfl, rfl⟩
  · obtain ⟨a, xs, rfl, hx, hA⟩ := dp_lstI dv2
    obtain ⟨y, hy, dy⟩ := atI_dp hA (atI_nat hd)
    exact Or.inl (Or.inl ⟨a, xs, (j : Int), y, rfl, rfl, hx, hy, q y ds[j] H2 ((Ey.of e1).trans ey) dk2 mem dy⟩)
  · cases dv2
    rw [List.length_map] at jl
    refine Or.inr ⟨z, (j : Int), (TL.tl z)[j], rfl, rfl, ?_, atI_nat (List.getElem?_eq_getElem jl), q _ (dsg (TL.tl z)[j]) H2 ((Ey.of e1).trans ey) dk2 (List.mem_map.mpr ⟨_, List.getElem_mem jl, rfl⟩) (.str _)⟩
    rw [List.length_map, ← tl_len] at l2
    rw [sizeLine_eq]
    omega

theorem c_edge (T : Def K mg "_law_edge" s_edge) (B : Bl mg) (C_draw : Cal P w K mg base 1 "_law_draw" spDr) (C_one : Cal P w K mg base 2 "_law_one" (spOneS K)) : Cal P w K mg base 3 "_law_edge" (spEdge K) := by
  refine cal_of (k := 2) T sc_edge (fun _ _ _ _ _ _ us hl => match us, hl with | [_, _], _ => rfl) (fun vs H Q E h => ?_) (fun f cdv A outer s H vs Q E hr h => ?_)
  · obtain ⟨D, L, ns, b, m, rfl, _⟩ := h
    rfl
  obtain ⟨D, L, ns, B0, m, rfl, dk, hB, m1, m2, q⟩ := h
  have nd := sc_edge.nd
  refine ⟨_, (pss_cons (ps_asg (pe_tup (pa_cons (pe_op op_add pe_int (pe_c C_draw hr (by decide) (by rfl) (pa_cons (pv 0) (pa_cons (pe_c C_one hr (by decide) (by rfl) (pa_cons (pv 0) (pa_cons (pe_lst (pa_cons (pv 1) (pa_cons pe_int (pa_cons pe_int pa_nil)))) pa_nil))) pa_nil)))) (pa_cons (pe_c C_draw hr (by decide) (by rfl) (pa_cons (pv 0) (pa_cons pe_int pa_nil))) pa_nil))) (pg_tupK (K := K) (n := 2) rfl rfl (pgs_cons (pg_name (i := 2) nd rfl (.inr rfl)) (pgs_cons (pg_name (i := 3) nd rfl (.inl rfl)) pgs_nil))))
    (pss_cons (ps_set (i := 4) nd rfl (.inr rfl) (pe_c C_one hr (by decide) (by rfl) (pa_cons (pv 0) (pa_cons (pe_lst (pa_cons pe_str (pa_cons pe_str (pa_cons pe_str (pa_cons pe_str (pa_cons pe_str (pa_cons pe_str pa_nil))))))) pa_nil))))
    (pss_cons (ps_if (pt_cmpR op_lt (pv 3) pe_int (nomark _))
    (pss_one (ps_ret (pe_joinK (K := K) rfl pe_str (pe_lc (own := [("_law_k", 5)]) rfl nd (pi_range1 (by rfl) B.b_range (pa_cons (pv 2) pa_nil)) (blkOk_by (N := N_edge) (sc := defScope s_edge) (by decide +kernel)) (fun _ _ _ _ _ => (pg_name (i := 5) nd rfl (Or.inl rfl))) (fun _ _ _ _ _ => pts_nil) (fun _ _ _ _ _ => (pe_c C_one hr (by decide) (by rfl) (pa_cons (pv 0) (pa_cons (pv 4) pa_nil))))))))
    pss_nil)
    (pss_cons (ps_if (pt_cmpR (op_eqK (K := K) rfl hr.units) (pv 3) pe_int (nomark _))
    (pss_cons (ps_set (i := 6) nd rfl (.inl rfl) (pe_joinK (K := K) rfl pe_str (pe_lc (own := [("_law_k", 5)]) rfl nd (pi_range1 (by rfl) B.b_range (pa_cons (pe_op op_add pe_int (pe_c C_draw hr (by decide) (by rfl) (pa_cons (pv 0) (pa_cons pe_int pa_nil)))) pa_nil)) (blkOk_by (N := N_edge) (sc := defScope s_edge) (by decide +kernel)) (fun _ _ _ _ _ => (pg_name (i := 5) nd rfl (Or.inl rfl))) (fun _ _ _ _ _ => pts_nil) (fun _ _ _ _ _ => (pe_c C_one hr (by decide) (by rfl) (pa_cons (pv 0) (pa_cons (pv 4) pa_nil)))))))
    (pss_one (ps_ret (pe_slice sl_str (pe_op op_mulS (pv 6) (pv 2)) po_none (po_some (pe_op op_mul (pe_op op_fdiv (pv 1) (pe_callB (fr_lenSK (K := K) rfl) (by rfl) B.b_len PySem.boot_len (pa_cons (pv 6) pa_nil))) (pe_callB (fr_lenSK (K := K) rfl) (by rfl) B.b_len PySem.boot_len (pa_cons (pv 6) pa_nil))))))))
    pss_nil)
    (pss_cons (ps_set (i := 7) nd rfl (.inr rfl) (pe_c C_draw hr (by decide) (by rfl) (pa_cons (pv 0) (pa_cons (pe_op op_add (pv 2) pe_int) pa_nil))))
    (pss_cons (ps_setLc (i := 8) (own := [("_law_k", 5)]) rfl nd rfl rfl (sw_true rfl rfl rfl (by decide +kernel)) (pi_range1 (by rfl) B.b_range (pa_cons (pv 2) pa_nil)) (blkOk_by (N := N_edge) (sc := defScope s_edge) (by decide +kernel)) (fun _ _ _ _ _ => (pg_name (i := 5) nd rfl (Or.inl rfl))) (fun _ _ _ _ _ => pts_nil) (fun _ _ _ _ _ => (pe_ifExp (pt_cmpR (op_eqK (K := K) rfl hr.units) (pe_op op_fdiv (pe_op op_mul (pe_op op_add (pv 5) pe_int) (pv 7)) (pv 2)) (pe_op op_fdiv (pe_op op_mul (pv 5) (pv 7)) (pv 2)) (nomark _)) pe_str (pe_ix (ixSK (K := K) rfl) (pv 4) pe_int (fun _ _ => rfl)))))
    (Evl.pss_cut (ps_if (pt_cmpR (op_eqK (K := K) rfl hr.units) (pv 3) pe_int (nomark _))
    (pss_cons (ps_par (i := 9) (j := 10) rfl nd rfl rfl (by decide) rfl rfl (pa_cons (pe_c C_draw hr (by decide) (by rfl) (pa_cons (pv 0) (pa_cons (pv 2) pa_nil))) (pa_cons (pe_c C_draw hr (by decide) (by rfl) (pa_cons (pv 0) (pa_cons (pv 2) pa_nil))) pa_nil)) rfl)
    (pss_one (ps_asg (pe_tup (pa_cons (pe_ix (ixSK (K := K) rfl) (pv 8) (pv 10) (fun _ _ => rfl)) (pa_cons (pe_ix (ixSK (K := K) rfl) (pv 8) (pv 9) (fun _ _ => rfl)) pa_nil))) (pg_tupK (K := K) (n := 2) rfl rfl (pgs_cons (pg_sub (pv 8) (pv 9) set_list) (pgs_cons (pg_sub (pv 8) (pv 10) set_list) pgs_nil))))))
    pss_nil)
    (pss_cons (ps_set (i := 11) nd rfl (.inl rfl) (pe_c C_draw hr (by decide) (by rfl) (pa_cons (pv 0) (pa_cons (pv 2) pa_nil))))
    (pss_one (ps_ret (pe_joinK (K := K) rfl pe_str (pe_op op_cat (pe_slice (sl_listK (K := K) rfl) (pv 8) (po_some (pv 11)) po_none) (pe_slice (sl_listK (K := K) rfl) (pv 8) po_none (po_some (pv 11))))))))))))))), ?_⟩
  -- how long, and which way
  refine ⟨.ref D, rfl, .ref D, rfl, ?_⟩
  refine use_ed (K := K) (d := .list [.int m, .int 12, .int 5]) (ed_lst (ds_cons (ed_var rfl (.int m)) (ds_cons ed_int (ds_cons ed_int ds_nil)))) fun vo H1 e1 dvo => ?_
  refine ⟨D, L, ns, _, vo, _, _, rfl, dk_ex e1 dk, by omega, dvo, Or.inl rfl, by show 1 ≤ 3; decide, by show 3 ≤ 100000; decide, fun x d H2 ey2 dk2 mem dx => ?_⟩
  obtain ⟨t, rfl, t1, t2⟩ : ∃ t : Int, d = .int t ∧ 1 ≤ t ∧ t ≤ 200 := by
    simp only [List.mem_cons, List.mem_nil_iff, or_false] at mem
    rcases mem with rfl | rfl | rfl
    · exact ⟨_, rfl, by omega, m2⟩
    · exact ⟨_, rfl, by decide, by decide⟩
    · exact ⟨_, rfl, by decide, by decide⟩
  cases dp_intI dx
  refine ⟨D, L, ns, _, t, rfl, dk2, by omega, t1, by omega, fun u1 H3 ey3 dk3 u10 u11 => ⟨1, u1, rfl, rfl, ?_⟩⟩
  refine ⟨.ref D, rfl, D, L, ns, _, 6, rfl, dk3, by omega, by decide, by decide, fun way H4 ey4 dk4 w0 w1 => ⟨by show 2 ≤ sizeLine; decide, fun pt npt => ⟨pt, _, rfl, SqT.of upd_same, rfl, _, _, rfl, _, _, rfl, rfl, ?_⟩⟩⟩
  have e5 : Ex H4 (upd H4 pt (.tup [.int (1 + u1), .int way])) := Ex.new npt
  show tSeq _ _ _ [some (.ref D), some (.int m), some (.int (1 + u1)), some (.int way), none, none, none, none, none, none, none, none] (upd H4 pt (.tup [.int (1 + u1), .int way]))
  generalize upd H4 pt (.tup [.int (1 + u1), .int way]) = H5 at e5 ⊢
  obtain ⟨s, es⟩ : ∃ s : Nat, 1 + u1 = (s : Int) := ⟨(1 + u1).toNat, by omega⟩
  rw [es]
  have s1 : 1 ≤ s := by omega
  have s2 : s ≤ 200 := by omega
  clear es
  have y5 : Ey H H5 := ((((Ey.of e1).trans ey2).trans ey3).trans ey4).trans (Ey.of e5)
  have dk5 : Dk H5 D L ns (B0 + 3) := dk_ex e5 dk4
  -- the letters
  refine ⟨.ref D, rfl, ?_⟩
  refine use_ed (K := K) (d := .list [.str (Str.ofString "NTB"), .str (Str.ofString "NB"), .str (Str.ofString "TB"), .str (Str.ofString "NT"), .str (Str.ofString "B"), .str (Str.ofString "NBBB")]) (ed_lst (ds_cons ed_str (ds_cons ed_str (ds_cons ed_str (ds_cons ed_str (ds_cons ed_str (ds_cons ed_str ds_nil))))))) fun vo H6 e6 dvo => ?_
  refine ⟨D, L, ns, _, vo, _, _, rfl, dk_ex e6 dk5, by omega, dvo, Or.inl rfl, by show 1 ≤ 6; decide, by show 6 ≤ 100000; decide, fun x d H7 ey7 dk7 mem dx => ?_⟩
  obtain ⟨zl, rfl, z1, z2, za⟩ : ∃ z : Str, d = .str z ∧ 1 ≤ z.length ∧ z.length ≤ 4 ∧ ∀ c ∈ TL.tl z, isL c := by
    simp only [List.mem_cons, List.mem_nil_iff, or_false] at mem
    rcases mem with rfl | rfl | rfl | rfl | rfl | rfl <;> exact ⟨_, rfl, by decide, by decide, by decide⟩
  cases dx
  have y7 : Ey H H7 := (y5.trans (Ey.of e6)).trans ey7
  have one : ∀ {y6 y7 y8 y9 y10 y11 : Option V} {i : Nat} {H1 : Hp} {B1 : Nat}, Dk H1 D L ns B1 → B1 < 800000000 → EvY (tCall (spOneS K) [] E0 (tCons (tVar 0) (tCons (tVar 4) tNil))) [some (.ref D), some (.int m), some (.int (s : Int)), some (.int way), some (.str zl), some (.int (i : Int)), y6, y7, y8, y9, y10, y11] H1 (fun v H2 => Ey H1 H2 ∧ Dk H2 D L ns (B1 + 1) ∧ ∃ d, Da K H2 v d ∧ flat d = true ∧ ∃ c, d = dsg c ∧ isL c) := fun dk hb Q q => by
    refine ⟨.ref D, rfl, .str zl, rfl, D, L, ns, _, .str zl, .str zl, _, rfl, dk, by omega, .str _, Or.inr ⟨zl, rfl, rfl⟩, by rw [List.length_map, ← tl_len]; exact z1, by rw [List.length_map, ← tl_len]; omega, fun x d H2 ey dk2 mem dx => ?_⟩
    obtain ⟨c, hc, rfl⟩ := List.mem_map.mp mem
    exact q x H2 ⟨ey, dk2, _, dx, rfl, c, rfl, za c hc⟩
  have fin : ∀ {H9 : Hp} {l : Addr} {cs : List Nat}, Ey H H9 → Dk H9 D L ns (B0 + 1000) → H9 l = some (.lst ((cs.map sg).map V.str)) → 1 ≤ cs.length → cs.length ≤ 200 → (∀ c ∈ cs, isL c) → rJoinK K (.str (Str.ofString "")) [.ref l] H9 Q := fun {H9 l cs} ey dk hl c1 c2 ca =>
    ⟨_, l, cs.map sg, rfl, rfl, Or.inl (SqL.of hl), join_okG (by omega), q _ H9 ey dk (edge_of (tl_joinG cs) c1 c2 ca)⟩
  refine q_when (eq_test (K := K) (ed_op (ed_var rfl (.int way)) ed_int opD_B0)) (fun c H8 e8 => ?_) (fun c H8 e8 => ?_)
  · -- drawn ones
    refine ⟨⟨_, rfl⟩, ey_lcN (K := K) (c := 1) (fun d => ∃ c, d = dsg c ∧ isL c) (ds_cons (ed_var rfl (.int (s : Int))) ds_nil) ⟨by omega, by omega⟩ (dk_ex e8 dk7) (fun x => rfl) (fun i H9 hi ey9 dk9 => one dk9 (by omega)) _ fun v H9 r => ?_⟩
    obtain ⟨l, xs, ds, rfl, nl, hl, ha, ey9, dk9, len, all⟩ := r
    obtain ⟨cs, rfl, cl, ca⟩ := sgs_of fun d hd => (all d hd).2
    rw [strs_of ha] at hl
    rw [len] at cl
    exact fin ((y7.trans (Ey.of e8)).trans ey9) (dk_le dk9 (by omega)) hl (by omega) (by omega) ca
  have y8 := y7.trans (Ey.of e8)
  have dk8 := dk_ex e8 dk7
  refine q_when (eq_test (K := K) (ed_op (ed_var rfl (.int way)) ed_int opD_eqI)) (fun c H9 e9 => ?_) (fun c H9 e9 => ?_)
  · -- a part again and again
    refine ⟨⟨_, rfl⟩, .ref D, rfl, D, L, ns, _, 4, rfl, dk_ex e9 dk8, by omega, by decide, by decide, fun u2 Ha eya dka a0 a1 => ⟨1, u2, rfl, rfl, ?_⟩⟩
    obtain ⟨n, en⟩ : ∃ n : Nat, 1 + u2 = (n : Int) := ⟨(1 + u2).toNat, by omega⟩
    show tLc (iRng1 (tCons (tC (.int (1 + u2))) tNil)) (gName 5) tYes (tCall (spOneS K) [] E0 (tCons (tVar 0) (tCons (tVar 4) tNil))) [5] [some (.ref D), some (.int m), some (.int (s : Int)), some (.int way), some (.str zl), none, none, none, none, none, none, none] Ha (fun y H2 => rJoinK K (.str (Str.ofString "")) [y] H2 _)
    refine ey_lcN (K := K) (ta := tCons (tC (.int (1 + u2))) tNil) (te := tCall (spOneS K) [] E0 (tCons (tVar 0) (tCons (tVar 4) tNil))) (σ := [some (.ref D), some (.int m), some (.int (s : Int)), some (.int way), some (.str zl), none, none, none, none, none, none, none]) (vs := [5]) (j := 5) (c := 1) (fun d => ∃ c, d = dsg c ∧ isL c) (ds_cons ed_int ds_nil) ⟨by omega, by omega⟩ dka (fun x => rfl) (fun i H9 hi ey9 dk9 => one dk9 (by omega)) _ fun v Hb r => ?_
    obtain ⟨l, xs, ds, rfl, nl, hl, ha, eyb, dkb, len, all⟩ := r
    obtain ⟨cs, rfl, cl, ca⟩ := sgs_of fun d hd => (all d hd).2
    rw [strs_of ha] at hl
    rw [len] at cl
    refine ⟨_, l, cs.map sg, rfl, rfl, Or.inl (SqL.of hl), join_okG (by omega), ?_⟩
    have tz := tl_joinG cs
    generalize Txt.join (Str.ofString "") (cs.map sg) = z at tz ⊢
    have zl' : z.length = cs.length := by rw [tl_len, tz]
    obtain ⟨mn, rfl⟩ : ∃ mn : Nat, m = (mn : Int) := ⟨m.toNat, by omega⟩
    have L1 : 1 ≤ cs.length := by omega
    have L4 : cs.length ≤ 4 := by omega
    generalize hLn : cs.length = Ln at L1 L4 zl' cl
    have q1 : 1 ≤ mn / Ln := (Nat.le_div_iff_mul_le (by omega)).mpr (by omega)
    have q2 : mn / Ln * Ln ≤ mn := Nat.div_mul_le_self mn Ln
    have q3 : Ln ≤ mn / Ln * Ln := Nat.le_mul_of_pos_left Ln (by omega)
    have sL : s * Ln ≤ 200 * 4 := Nat.mul_le_mul s2 L4
    have lz : EvD K (tCB (fLenS K) (tCons (tVar 6) tNil)) [some (.ref D), some (.int (mn : Int)), some (.int (s : Int)), some (.int way), some (.str zl), none, some (.str z), none, none, none, none, none] Hb (.int (Ln : Int)) := ed_is (ed_cb (ds_cons (ed_var rfl (.str z)) ds_nil) (cd_lenSS (by omega))) (by rw [zl'])
    refine sd_ret (K := K) (d := .str (cutS (Txt.mul z (s : Int)) none (some ((mn / Ln * Ln : Nat) : Int)))) (ed_slS (ed_op (ed_var rfl (.str z)) (ed_var rfl (.int (s : Int))) (opD_mulS (mul_ok (by rw [zl']; omega) (by omega)))) (by rw [Mm.len_mul, zl']; omega) po_no (po_int (K := K) (ed_is (ed_op (ed_op (ed_var rfl (.int (mn : Int))) lz (opD_I (show CDiv _ _ from ⟨by omega, by omega⟩))) lz (opD_I (show CMul _ _ from Or.inr ⟨by omega, by omega⟩))) (by
      rw [Int.natCast_mul, Int.natCast_ediv])))) fun v Hc ec dv => ?_
    cases dv
    have tm : TL.tl (cutS (Txt.mul z (s : Int)) none (some ((mn / Ln * Ln : Nat) : Int))) = (List.replicate s cs).flatten.take (min (mn / Ln * Ln) (s * Ln)) := by
      rw [tl_takeM, Mm.len_mul, zl', tl_mul, tz]
    have fl : (List.replicate s cs).flatten.length = s * Ln := by
      rw [List.length_flatten, List.map_replicate, List.sum_replicate_nat, hLn]
    refine q _ Hc (((((y8.trans (Ey.of e9)).trans eya).trans eyb)).trans (Ey.of ec)) (dk_le (dk_ex ec dkb) (by omega)) (edge_of tm ?_ ?_ fun c hc => ?_)
    · rw [List.length_take, fl]
      have : Ln ≤ s * Ln := Nat.le_mul_of_pos_left Ln (by omega)
      omega
    · rw [List.length_take, fl]
      omega
    · obtain ⟨l', hl', hc'⟩ := List.mem_flatten.mp (List.mem_of_mem_take hc)
      rw [List.eq_of_mem_replicate hl'] at hc'
      exact ca c hc'
  -- spread evenly
  have y9 := y8.trans (Ey.of e9)
  have dk9 := dk_ex e9 dk8
  refine ⟨.ref D, rfl, .int (s : Int), rfl, (s : Int), 1, rfl, rfl, D, L, ns, _, (s : Int) + 1, rfl, dk9, by omega, by omega, by omega, fun odd H10 ey10 dk10 o0 o1 => ?_⟩
  have y10 := y9.trans ey10
  obtain ⟨c0, e0, a0⟩ : ∃ c0, atI (TL.tl zl) 0 = some c0 ∧ isL c0 := by
    have h0 : 0 < (TL.tl zl).length := by rw [← tl_len]; omega
    exact ⟨(TL.tl zl)[0], atI_nat (j := 0) (List.getElem?_eq_getElem h0), za _ (List.getElem_mem h0)⟩
  refine qd_asgN (K := K) (en_lcR (fun _ => true) (fun d => if decide ((intOf d + 1) * odd / (s : Int) = intOf d * odd / (s : Int)) = true then dsg 66 else dsg c0) (ds_cons (ed_var rfl (.int (s : Int))) ds_nil) ⟨by omega, by omega⟩ (fun k hk => ?_) (fun k hk _ => ?_)) fun lf xf H11 nlf e11 hlf hxf => ?_
  · refine turn_name (fun x => rfl) (fun _ _ _ _ => et_yes) (fun u H11 e11 du _ => ed_if (eq_test (K := K) (ed_op (ed_op (ed_op (ed_op (ed_var rfl du) ed_int opD_I0) (ed_var rfl (.int odd)) (opD_I (show CMul _ odd from Or.inr ⟨by omega, by omega⟩))) (ed_var rfl (.int (s : Int))) (opD_I (show CDiv _ (s : Int) from ⟨by omega, by omega⟩))) (ed_op (ed_op (ed_var rfl du) (ed_var rfl (.int odd)) (opD_I (show CMul _ odd from Or.inr ⟨by omega, by omega⟩))) (ed_var rfl (.int (s : Int))) (opD_I (show CDiv _ (s : Int) from ⟨by omega, by omega⟩))) opD_eqI)) (fun z => ed_is ed_str ?_) (fun z => ed_is (ed_op (ed_var rfl (.str zl)) ed_int (opD_ixS (by omega) e0)) ?_))
    · show _ = if decide (((k : Int) + 1) * odd / (s : Int) = (k : Int) * odd / (s : Int)) = true then dsg 66 else dsg c0
      rw [if_pos z]
      rfl
    · show _ = if decide (((k : Int) + 1) * odd / (s : Int) = (k : Int) * odd / (s : Int)) = true then dsg 66 else dsg c0
      rw [if_neg (by rw [z]; decide)]
      rfl
  · exact pick_flat
  obtain ⟨cs, ecs, cl, ca⟩ := sgs_of (ds := ((upto (s : Int).toNat).filter fun _ => true).map fun d => if decide ((intOf d + 1) * odd / (s : Int) = intOf d * odd / (s : Int)) = true then dsg 66 else dsg c0) fun d hd => by
    obtain ⟨e, _, rfl⟩ := List.mem_map.mp hd
    exact pick_sg (Or.inr (Or.inr rfl)) a0
  have cl : cs.length = s := by
    rw [cl, List.length_map, List.filter_eq_self.mpr (fun _ _ => rfl), upto_len, Int.toNat_natCast]
  rw [ecs] at hxf
  rw [strs_of hxf] at hlf
  have nlH := own_at y10 nlf
  refine q_cutY (fun σ' H' => ∃ (cs : List Nat) (y9 y10 : Option V), σ' = [some (.ref D), some (.int m), some (.int (s : Int)), some (.int way), some (.str zl), none, none, some (.int odd), some (.ref lf), y9, y10, none] ∧ Ey H H' ∧ Dk H' D L ns (B0 + 20) ∧ H' lf = some (.lst ((cs.map sg).map V.str)) ∧ cs.length = s ∧ ∀ c ∈ cs, isL c) ?_ (fun σ' HA hw => ?_)
  · refine s_when (eq_test (K := K) (ed_op (ed_var rfl (.int way)) ed_int opD_eqI)) (fun c H12 e12 => ?_) (fun c H12 e12 => ?_)
    · refine ⟨.ref D, rfl, .int (s : Int), rfl, D, L, ns, _, (s : Int), rfl, dk_ex (e11.trans e12) dk10, by omega, by omega, by omega, fun at' H13 ey13 dk13 p0 p1 => ?_⟩
      refine ⟨.ref D, rfl, .int (s : Int), rfl, D, L, ns, _, (s : Int), rfl, dk13, by omega, by omega, by omega, fun to' H14 ey14 dk14 r0 r1 => ⟨_, _, rfl, ?_⟩⟩
      obtain ⟨i, rfl⟩ := Int.eq_ofNat_of_zero_le p0
      obtain ⟨j, rfl⟩ := Int.eq_ofNat_of_zero_le r0
      have il : i < cs.length := by omega
      have jl : j < cs.length := by omega
      have y1214 : Ey H11 H14 := ((Ey.of e12).trans ey13).trans ey14
      have hl14 := y1214 _ _ hlf (fun z => z)
      have dl14 : Da K H14 (.ref lf) (.list ((cs.map sg).map .str)) := .lst (SqL.of hl14) (strs_da cs)
      have key : EvD K (tTup (tCons (tOp (rIxAS K) (tVar 8) (tVar 10)) (tCons (tOp (rIxAS K) (tVar 8) (tVar 9)) tNil))) [some (.ref D), some (.int m), some (.int (s : Int)), some (.int way), some (.str zl), none, none, some (.int odd), some (.ref lf), some (.int (i : Int)), some (.int (j : Int)), none] H14 (.tuple [.str (sg cs[j]), .str (sg cs[i])]) := (ed_tup (ds_cons (ed_op (ed_var rfl dl14) (ed_var rfl (.int (j : Int))) (opD_ixSL (atI_nat (by rw [List.getElem?_map, List.getElem?_map, List.getElem?_eq_getElem jl]; rfl)))) (ds_cons (ed_op (ed_var rfl dl14) (ed_var rfl (.int (i : Int))) (opD_ixSL (atI_nat (by rw [List.getElem?_map, List.getElem?_map, List.getElem?_eq_getElem il]; rfl)))) ds_nil)))
      show tAsg (tTup (tCons (tOp (rIxAS K) (tVar 8) (tVar 10)) (tCons (tOp (rIxAS K) (tVar 8) (tVar 9)) tNil))) (gTup K 2 (gCons (gSub (tVar 8) (tVar 9) rSetL) (gCons (gSub (tVar 8) (tVar 10) rSetL) gNil))) _ [some (.ref D), some (.int m), some (.int (s : Int)), some (.int way), some (.str zl), none, none, some (.int odd), some (.ref lf), some (.int (i : Int)), some (.int (j : Int)), none] H14
      refine key H14 (Ex.refl _) _ fun v H15 e15 dv => ?_
      obtain ⟨t', xs', rfl, ht', hA'⟩ := dp_tupI dv
      cases hA' with
      | cons g1 hA' =>
        cases hA' with
        | cons g2 hA' =>
          cases hA'
          cases g1
          cases g2
          have hl15 := e15 _ _ hl14
          refine ⟨t', _, rfl, ht', rfl, _, _, rfl, .ref lf, rfl, .int (i : Int), rfl, lf, _, (i : Int), i, rfl, rfl, hl15, ixN_nat (by rw [List.length_map, List.length_map]; exact il), _, _, rfl, .ref lf, rfl, .int (j : Int), rfl, lf, _, (j : Int), j, rfl, rfl, upd_same, ixN_nat (by rw [List.length_set, List.length_map, List.length_map]; exact jl), rfl, ?_⟩
          refine ⟨(cs.set i cs[j]).set j cs[i], _, _, rfl, ?_, ?_, ?_, by rw [List.length_set, List.length_set]; exact cl, fun c hc => ?_⟩
          · exact ey_updN (ey_updN (((y10.trans (Ey.of e11)).trans y1214).trans (Ey.of e15)) nlH) nlH
          · have ne : lf ≠ L := dk_new dk10 nlf
            exact dk_upd (dk_upd (dk_le (dk_ex e15 dk14) (by omega)) hl15 ne) upd_same ne
          · rw [upd_same]
            simp only [List.map_set]
          · rcases List.mem_or_eq_of_mem_set hc with h | h
            · rcases List.mem_or_eq_of_mem_set h with h | h
              · exact ca c h
              · rw [h]
                exact ca _ (List.getElem_mem jl)
            · rw [h]
              exact ca _ (List.getElem_mem il)
    · exact ⟨cs, none, none, rfl, (y10.trans (Ey.of e11)).trans (Ey.of e12), dk_le (dk_ex (e11.trans e12) dk10) (by omega), e12 _ _ hlf, cl, ca⟩
  obtain ⟨cs, y9', y10', rfl, yA, dkA, hlA, cl, ca⟩ := hw
  -- turned
  refine ⟨.ref D, rfl, .int (s : Int), rfl, D, L, ns, _, (s : Int), rfl, dkA, by omega, by omega, by omega, fun turn HB eyB dkB t0 t1' => ?_⟩
  obtain ⟨n, rfl⟩ := Int.eq_ofNat_of_zero_le t0
  have nl' : n ≤ ((cs.map sg).map PyData.str).length := by rw [List.length_map, List.length_map]; omega
  have dlB : Da K HB (.ref lf) (.list ((cs.map sg).map .str)) := .lst (SqL.of (eyB _ _ hlA (fun z => z))) (strs_da cs)
  refine sd_ret (K := K) (d := .str (Txt.join (Str.ofString "") ((cs.drop n ++ cs.take n).map sg))) (ed_join (ys := (cs.drop n ++ cs.take n).map sg) (ed_is (evn_d (en_catN (ed_slL (ed_var rfl dlB) (po_int (K := K) (ed_var rfl (.int (n : Int)))) po_no) (ed_slL (ed_var rfl dlB) po_no (po_int (K := K) (ed_var rfl (.int (n : Int))))) (by
    rw [cutD_drop nl', cutD_take nl', List.length_drop, List.length_take, List.length_map, List.length_map]
    omega))) (by
    rw [cutD_drop nl', cutD_take nl', List.map_append, List.map_append, List.map_drop, List.map_drop, List.map_take, List.map_take])) (join_okG (by rw [List.length_append, List.length_drop, List.length_take]; omega))) fun v HC eC dv => ?_
  cases dv
  refine q _ HC ((yA.trans eyB).trans (Ey.of eC)) (dk_le (dk_ex eC dkB) (by omega)) (edge_of (tl_joinG _) ?_ ?_ fun c hc => ?_)
  · rw [List.length_append, List.length_drop, List.length_take]
    omega
  · rw [List.length_append, List.length_drop, List.length_take]
    omega
  · rcases List.mem_append.mp hc with h | h
    · exact ca c (List.mem_of_mem_drop h)
    · exact ca c (List.mem_of_mem_take h)

theorem sums_ints (c : Nat) (cs : List Nat) (n : Nat) : sumsD c cs n = ((List.range (n + 1)).map fun k => (pre c cs k : Int)).map .int := by
  unfold sumsD
  rw [List.map_map]
  rfl
theorem sums_last (c : Nat) (cs : List Nat) (n : Nat) : atI (sumsD c cs n) (-1) = some (.int (pre c cs n : Int)) := by
  have e : sumsD c cs n = ((List.range n).map fun k => PyData.int (pre c cs k : Int)) ++ [.int (pre c cs n : Int)] := by
    unfold sumsD
    rw [List.range_succ, List.map_append]
    rfl
  rw [e]
  exact Mm.atI_last _ _
abbrev sumsV (c : Nat) (cs : List Nat) (n : Nat) : List V := ((List.range (n + 1)).map fun k => (pre c cs k : Int)).map V.int
theorem sums_da {l : Addr} {H : Hp} {c : Nat} {cs : List Nat} {n : Nat} (h : H l = some (.lst (sumsV c cs n))) : Da K H (.ref l) (.list (sumsD c cs n)) := by
  rw [sums_ints]
  exact da_ints h
theorem sumsV_succ (c : Nat) (cs : List Nat) (n : Nat) : sumsV c cs (n + 1) = sumsV c cs n ++ [V.int (pre c cs (n + 1) : Int)] := by
  unfold sumsV
  rw [List.range_succ (n := n + 1), List.map_append, List.map_append]
  rfl
theorem if_one {c x i : Nat} {cs : List Nat} (h : cs[i]? = some x) : (pre c cs i : Int) + (if x = c then 1 else 0) = (pre c cs (i + 1) : Int) := by
  rw [pre_succ h]
  split <;> simp
theorem c_p_is_even_in (T : Def K mg "_is_even_in" s_p__is_even_in) (B : Bl mg) : Cal P w K mg base 1 "_is_even_in" (SpD K REvIn) := by
  refine cal_of (k := 0) T sc_p__is_even_in (fun _ _ _ _ _ _ us hl => match us, hl with | [_, _], _ => rfl) (fun vs H Q E h => ?_) (fun f cdv A outer s H vs Q E hr h => ?_)
  · obtain ⟨ds, d, hd, ⟨z, c, _, _, rfl, _⟩, _⟩ := h
    exact dps_len hd
  obtain ⟨ds, d, hd, ⟨z, c, ez, hc, rfl, rfl⟩, q⟩ := h
  have nd := sc_p__is_even_in.nd
  cases hd with
  | cons h1 t =>
    cases t with
    | cons h2 t =>
      cases t
      cases h1
      cases h2
      refine ⟨_, (pss_cons (ps_set (i := 2) nd rfl (.inl rfl) (pe_lst (pa_cons pe_int pa_nil)))
    (pss_cons (ps_for PassesOwn.never rfl (pi_str (pv 0)) (pg_name (i := 3) nd rfl (.inl rfl))
    (pss_one (ps_expr (pe_bm PySem.F.plainAttrs_list PySem.F.slot_list_append PySem.F.type_list_append mt_append (pv 2) (pa_cons (pe_op op_add (pe_ix (ixSK (K := K) rfl) (pv 2) (pe_un un_neg pe_int) (fun _ _ => rfl)) (pe_ifExp (pt_cmpR (op_eqK (K := K) rfl hr.units) (pv 3) (pv 1) (nomark _)) pe_int pe_int)) pa_nil)))))
    (pss_cons (ps_for PassesOwn.never rfl (pi_range2 (by rfl) B.b_range (pa_cons pe_int (pa_cons (pe_callB (fr_lenSK (K := K) rfl) (by rfl) B.b_len PySem.boot_len (pa_cons (pv 0) pa_nil)) pa_nil))) (pg_name (i := 4) nd rfl (.inl rfl))
    (pss_cons (ps_setLc (i := 5) (own := [("ahead", 6), ("behind", 7)]) rfl nd rfl rfl (sw_true rfl rfl rfl (by decide +kernel)) (pi_zipAK (K := K) rfl (by rfl) B.b_zip (pa_cons (pv 2) (pa_cons (pe_slice (sl_listK (K := K) rfl) (pv 2) (po_some (pv 4)) po_none) pa_nil))) (blkOk_by (N := N_p__is_even_in) (sc := defScope s_p__is_even_in) (by decide +kernel)) (fun _ _ _ _ _ => (pg_tupK (K := K) (n := 2) rfl rfl (pgs_cons (pg_name (i := 6) nd rfl (Or.inl rfl)) (pgs_cons (pg_name (i := 7) nd rfl (Or.inl rfl)) pgs_nil)))) (fun _ _ _ _ _ => pts_nil) (fun _ _ _ _ _ => (pe_op op_sub (pv 7) (pv 6))))
    (pss_one (ps_if (pt_cmpR op_gt (pe_op op_sub (pe_callB (fr_maxLK (K := K) rfl rfl) (by rfl) B.b_max (by decide +kernel) (pa_cons (pv 5) pa_nil)) (pe_callB (fr_minLK (K := K) rfl rfl) (by rfl) B.b_min (by decide +kernel) (pa_cons (pv 5) pa_nil))) pe_int (nomark _))
    (pss_one (ps_ret pe_bl))
    pss_nil))))
    (pss_one (ps_ret pe_bl))))), ?_⟩
      obtain ⟨⟨z1, z2⟩, za⟩ := ez
      have zl : (TL.tl z).length = z.length := (tl_len z).symm
      refine qd_asgN (K := K) (en_lst (ds_cons ed_int ds_nil)) fun l xs H2 nl e2 hl hx => ?_
      obtain rfl : xs = sumsV c (TL.tl z) 0 := by
        cases hx with
        | cons g hx =>
          cases hx
          cases g
          rfl
      refine qd_str (K := K) (ed_var rfl (.str z)) (fun i σ' H' => ∃ y3, σ' = [some (.str z), some (.str (sg c)), some (.ref l), y3, none, none, none, none] ∧ Ex H H' ∧ H' l = some (.lst (sumsV c (TL.tl z) i)))
        (fun H3 e3 => ⟨none, rfl, e2.trans e3, e3 _ _ hl⟩) (fun i x σ' H3 hx hw => ?_) (fun σ' H3 hw => ?_)
      · obtain ⟨y3, rfl, ex, hl⟩ := hw
        have il : i < (TL.tl z).length := (List.getElem?_eq_some_iff.mp hx).1
        refine sd_appV (K := K) (k := 2) (d := .int (pre c (TL.tl z) (i + 1) : Int)) rfl hl (ed_is (ed_op (ed_op (ed_var rfl (sums_da hl)) (ed_neg ed_int) (opD_ixSL (sums_last _ _ _))) (ed_if (p := decide (sg x = sg c)) (d := .int (if x = c then 1 else 0)) (eq_test (K := K) (ed_op (ed_var rfl (.str (sg x))) (ed_var rfl (.str (sg c))) opD_eqS)) (fun y => ed_is ed_int ?_) (fun y => ed_is ed_int ?_)) opD_I0) (congrArg PyData.int (if_one hx))) (by rw [List.length_map, List.length_map, List.length_range]; omega) fun v H4 e4 dv => ?_
        · rw [if_pos (List.cons.inj (congrArg TL.tl (of_decide_eq_true y))).1]
        · rw [if_neg fun e => of_decide_eq_false y (by rw [e])]
        · cases dp_intI dv
          refine ⟨_, rfl, ex_upd (ex.trans e4) nl, ?_⟩
          rw [upd_same, sumsV_succ]
      · obtain ⟨y3, rfl, ex, hl⟩ := hw
        rw [tl_len] at hl
        refine qd_rng2 (K := K) (lo := 1) (n := (z.length : Int)) (ds_cons ed_int (ds_cons (ed_cb (ds_cons (ed_var rfl (.str z)) ds_nil) (cd_lenSS (by omega))) ds_nil)) ⟨by omega, by omega⟩ ⟨by omega, by omega⟩
          (fun j σ' H' => ∃ y4 y5, σ' = [some (.str z), some (.str (sg c)), some (.ref l), y3, y4, y5, none, none] ∧ Ex H H' ∧ H' l = some (.lst (sumsV c (TL.tl z) (TL.tl z).length)) ∧ ∀ s, 1 ≤ s → s < 1 + j → ∀ i j, i + s ≤ (TL.tl z).length → j + s ≤ (TL.tl z).length → pre c (TL.tl z) (i + s) - pre c (TL.tl z) i ≤ pre c (TL.tl z) (j + s) - pre c (TL.tl z) j + 1)
          (fun H4 e4 => ⟨_, _, rfl, ex.trans e4, e4 _ _ hl, fun s h1 h2 => by omega⟩) (fun j σ' H4 hj hw => ?_) (fun σ' H4 hw => ?_)
        · obtain ⟨y4, y5, rfl, ex4, hl4, ok⟩ := hw
          have es : (1 : Int) + (j : Int) = ((1 + j : Nat) : Int) := by omega
          have sl : 1 + j ≤ (TL.tl z).length := by omega
          have dl := sums_da (K := K) hl4
          obtain ⟨mx, x1, x2⟩ := has_max _ (gap_ne (c := c) sl)
          obtain ⟨mn, n1, n2⟩ := has_min _ (gap_ne (c := c) sl)
          refine qd_asgN (K := K) (en_is (en_lcN (fun _ => true) pairSub (it_zipL (ds_cons (ed_var rfl dl) (ds_cons (evn_d (en_is (ed_slL (ed_var rfl dl) (po_int (K := K) (ed_is (ed_var rfl (.int _)) (congrArg PyData.int es))) po_no) (cutD_drop (by rw [sums_len]; omega)))) ds_nil))) (by
            unfold zipD
            rw [List.length_zipWith, sums_len]
            omega) (fun e he => ?_) (fun e he _ => ?_)) (zip_gaps sl)) fun lf xf H5 nlf e5 hlf hxf => ?_
          · obtain ⟨a, b, rfl⟩ := zip_mem he
            exact turn_pair rfl (fun x y => rfl) (fun x y H5 e5 dx dy => et_yes) (fun x y H5 e5 dx dy _ => ed_op (ed_var rfl dy) (ed_var rfl dx) opD_I0)
          · obtain ⟨a, b, rfl⟩ := zip_mem he
            rfl
          have df : Da K H5 (.ref lf) (.list ((gapL c (TL.tl z) (1 + j)).map .int)) := .lst (SqL.of hlf) hxf
          refine s_when (b := decide (mx - mn > 1)) (eq_test (K := K) (ed_op (ed_op (ed_cb (ds_cons (ed_var rfl df) ds_nil) (cd_maxL x1 x2)) (ed_cb (ds_cons (ed_var rfl df) ds_nil) (cd_minL n1 n2)) opD_I0) ed_int opD_B0)) (fun b H6 e6 => ?_) (fun b H6 e6 => ?_)
          · refine sd_ret (K := K) (d := .bool (evB c (TL.tl z))) (ed_is ed_bl (by rw [gap_bad sl x1 n1 (of_decide_eq_true b)])) fun v H7 e7 dv => q v H7 (((ex4.trans e5).trans e6).trans e7) dv
          · refine ⟨_, _, rfl, (ex4.trans e5).trans e6, (e5.trans e6) _ _ hl4, fun s h1 h2 => ?_⟩
            by_cases h : s < 1 + j
            · exact ok s h1 h
            · obtain rfl : s = 1 + j := by omega
              exact gap_ok x2 n2 (of_decide_eq_false b)
        · obtain ⟨y4, y5, rfl, ex4, hl4, ok⟩ := hw
          exact sd_ret (K := K) (d := .bool (evB c (TL.tl z))) (ed_is ed_bl (by rw [gap_end fun s h1 h2 => ok s h1 (by omega)])) fun v H7 e7 dv => q v H7 (ex4.trans e7) dv
theorem c_p_is_even {tL : Addr} (T : Def K mg "is_even" s_p_is_even) (B : Bl mg) (G_LETTERS : mg "LETTERS" = some (.ref tL)) (L_LETTERS : ∀ H, Da K H (.ref tL) (.tuple (lets.map .str))) (C_p__is_even_in : Cal P w K mg base 1 "_is_even_in" (SpD K REvIn)) : Cal P w K mg base 2 "is_even" (SpD K RIsEven) := by
  refine cal_of (k := 1) T sc_p_is_even (fun _ _ _ _ _ _ us hl => match us, hl with | [_], _ => rfl) (fun vs H Q E h => ?_) (fun f cdv A outer s H vs Q E hr h => ?_)
  · obtain ⟨ds, d, hd, ⟨z, _, rfl, _⟩, _⟩ := h
    exact dps_len hd
  obtain ⟨ds, d, hd, ⟨z, ez, rfl, rfl⟩, q⟩ := h
  have nd := sc_p_is_even.nd
  cases hd with
  | cons h1 t =>
    cases t
    cases h1
    refine ⟨_, (pss_one (ps_ret (pe_callB (fr_allK (K := K) rfl rfl) (by rfl) B.b_all (by decide +kernel) (pa_cons (pe_lc (own := [("letter", 1)]) rfl nd (pi_seqK (K := K) rfl (pe_glob (v := .ref _) (by rfl) G_LETTERS rfl)) (blkOk_by (N := N_p_is_even) (sc := defScope s_p_is_even) (by decide +kernel)) (fun _ _ _ _ _ => (pg_name (i := 1) nd rfl (Or.inl rfl))) (fun _ _ _ _ _ => pts_nil) (fun _ _ _ _ _ => (pe_c C_p__is_even_in hr (by decide) (by rfl) (pa_cons (pv 0) (pa_cons (pv 1) pa_nil))))) pa_nil)))), ?_⟩
    have gl : ∀ {σ : L2.St} {H : Hp}, EvD K (tC (.ref tL)) σ H (.tuple (lets.map .str)) := fun H1 e Q q => q _ H1 (Ex.refl H1) (L_LETTERS H1)
    refine sd_ret (K := K) (d := .bool (evA (TL.tl z))) (ed_cb (ds_cons (evn_d (en_is (en_lcI (fun _ => true) (fun d => .bool (evB (((TL.tl (strOf d)))[0]?.getD 0) (TL.tl z))) (it_seq gl (.tup _)) (by decide) (fun e he => ?_) (fun e he _ => rfl)) rfl)) ds_nil) (cd_all (bs := [evB 78 (TL.tl z), evB 84 (TL.tl z), evB 66 (TL.tl z)]))) fun v H2 e2 dv => q v H2 e2 dv
    obtain ⟨c, hc, rfl⟩ : ∃ c, isL c ∧ e = dsg c := by
      have he : e ∈ [dsg 78, dsg 84, dsg 66] := he
      simp only [List.mem_cons, List.mem_nil_iff, or_false] at he
      rcases he with rfl | rfl | rfl
      · exact ⟨78, Or.inl rfl, rfl⟩
      · exact ⟨84, Or.inr (Or.inl rfl), rfl⟩
      · exact ⟨66, Or.inr (Or.inr rfl), rfl⟩
    exact turn_name (fun x => rfl) (fun _ _ _ _ => et_yes) (fun u H2 e2 du _ => ed_call (ds_cons (ed_var rfl (.str z)) (ds_cons (ed_var rfl du) ds_nil)) ⟨z, c, ez, hc, rfl, rfl⟩)

theorem all_three {p q r : Bool} : [p, q, r].all id = (p && (q && r)) := by cases p <;> cases q <;> cases r <;> rfl
theorem range_gaps {c : Nat} {cs : List Nat} {s : Nat} (hs : s ≤ cs.length) : ((List.range (cs.length + 1 - s)).map fun k : Nat => PyData.int ((pre c cs (k + s) : Int) - pre c cs k)) = (gapL c cs s).map .int := by
  unfold gapL
  rw [List.map_map]
  rfl
theorem c_is_even (T : Def K mg "_law_is_even" s_is_even) (B : Bl mg) : Cal P w K mg base 1 "_law_is_even" (SpD K RIsEven) := by
  refine cal_of (k := 0) T sc_is_even (fun _ _ _ _ _ _ us hl => match us, hl with | [_], _ => rfl) (fun vs H Q E h => ?_) (fun f cdv A outer s H vs Q E hr h => ?_)
  · obtain ⟨ds, d, hd, ⟨z, _, rfl, _⟩, _⟩ := h
    exact dps_len hd
  obtain ⟨ds, d, hd, ⟨z, ez, rfl, rfl⟩, q⟩ := h
  have nd := sc_is_even.nd
  cases hd with
  | cons h1 t =>
    cases t
    cases h1
    refine ⟨_, (pss_cons (ps_for PassesOwn.never rfl (pi_seqK (K := K) rfl (pe_tup (pa_cons pe_str (pa_cons pe_str (pa_cons pe_str pa_nil))))) (pg_name (i := 1) nd rfl (.inl rfl))
    (pss_cons (ps_set (i := 2) nd rfl (.inr rfl) (pe_lst (pa_cons pe_int pa_nil)))
    (pss_cons (ps_for PassesOwn.never rfl (pi_str (pv 0)) (pg_name (i := 3) nd rfl (.inl rfl))
    (pss_one (ps_expr (pe_bm PySem.F.plainAttrs_list PySem.F.slot_list_append PySem.F.type_list_append mt_append (pv 2) (pa_cons (pe_op op_add (pe_ix (ixSK (K := K) rfl) (pv 2) (pe_un un_neg pe_int) (fun _ _ => rfl)) (pe_callTy fr_int (by rfl) B.b_int (by decide +kernel) (pa_cons (pe_cmpR (op_eqK (K := K) rfl hr.units) (pv 3) (pv 1) (nomark _)) pa_nil))) pa_nil)))))
    (pss_one (ps_for PassesOwn.never rfl (pi_range2 (by rfl) B.b_range (pa_cons pe_int (pa_cons (pe_op op_add (pe_callB (fr_lenSK (K := K) rfl) (by rfl) B.b_len PySem.boot_len (pa_cons (pv 0) pa_nil)) pe_int) pa_nil))) (pg_name (i := 4) nd rfl (.inr rfl))
    (pss_cons (ps_setLc (i := 5) (own := [("_law_k", 6)]) rfl nd rfl rfl (sw_true rfl rfl rfl (by decide +kernel)) (pi_range1 (by rfl) B.b_range (pa_cons (pe_op op_add (pe_op op_sub (pe_callB (fr_lenSK (K := K) rfl) (by rfl) B.b_len PySem.boot_len (pa_cons (pv 0) pa_nil)) (pv 4)) pe_int) pa_nil)) (blkOk_by (N := N_is_even) (sc := defScope s_is_even) (by decide +kernel)) (fun _ _ _ _ _ => (pg_name (i := 6) nd rfl (Or.inl rfl))) (fun _ _ _ _ _ => pts_nil) (fun _ _ _ _ _ => (pe_op op_sub (pe_ix (ixSK (K := K) rfl) (pv 2) (pe_op op_add (pv 6) (pv 4)) (fun _ _ => rfl)) (pe_ix (ixSK (K := K) rfl) (pv 2) (pv 6) (fun _ _ => rfl)))))
    (pss_one (ps_if (pt_cmpR op_gt (pe_op op_sub (pe_callB (fr_maxLK (K := K) rfl rfl) (by rfl) B.b_max (by decide +kernel) (pa_cons (pv 5) pa_nil)) (pe_callB (fr_minLK (K := K) rfl rfl) (by rfl) B.b_min (by decide +kernel) (pa_cons (pv 5) pa_nil))) pe_int (nomark _))
    (pss_one (ps_ret pe_bl))
    pss_nil))))))))
    (pss_one (ps_ret pe_bl))), ?_⟩
    obtain ⟨⟨z1, z2⟩, za⟩ := ez
    have zl : (TL.tl z).length = z.length := (tl_len z).symm
    -- slots: edge, letter, sums, sign, long, counts, k
    refine qd_seq (K := K) (d := .tuple [dsg 78, dsg 84, dsg 66]) (ed_tup (ds_cons ed_str (ds_cons ed_str (ds_cons ed_str ds_nil)))) (.tup _) (fun v j σ' H' => ∃ y1 y2 y3 y4 y5, σ' = [some (.str z), y1, y2, y3, y4, y5, none] ∧ Ex H H' ∧ Da K H' v (.tuple [dsg 78, dsg 84, dsg 66]) ∧ ∀ k c, k < j → [78, 84, 66][k]? = some c → evB c (TL.tl z) = true) (fun v H1 e1 dv => ⟨_, _, _, _, _, rfl, e1, dv, fun k c h => by omega⟩) (fun v j σ' H1 hw => ?_) (fun v j e x σ' H1 he hw dx => ?_) (fun v σ' H1 hw => ?_)
    · obtain ⟨_, _, _, _, _, _, _, dv, _⟩ := hw
      exact dv
    · obtain ⟨y1, y2, y3, y4, y5, rfl, ex0, dv0, okl⟩ := hw
      obtain ⟨c, hc, rfl⟩ : ∃ c, [78, 84, 66][j]? = some c ∧ e = dsg c := by
        match j, he with
        | 0, he => exact ⟨78, rfl, (Option.some.inj he).symm⟩
        | 1, he => exact ⟨84, rfl, (Option.some.inj he).symm⟩
        | 2, he => exact ⟨66, rfl, (Option.some.inj he).symm⟩
      have bad : evB c (TL.tl z) = false → evA (TL.tl z) = false := fun h => by
        unfold evA
        rw [all_three]
        match j, hc with
        | 0, hc => cases hc; rw [h]; rfl
        | 1, hc => cases hc; rw [h]; simp
        | 2, hc => cases hc; rw [h]; simp
      cases dx
      refine qd_asgN (K := K) (en_lst (ds_cons ed_int ds_nil)) fun l xs H2 nl e2 hl hx => ?_
      obtain rfl : xs = sumsV c (TL.tl z) 0 := by
        cases hx with
        | cons g hx =>
          cases hx
          cases g
          rfl
      refine qd_str (K := K) (ed_var rfl (.str z)) (fun i σ' H' => ∃ y3, σ' = [some (.str z), some (.str (sg c)), some (.ref l), y3, y4, y5, none] ∧ Ex H1 H' ∧ H' l = some (.lst (sumsV c (TL.tl z) i)))
        (fun H3 e3 => ⟨_, rfl, e2.trans e3, e3 _ _ hl⟩) (fun i x σ' H3 hx hw => ?_) (fun σ' H3 hw => ?_)
      · obtain ⟨y3, rfl, ex, hl⟩ := hw
        have il : i < (TL.tl z).length := (List.getElem?_eq_some_iff.mp hx).1
        refine sd_appV (K := K) (k := 2) (d := .int (pre c (TL.tl z) (i + 1) : Int)) rfl hl (ed_is (ed_op (ed_op (ed_var rfl (sums_da hl)) (ed_neg ed_int) (opD_ixSL (sums_last _ _ _))) (ed_cb (ds_cons (ed_op (ed_var rfl (.str (sg x))) (ed_var rfl (.str (sg c))) opD_eqS) ds_nil) cd_intB) opD_I0) ?_) (by rw [List.length_map, List.length_map, List.length_range]; omega) fun v H4 e4 dv => ?_
        · refine congrArg PyData.int ?_
          rw [← if_one hx]
          congr 1
          by_cases e : x = c
          · rw [if_pos e, if_pos (decide_eq_true (by rw [e]))]
          · rw [if_neg e, if_neg]
            intro h
            exact e (List.cons.inj (congrArg TL.tl (of_decide_eq_true h))).1
        · cases dp_intI dv
          refine ⟨_, rfl, ex_upd (ex.trans e4) nl, ?_⟩
          rw [upd_same, sumsV_succ]
      · obtain ⟨y3, rfl, ex, hl⟩ := hw
        rw [tl_len] at hl
        refine sd_rng2 (K := K) (lo := 1) (n := (z.length : Int) + 1) (ds_cons ed_int (ds_cons (ed_op (ed_cb (ds_cons (ed_var rfl (.str z)) ds_nil) (cd_lenSS (by omega))) ed_int opD_I0) ds_nil)) ⟨by omega, by omega⟩ ⟨by omega, by omega⟩
          (fun j σ' H' => ∃ y4 y5, σ' = [some (.str z), some (.str (sg c)), some (.ref l), y3, y4, y5, none] ∧ Ex H1 H' ∧ H' l = some (.lst (sumsV c (TL.tl z) (TL.tl z).length)) ∧ ∀ s, 1 ≤ s → s < 1 + j → ∀ i j, i + s ≤ (TL.tl z).length → j + s ≤ (TL.tl z).length → pre c (TL.tl z) (i + s) - pre c (TL.tl z) i ≤ pre c (TL.tl z) (j + s) - pre c (TL.tl z) j + 1)
          (fun H4 e4 => ⟨_, _, rfl, ex.trans e4, e4 _ _ hl, fun s h1 h2 => by omega⟩) (fun t σ' H4 hj hw => ?_) (fun σ' H4 hw => ?_)
        · obtain ⟨y4, y5, rfl, ex4, hl4, ok⟩ := hw
          have sl : 1 + t ≤ (TL.tl z).length := by omega
          have dl := sums_da (K := K) hl4
          obtain ⟨mx, x1, x2⟩ := has_max _ (gap_ne (c := c) sl)
          obtain ⟨mn, n1, n2⟩ := has_min _ (gap_ne (c := c) sl)
          refine qd_asgN (K := K) (ds := (gapL c (TL.tl z) (1 + t)).map .int) (en_is (en_lcR (n := (z.length : Int) - (1 + (t : Int)) + 1) (fun _ => true) (fun d => .int ((pre c (TL.tl z) ((intOf d).toNat + (1 + t)) : Int) - pre c (TL.tl z) (intOf d).toNat)) (ds_cons (ed_op (ed_op (ed_cb (ds_cons (ed_var rfl (.str z)) ds_nil) (cd_lenSS (by omega))) (ed_var rfl (.int _)) opD_I0) ed_int opD_I0) ds_nil) ⟨by omega, by omega⟩ (fun k hk => ?_) (fun k hk _ => rfl)) ?_) fun lf xf H5 nlf e5 hlf hxf => ?_
          · have k1 : k + (1 + t) ≤ (TL.tl z).length := by omega
            refine turn_name (fun x => rfl) (fun _ _ _ _ => et_yes) (fun u H5 e5 du _ => ed_is (ed_op (ed_op (ed_var rfl (dpm e5 dl)) (ed_op (ed_var rfl du) (ed_var rfl (.int _)) opD_I0) (opD_ixSL (d := .int (pre c (TL.tl z) (k + (1 + t)) : Int)) ?_)) (ed_op (ed_var rfl (dpm e5 dl)) (ed_var rfl du) (opD_ixSL (d := .int (pre c (TL.tl z) k : Int)) (atI_nat (sums_at (by omega))))) opD_I0) ?_)
            · rw [show (k : Int) + (1 + (t : Int)) = ((k + (1 + t) : Nat) : Int) by omega]
              exact atI_nat (sums_at k1)
            · show _ = PyData.int ((pre c (TL.tl z) (((k : Int)).toNat + (1 + t)) : Int) - pre c (TL.tl z) ((k : Int)).toNat)
              rw [Int.toNat_natCast]
          · rw [List.filter_eq_self.mpr (fun _ _ => rfl), ← range_gaps sl]
            unfold upto
            rw [List.map_map, show ((z.length : Int) - (1 + (t : Int)) + 1).toNat = (TL.tl z).length + 1 - (1 + t) by omega]
            refine List.map_congr_left fun k _ => ?_
            show PyData.int ((pre c (TL.tl z) (((k : Int)).toNat + (1 + t)) : Int) - pre c (TL.tl z) ((k : Int)).toNat) = _
            rw [Int.toNat_natCast]
          have df : Da K H5 (.ref lf) (.list ((gapL c (TL.tl z) (1 + t)).map .int)) := .lst (SqL.of hlf) hxf
          refine s_when (b := decide (mx - mn > 1)) (eq_test (K := K) (ed_op (ed_op (ed_cb (ds_cons (ed_var rfl df) ds_nil) (cd_maxL x1 x2)) (ed_cb (ds_cons (ed_var rfl df) ds_nil) (cd_minL n1 n2)) opD_I0) ed_int opD_B0)) (fun b H6 e6 => ?_) (fun b H6 e6 => ?_)
          · refine sd_ret (K := K) (d := .bool (evA (TL.tl z))) (ed_is ed_bl (by rw [bad (gap_bad sl x1 n1 (of_decide_eq_true b))])) fun v H7 e7 dv => q v H7 (ex0.trans (((ex4.trans e5).trans e6).trans e7)) dv
          · refine ⟨_, _, rfl, (ex4.trans e5).trans e6, (e5.trans e6) _ _ hl4, fun s h1 h2 => ?_⟩
            by_cases h : s < 1 + t
            · exact ok s h1 h
            · obtain rfl : s = 1 + t := by omega
              exact gap_ok x2 n2 (of_decide_eq_false b)
        · obtain ⟨y4, y5, rfl, ex4, hl4, ok⟩ := hw
          refine ⟨_, _, _, _, _, rfl, ex0.trans ex4, dpm ex4 dv0, fun k c' hk hc' => ?_⟩
          by_cases e : k < j
          · exact okl k c' e hc'
          · obtain rfl : k = j := by omega
            rw [hc] at hc'
            cases hc'
            exact gap_end fun s h1 h2 => ok s h1 (by omega)
    · obtain ⟨y1, y2, y3, y4, y5, rfl, ex0, _, okl⟩ := hw
      refine sd_ret (K := K) (d := .bool (evA (TL.tl z))) (ed_is ed_bl ?_) fun v H7 e7 dv => q v H7 (ex0.trans e7) dv
      unfold evA
      rw [okl 0 78 (by decide) rfl, okl 1 84 (by decide) rfl, okl 2 66 (by decide) rfl]
      rfl

theorem ed_rep2 {K : PySem.W.Frag} {tl : TE} {σ : L2.St} {H : Hp} {a : PyData} (h : EvN K tl σ H [a]) : EvD K (tOp rRep tl (tC (.int 2))) σ H (.list [a, a]) := fun H1 e Q q => h H1 e _ fun l xs H2 nl e2 hl hx => by
  cases hx with
  | cons d1 t =>
    cases t
    exact opD_rep2 hl fun p np => q _ _ (e2.trans (Ex.new np)) (.lst (SqL.of upd_same) (.cons (dpm (Ex.new np) d1) (.cons (dpm (Ex.new np) d1) .nil)))

def spLaw (K : PySem.W.Frag) : Sp := fun vs H Q _ => ∃ (a : Addr) (ns : List Int), vs = [.ref a] ∧ SqL K H a (ns.map V.int) ∧ ns.length ≤ 63 ∧ ∀ H', Q (.bl true) H'
theorem evens_tr {p q : Bool} : TameR 40 200000 (.list [.bool p, .bool q]) := ((tame_list (tameL_cons (tame_bool (n := 0) (w := 24)) (tameL_cons (tame_bool (n := 0) (w := 24)) (tameL_nil (n := 0) (w := 0))))).mono (by decide) (by decide)).r
theorem even_tr {p : Bool} : TameR 40 200000 (.bool p) := (tame_bool (n := 40) (w := 200000)).r
theorem ok_law {f : Addr} {fd : FuncData} (F : Fun K "law" "law" s_law f fd) (sysm : ∃ mm, base.Ns sysModules mm) (B : Bl mg) (C_deck : Cal P w K mg base 1 "_law_deck" (spDeck K)) (C_draw : Cal P w K mg base 1 "_law_draw" spDr) (C_one : Cal P w K mg base 2 "_law_one" (spOneS K)) (C_edge : Cal P w K mg base 3 "_law_edge" (spEdge K))
    (C_p_is_even : Cal P w K mg base 2 "is_even" (SpD K RIsEven)) (C_is_even : Cal P w K mg base 1 "_law_is_even" (SpD K RIsEven)) : FnG P w K mg base 4 f fd ["_law_script"] (spLaw K) := by
  refine Fun_okG (k := 3) F sc_law (fun vs H Q E h => ?_) (fun cdv A outer s H vs Q E hr gu0 h => ?_)
  · obtain ⟨a, ns, rfl, _⟩ := h
    rfl
  obtain ⟨a, ns, rfl, hs, sm, q⟩ := h
  have nd := sc_law.nd
  have gu : ∀ e : Env, (A.deeper e).guards = some [] := fun e => gu0
  refine ⟨_, (pss_cons (ps_set (i := 1) nd rfl (.inl rfl) (pe_c C_deck hr (by decide) (by rfl) (pa_cons (pv 0) pa_nil)))
    (pss_cons (ps_for PassesOwn.never rfl (pi_range1 (by rfl) B.b_range (pa_cons pe_int pa_nil)) (pg_name (i := 2) nd rfl (.inl rfl))
    (pss_cons (ps_par (i := 3) (j := 4) rfl nd rfl rfl (by decide) rfl rfl (pa_cons (pe_c C_draw hr (by decide) (by rfl) (pa_cons (pv 1) (pa_cons pe_int pa_nil))) (pa_cons (pe_c C_one hr (by decide) (by rfl) (pa_cons (pv 1) (pa_cons (pe_lst (pa_cons pe_str (pa_cons pe_str pa_nil))) pa_nil))) pa_nil)) rfl)
    (pss_one (ps_for PassesOwn.never rfl (pi_seqK (K := K) rfl (pe_tup (pa_cons pe_int (pa_cons pe_int pa_nil)))) (pg_name (i := 5) nd rfl (.inl rfl))
    (pss_cons (ps_set (i := 6) nd rfl (.inl rfl) (pe_op op_addS (pe_op op_addS (pe_op op_addS (pv 4) (pe_op op_mulS pe_str (pv 3))) (pv 4)) (pe_op op_mulS pe_str (pe_op op_add (pv 3) (pv 5)))))
    (pss_one (ps_if (pt_cmpR (op_neK (K := K) rfl hr.units) (pe_callB (fr_reprK (K := K) rfl (gu _) sysm hr) (by rfl) B.b_repr (by decide +kernel) (pa_cons (pe_lst (pa_cons (pe_c C_p_is_even hr (by decide) (by rfl) (pa_cons (pv 6) pa_nil)) (pa_cons (pe_c C_p_is_even hr (by decide) (by rfl) (pa_cons (pe_revS (pv 6)) pa_nil)) pa_nil))) pa_nil)) (pe_callB (fr_reprK (K := K) rfl (gu _) sysm hr) (by rfl) B.b_repr (by decide +kernel) (pa_cons (pe_op op_rep (pe_lst (pa_cons (pe_c C_is_even hr (by decide) (by rfl) (pa_cons (pv 6) pa_nil)) pa_nil)) pe_int) pa_nil)) (nomark _))
    (pss_one (ps_ret pe_bl))
    pss_nil)))))))
    (pss_cons (ps_for PassesOwn.never rfl (pi_range1 (by rfl) B.b_range (pa_cons pe_int pa_nil)) (pg_name (i := 2) nd rfl (.inl rfl))
    (pss_cons (ps_set (i := 6) nd rfl (.inl rfl) (pe_c C_edge hr (by decide) (by rfl) (pa_cons (pv 1) (pa_cons (pe_ifExp (pt_cmpR op_gt (pv 2) pe_int (nomark _)) pe_int pe_int) pa_nil))))
    (pss_one (ps_for PassesOwn.never rfl (pi_seqK (K := K) rfl (pe_lst (pa_cons (pv 6) (pa_cons (pe_revS (pv 6)) (pa_cons (pe_slice sl_str (pe_op op_addS (pv 6) (pe_slice sl_str (pv 6) po_none (po_some pe_int))) po_none (po_some pe_int)) (pa_cons (pe_slice sl_str (pv 6) po_none (po_some pe_int)) (pa_cons (pe_slice sl_str (pv 6) po_none (po_some pe_int)) pa_nil))))))) (pg_name (i := 7) nd rfl (.inl rfl))
    (pss_one (ps_if (pt_cmpR (op_neK (K := K) rfl hr.units) (pe_callB (fr_reprK (K := K) rfl (gu _) sysm hr) (by rfl) B.b_repr (by decide +kernel) (pa_cons (pe_c C_p_is_even hr (by decide) (by rfl) (pa_cons (pv 7) pa_nil)) pa_nil)) (pe_callB (fr_reprK (K := K) rfl (gu _) sysm hr) (by rfl) B.b_repr (by decide +kernel) (pa_cons (pe_c C_is_even hr (by decide) (by rfl) (pa_cons (pv 7) pa_nil)) pa_nil)) (nomark _))
    (pss_one (ps_ret pe_bl))
    pss_nil))))))
    (pss_one (ps_ret (pe_cmpR (op_eqK (K := K) rfl hr.units) (pe_callB (fr_reprK (K := K) rfl (gu _) sysm hr) (by rfl) B.b_repr (by decide +kernel) (pa_cons (pe_lc (own := [("_law_value", 7)]) rfl nd (pi_seqK (K := K) rfl (pe_lst (pa_cons pe_str (pa_cons pe_str (pa_cons pe_str (pa_cons pe_str (pa_cons pe_str (pa_cons pe_str (pa_cons pe_str pa_nil))))))))) (blkOk_by (N := N_law) (sc := defScope s_law) (by decide +kernel)) (fun _ _ _ _ _ => (pg_name (i := 7) nd rfl (Or.inl rfl))) (fun _ _ _ _ _ => pts_nil) (fun _ _ _ _ _ => (pe_c C_p_is_even hr (by decide) (by rfl) (pa_cons (pv 7) pa_nil)))) pa_nil)) (pe_callB (fr_reprK (K := K) rfl (gu _) sysm hr) (by rfl) B.b_repr (by decide +kernel) (pa_cons (pe_lc (own := [("_law_value", 7)]) rfl nd (pi_seqK (K := K) rfl (pe_lst (pa_cons pe_str (pa_cons pe_str (pa_cons pe_str (pa_cons pe_str (pa_cons pe_str (pa_cons pe_str (pa_cons pe_str pa_nil))))))))) (blkOk_by (N := N_law) (sc := defScope s_law) (by decide +kernel)) (fun _ _ _ _ _ => (pg_name (i := 7) nd rfl (Or.inl rfl))) (fun _ _ _ _ _ => pts_nil) (fun _ _ _ _ _ => (pe_c C_is_even hr (by decide) (by rfl) (pa_cons (pv 7) pa_nil)))) pa_nil)) (nomark _))))))), ?_⟩
  refine ⟨.ref a, rfl, a, ns, rfl, hs, sm, fun D L H0 e0 dk0 => ?_⟩
  -- letters far apart
  refine qd_rng (K := K) (ds_cons ed_int ds_nil) ⟨by decide, by decide⟩ (fun i σ' H' => ∃ y2 y3 y4 y5 y6 y7, σ' = [some (.ref a), some (.ref D), y2, y3, y4, y5, y6, y7] ∧ Dk H' D L ns (10 * i))
    (fun H1 e1 => ⟨none, none, none, none, none, none, rfl, dk_ex e1 ⟨0, Nat.le_refl _, dk0⟩⟩) (fun i σ' H1 hi hw => ?_) (fun σ' H1 hw => ?_)
  · obtain ⟨y2, y3, y4, y5, y6, y7, rfl, dk⟩ := hw
    refine ⟨.ref D, rfl, D, L, ns, _, 98, rfl, dk, by omega, by decide, by decide, fun m H2 ey2 dk2 m0 m1 => ?_⟩
    refine ⟨.ref D, rfl, ?_⟩
    refine use_ed (K := K) (d := .list [.str (Str.ofString "N"), .str (Str.ofString "T")]) (ed_lst (ds_cons ed_str (ds_cons ed_str ds_nil))) fun vo H3 e3 dvo => ?_
    refine ⟨D, L, ns, _, vo, _, [.str (Str.ofString "N"), .str (Str.ofString "T")], rfl, dk_ex e3 dk2, by omega, dvo, Or.inl rfl, by show 1 ≤ 2; decide, by show 2 ≤ 100000; decide, fun xt d H4 ey4 dk4 mem dx => ?_⟩
    obtain ⟨lc, rfl, il⟩ : ∃ lc, d = .str (sg lc) ∧ isL lc := by
      simp only [List.mem_cons, List.mem_nil_iff, or_false] at mem
      rcases mem with rfl | rfl
      · exact ⟨78, congrArg PyData.str (show Str.ofString "N" = sg 78 by decide), by decide⟩
      · exact ⟨84, congrArg PyData.str (show Str.ofString "T" = sg 84 by decide), by decide⟩
    cases dx
    refine ⟨.int m, .str (sg lc), rfl, ?_⟩
    obtain ⟨mn, rfl⟩ := Int.eq_ofNat_of_zero_le m0
    have mn97 : mn ≤ 97 := by omega
    dsimp only [gName, List.set]
    refine sd_seq (K := K) (d := .tuple [.int 1, .int 2]) (ed_tup (ds_cons ed_int (ds_cons ed_int ds_nil))) (.tup _) (fun v k σ' H' => ∃ z5 z6, σ' = [some (.ref a), some (.ref D), some (.int (i : Int)), some (.int (mn : Int)), some (.str (sg lc)), z5, z6, y7] ∧ Ex H4 H' ∧ Da K H' v (.tuple [.int 1, .int 2]))
      (fun v H5 e5 dv => ⟨_, _, rfl, e5, dv⟩) (fun v k σ' H' hw => ?_) (fun v k e u σ' H' he hw du => ?_) (fun v σ' H' hw => ?_)
    · obtain ⟨_, _, _, _, dv⟩ := hw
      exact dv
    · obtain ⟨z5, z6, rfl, ex, dv⟩ := hw
      obtain ⟨r, rfl, r2⟩ : ∃ r : Nat, e = .int (r : Int) ∧ r ≤ 2 := by
        have mem := List.mem_of_getElem? he
        simp only [List.mem_cons, List.mem_nil_iff, or_false] at mem
        rcases mem with rfl | rfl
        · exact ⟨1, rfl, by decide⟩
        · exact ⟨2, rfl, by decide⟩
      cases dp_intI du
      have ed := edge_lblb il mn97 r2
      have lB : (Str.ofString "B").length = 1 := rfl
      have lS : (sg lc).length = 1 := rfl
      have lm := Mm.len_mul (Str.ofString "B") mn
      rw [lB] at lm
      have eMR : ((mn : Int) + (r : Int)) = ((mn + r : Nat) : Int) := by omega
      have lmr := Mm.len_mul (Str.ofString "B") (mn + r)
      rw [lB] at lmr
      refine qd_asg (K := K) (d := .str (sg lc ++ Txt.mul (Str.ofString "B") (mn : Int) ++ sg lc ++ Txt.mul (Str.ofString "B") ((mn : Int) + (r : Int)))) (ed_op (ed_op (ed_op (ed_var rfl (.str _)) (ed_op ed_str (ed_var rfl (.int _)) (opD_mulS (mul_ok (by rw [lB]; omega) (by omega)))) (opD_addS (by rw [lS, lm]; omega))) (ed_var rfl (.str _)) (opD_addS (by rw [len_addS, lS, lm]; omega)))
        (ed_op ed_str (ed_op (ed_var rfl (.int _)) (ed_var rfl (.int _)) opD_I0) (opD_mulS (by rw [eMR]; exact mul_ok (by rw [lB]; omega) (by omega)))) (opD_addS (by rw [len_addS, len_addS, lS, lm, eMR, lmr]; omega))) fun v6 H6 e6 d6 => ?_
      cases d6
      generalize sg lc ++ Txt.mul (Str.ofString "B") (mn : Int) ++ sg lc ++ Txt.mul (Str.ofString "B") ((mn : Int) + (r : Int)) = z at ed
      have zl := ed.1.2
      refine s_skip (eq_test (K := K) (ed_op (ed_cb (ds_cons (ed_lst (ds_cons (ed_call (ds_cons (ed_var rfl (.str z)) ds_nil) ⟨z, ed, rfl, rfl⟩) (ds_cons (ed_call (ds_cons (ed_revS (ed_var rfl (.str z)) (by omega)) ds_nil) ⟨_, edge_rev ed, rfl, rfl⟩) ds_nil))) ds_nil) (cd_reprX evens_tr))
        (ed_cb (ds_cons (ed_rep2 (en_lst (ds_cons (ed_call (ds_cons (ed_var rfl (.str z)) ds_nil) ⟨z, ed, rfl, rfl⟩) ds_nil))) ds_nil) (cd_reprX evens_tr)) opD_neS)) ?_ fun H7 e7 => ⟨_, _, rfl, (ex.trans e6).trans e7, dpm (e6.trans e7) dv⟩
      rw [tl_mk, evA_rev]
      exact neS_same rfl
    · obtain ⟨z5, z6, rfl, ex, _⟩ := hw
      exact ⟨_, _, _, _, _, _, rfl, dk_le (dk_ex ex dk4) (by omega)⟩
  -- drawn words
  obtain ⟨y2, y3, y4, y5, y6, y7, rfl, dk⟩ := hw
  refine qd_rng (K := K) (ds_cons ed_int ds_nil) ⟨by decide, by decide⟩ (fun i σ' H' => ∃ y2 y6 y7, σ' = [some (.ref a), some (.ref D), y2, y3, y4, y5, y6, y7] ∧ Dk H' D L ns (40 + 1000 * i))
    (fun H2 e2 => ⟨_, _, _, rfl, dk_le (dk_ex e2 dk) (by show 10 * 4 ≤ _; omega)⟩) (fun i σ' H2 hi hw => ?_) (fun σ' H2 hw => ?_)
  · obtain ⟨y2, y6, y7, rfl, dk⟩ := hw
    refine ⟨.ref D, rfl, ?_⟩
    refine use_ed (K := K) (d := .int (if decide ((1 : Int) < (i : Int)) = true then 80 else 200)) (ed_if (eq_test (K := K) (ed_op (ed_var rfl (.int (i : Int))) ed_int opD_B0)) (fun z => ed_is ed_int (by rw [if_pos z])) (fun z => ed_is ed_int (by rw [if_neg (by simpa using z)]))) fun vm H3 e3 dm => ?_
    cases dp_intI dm
    refine ⟨D, L, ns, _, _, rfl, dk_ex e3 dk, by omega, by split <;> omega, by split <;> omega, fun z H4 ey4 dk4 ed => ?_⟩
    have z1 := ed.1.1
    have z2 := ed.1.2
    have c1 := cutS_length z none (some 1)
    have app : ∀ c ∈ tl (z ++ cutS z none (some 1)), isL c := fun c hc => by
      rw [tl_append] at hc
      rcases List.mem_append.mp hc with hc | hc
      · exact ed.2 c hc
      · exact ed.2 c (tl_cut_sub hc)
    dsimp only [gName, List.set]
    refine sd_seqN (K := K) (en_lst (ds_cons (ed_var rfl (.str z)) (ds_cons (ed_revS (ed_var rfl (.str z)) (by omega)) (ds_cons (ed_slS (ed_op (ed_var rfl (.str z)) (ed_slS (ed_var rfl (.str z)) (by omega) po_no (po_int (K := K) ed_int)) (opD_addS (by omega))) (by rw [len_addS]; omega) po_no (po_int (K := K) ed_int)) (ds_cons (ed_slS (ed_var rfl (.str z)) (by omega) po_no (po_int (K := K) ed_int)) (ds_cons (ed_slS (ed_var rfl (.str z)) (by omega) po_no (po_int (K := K) ed_int)) ds_nil))))) (by show 5 ≤ 100000; decide))
      (fun l xs j σ' H' => ∃ u7, σ' = [some (.ref a), some (.ref D), some (.int (i : Int)), y3, y4, y5, some (.str z), u7] ∧ Ex H4 H' ∧ H' l = some (.lst xs) ∧ DaAll K H' xs [.str z, .str (mkS (tl z).reverse), .str (cutS (z ++ cutS z none (some 1)) none (some 200)), .str (cutS z none (some 3)), .str (cutS z none (some 1))])
      (fun l xs H7 nl e7 hl hx => ⟨_, rfl, e7, hl, hx⟩) (fun l xs j σ' H' hw => ?_) (fun l xs j e x σ' H' he hw dx => ?_) (fun l xs σ' H' hw => ?_)
    · obtain ⟨_, _, _, hl, hx⟩ := hw
      exact ⟨hl, hx⟩
    · obtain ⟨u7, rfl, ex, hl, hx⟩ := hw
      obtain ⟨w', rfl, ew⟩ : ∃ w' : Str, e = .str w' ∧ EdgeS w' := by
        have mem := List.mem_of_getElem? he
        simp only [List.mem_cons, List.mem_nil_iff, or_false] at mem
        rcases mem with rfl | rfl | rfl | rfl | rfl
        · exact ⟨_, rfl, ed⟩
        · exact ⟨_, rfl, edge_rev ed⟩
        · exact ⟨_, rfl, edge_take (k := 200) app (by rw [len_addS]; omega) (by decide) (by decide)⟩
        · exact ⟨_, rfl, edge_take (k := 3) ed.2 z1 (by decide) (by decide)⟩
        · exact ⟨_, rfl, edge_take (k := 1) ed.2 z1 (by decide) (by decide)⟩
      cases dx
      refine s_skip (eq_test (K := K) (ed_op (ed_cb (ds_cons (ed_call (ds_cons (ed_var rfl (.str w')) ds_nil) ⟨w', ew, rfl, rfl⟩) ds_nil) (cd_reprX even_tr)) (ed_cb (ds_cons (ed_call (ds_cons (ed_var rfl (.str w')) ds_nil) ⟨w', ew, rfl, rfl⟩) ds_nil) (cd_reprX even_tr)) opD_neS)) (neS_same rfl) fun H7 e7 => ⟨_, rfl, ex.trans e7, e7 _ _ hl, dpsm e7 hx⟩
    · obtain ⟨u7, rfl, ex, _, _⟩ := hw
      exact ⟨_, _, _, rfl, dk_le (dk_ex ex dk4) (by omega)⟩
  -- words that stand in the law
  obtain ⟨y2, y6, y7, rfl, dk⟩ := hw
  obtain ⟨ws, hws⟩ : ∃ ws : List Str, ws = [Str.ofString "B", Str.ofString "NB", Str.ofString "NNBB", Str.ofString "NNBNB", Str.ofString "BNNB", Str.ofString "NTB", Str.ofString "NTBB"] := ⟨_, rfl⟩
  have wed : ∀ z ∈ ws, EdgeS z := fun z hz => by
    rw [hws] at hz
    simp only [List.mem_cons, List.mem_nil_iff, or_false] at hz
    rcases hz with rfl | rfl | rfl | rfl | rfl | rfl | rfl <;> exact ⟨by decide, by decide⟩
  have both : ∀ {te : TE} {σ : L2.St} {H : Hp} {Cx : TE}, True → True := fun _ => trivial
  have tm : TameR 40 200000 (.list (ws.map fun z => .bool (evA (tl z)))) := by
    have t := tameL_all (n := 0) (a := 24) (ds := ws.map fun z => PyData.bool (evA (tl z))) fun d hd => by
      obtain ⟨z, _, rfl⟩ := List.mem_map.mp hd
      exact tame_bool
    have l : (ws.map fun z => PyData.bool (evA (tl z))).length = 7 := by rw [hws]; rfl
    rw [l] at t
    exact ((tame_list t).mono (by decide) (by decide)).r
  have pk : picked (fun _ => true) (fun d => .bool (evA (tl (strOf d)))) (ws.map .str) = ws.map fun z => .bool (evA (tl z)) := by
    unfold picked
    rw [List.filter_eq_self.mpr (fun _ _ => rfl), List.map_map]
    rfl
  have lw : EvD K (tLst (tCons (tC (.str (Str.ofString "B"))) (tCons (tC (.str (Str.ofString "NB"))) (tCons (tC (.str (Str.ofString "NNBB"))) (tCons (tC (.str (Str.ofString "NNBNB"))) (tCons (tC (.str (Str.ofString "BNNB"))) (tCons (tC (.str (Str.ofString "NTB"))) (tCons (tC (.str (Str.ofString "NTBB"))) tNil)))))))) [some (.ref a), some (.ref D), y2, y3, y4, y5, y6, y7] H2 (.list (ws.map .str)) := by
    rw [hws]
    exact ed_lst (ds_cons ed_str (ds_cons ed_str (ds_cons ed_str (ds_cons ed_str (ds_cons ed_str (ds_cons ed_str (ds_cons ed_str ds_nil)))))))
  have ll : (ws.map PyData.str).length ≤ 50000 := by rw [hws]; decide
  refine sd_ret (K := K) (d := .bool true) (ed_is (ed_op (ed_cb (ds_cons (ed_is (evn_d (en_lcI (ds := ws.map .str) (fun _ => true) (fun d => .bool (evA (tl (strOf d)))) (it_seq lw (.lst _)) ll (fun e he => ?_) (fun e he _ => rfl))) (congrArg PyData.list pk)) ds_nil) (cd_reprX tm)) (ed_cb (ds_cons (ed_is (evn_d (en_lcI (ds := ws.map .str) (fun _ => true) (fun d => .bool (evA (tl (strOf d)))) (it_seq lw (.lst _)) ll (fun e he => ?_) (fun e he _ => rfl))) (congrArg PyData.list pk)) ds_nil) (cd_reprX tm)) opD_eqS) (by simp)) fun v H5 e5 dv => ?_
  · obtain ⟨z, hz, rfl⟩ := List.mem_map.mp he
    exact turn_name (fun x => rfl) (fun _ _ _ _ => et_yes) (fun u H5 e5 du _ => ed_call (ds_cons (ed_var rfl du) ds_nil) ⟨z, wed z hz, rfl, rfl⟩)
  · obtain ⟨z, hz, rfl⟩ := List.mem_map.mp he
    exact turn_name (fun x => rfl) (fun _ _ _ _ => et_yes) (fun u H5 e5 du _ => ed_call (ds_cons (ed_var rfl du) ds_nil) ⟨z, wed z hz, rfl, rfl⟩)
  cases dp_boolI dv
  exact q H5

theorem def_mk {h : Heap} {x : Str} {st : Stmt} {f : Addr} {oc : Value} {od an : Option Addr} {osl : Array (Option Value)} {kV doc pm cdv ct : Value} (X : K.In h) (G : h.Ns mainGlobals mg) (a : PySem.W.nsIn K mainGlobals x = some (some (.ref f)))
    (l : K.lookup f = some ⟨oc, od, .func (PySem.W.fnOf x x (defArgs st) (defBody st) (defScope st) .none kV doc pm an cdv ct), osl⟩) (c : PySem.W.codeIn K cdv x = true) (k : PySem.W.keepIn K (.ref f) = true) : Def K mg x st :=
  ⟨f, _, fun_mk l c k, PySem.W.mg_of X G a⟩
end
theorem all_mk {l : PySem.W.OpenLaw} {w : World} {K : PySem.W.Frag} {h : Heap} {mg : Str → Option Value} {fa fL : Addr} (X : K.In h) (G : h.Ns mainGlobals mg) (hfa : mg "law" = some (.ref fa))
    {f0 f1 f2 f3 f4 f5 f6 : Addr}
    {od0 an0 od1 an1 od2 an2 od3 an3 od4 an4 od5 an5 od6 an6 od7 an7 : Option Addr} {sl0 sl1 sl2 sl3 sl4 sl5 sl6 sl7 : Array (Option Value)}
    {oc0 kV0 dc0 pm0 cd0 ct0 oc1 kV1 dc1 pm1 cd1 ct1 oc2 kV2 dc2 pm2 cd2 ct2 oc3 kV3 dc3 pm3 cd3 ct3 oc4 kV4 dc4 pm4 cd4 ct4 oc5 kV5 dc5 pm5 cd5 ct5 oc6 kV6 dc6 pm6 cd6 ct6 oc7 kV7 dc7 pm7 cd7 ct7 : Value}
    (a0 : PySem.W.nsIn K mainGlobals "is_even" = some (some (.ref f0))) (l0 : K.lookup f0 = some ⟨oc0, od0, .func (PySem.W.fnOf "is_even" "is_even" (defArgs s_p_is_even) (defBody s_p_is_even) (defScope s_p_is_even) .none kV0 dc0 pm0 an0 cd0 ct0), sl0⟩) (c0 : PySem.W.codeIn K cd0 "is_even" = true) (k0 : PySem.W.keepIn K (.ref f0) = true)
    (a1 : PySem.W.nsIn K mainGlobals "_is_even_in" = some (some (.ref f1))) (l1 : K.lookup f1 = some ⟨oc1, od1, .func (PySem.W.fnOf "_is_even_in" "_is_even_in" (defArgs s_p__is_even_in) (defBody s_p__is_even_in) (defScope s_p__is_even_in) .none kV1 dc1 pm1 an1 cd1 ct1), sl1⟩) (c1 : PySem.W.codeIn K cd1 "_is_even_in" = true) (k1 : PySem.W.keepIn K (.ref f1) = true)
    (a2 : PySem.W.nsIn K mainGlobals "_law_deck" = some (some (.ref f2))) (l2 : K.lookup f2 = some ⟨oc2, od2, .func (PySem.W.fnOf "_law_deck" "_law_deck" (defArgs s_deck) (defBody s_deck) (defScope s_deck) .none kV2 dc2 pm2 an2 cd2 ct2), sl2⟩) (c2 : PySem.W.codeIn K cd2 "_law_deck" = true) (k2 : PySem.W.keepIn K (.ref f2) = true)
    (a3 : PySem.W.nsIn K mainGlobals "_law_draw" = some (some (.ref f3))) (l3 : K.lookup f3 = some ⟨oc3, od3, .func (PySem.W.fnOf "_law_draw" "_law_draw" (defArgs s_draw) (defBody s_draw) (defScope s_draw) .none kV3 dc3 pm3 an3 cd3 ct3), sl3⟩) (c3 : PySem.W.codeIn K cd3 "_law_draw" = true) (k3 : PySem.W.keepIn K (.ref f3) = true)
    (a4 : PySem.W.nsIn K mainGlobals "_law_one" = some (some (.ref f4))) (l4 : K.lookup f4 = some ⟨oc4, od4, .func (PySem.W.fnOf "_law_one" "_law_one" (defArgs s_one) (defBody s_one) (defScope s_one) .none kV4 dc4 pm4 an4 cd4 ct4), sl4⟩) (c4 : PySem.W.codeIn K cd4 "_law_one" = true) (k4 : PySem.W.keepIn K (.ref f4) = true)
    (a5 : PySem.W.nsIn K mainGlobals "_law_edge" = some (some (.ref f5))) (l5 : K.lookup f5 = some ⟨oc5, od5, .func (PySem.W.fnOf "_law_edge" "_law_edge" (defArgs s_edge) (defBody s_edge) (defScope s_edge) .none kV5 dc5 pm5 an5 cd5 ct5), sl5⟩) (c5 : PySem.W.codeIn K cd5 "_law_edge" = true) (k5 : PySem.W.keepIn K (.ref f5) = true)
    (a6 : PySem.W.nsIn K mainGlobals "_law_is_even" = some (some (.ref f6))) (l6 : K.lookup f6 = some ⟨oc6, od6, .func (PySem.W.fnOf "_law_is_even" "_law_is_even" (defArgs s_is_even) (defBody s_is_even) (defScope s_is_even) .none kV6 dc6 pm6 an6 cd6 ct6), sl6⟩) (c6 : PySem.W.codeIn K cd6 "_law_is_even" = true) (k6 : PySem.W.keepIn K (.ref f6) = true)
    (a7 : PySem.W.nsIn K mainGlobals "law" = some (some (.ref fL))) (l7 : K.lookup fL = some ⟨oc7, od7, .func (PySem.W.fnOf "law" "law" (defArgs s_law) (defBody s_law) (defScope s_law) .none kV7 dc7 pm7 an7 cd7 ct7), sl7⟩) (c7 : PySem.W.codeIn K cd7 "law" = true) (k7 : PySem.W.keepIn K (.ref fL) = true)
    (z_len : PySem.W.nsIn K mainGlobals "len" = some none)
    (z_abs : PySem.W.nsIn K mainGlobals "abs" = some none)
    (z_min : PySem.W.nsIn K mainGlobals "min" = some none)
    (z_max : PySem.W.nsIn K mainGlobals "max" = some none)
    (z_range : PySem.W.nsIn K mainGlobals "range" = some none)
    (z_list : PySem.W.nsIn K mainGlobals "list" = some none)
    (z_tuple : PySem.W.nsIn K mainGlobals "tuple" = some none)
    (z_int : PySem.W.nsIn K mainGlobals "int" = some none)
    (z_bool : PySem.W.nsIn K mainGlobals "bool" = some none)
    (z_repr : PySem.W.nsIn K mainGlobals "repr" = some none)
    (z_isinstance : PySem.W.nsIn K mainGlobals "isinstance" = some none)
    (z_dict : PySem.W.nsIn K mainGlobals "dict" = some none)
    (z_sorted : PySem.W.nsIn K mainGlobals "sorted" = some none)
    (z_set : PySem.W.nsIn K mainGlobals "set" = some none)
    (z_divmod : PySem.W.nsIn K mainGlobals "divmod" = some none)
    (z_sum : PySem.W.nsIn K mainGlobals "sum" = some none)
    (z_any : PySem.W.nsIn K mainGlobals "any" = some none)
    (z_all : PySem.W.nsIn K mainGlobals "all" = some none)
    (z_str : PySem.W.nsIn K mainGlobals "str" = some none)
    (z_enumerate : PySem.W.nsIn K mainGlobals "enumerate" = some none)
    (z_zip : PySem.W.nsIn K mainGlobals "zip" = some none)
    (z_ValueError : PySem.W.nsIn K mainGlobals "ValueError" = some none)
    (z_Exception : PySem.W.nsIn K mainGlobals "Exception" = some none)
    (z_super : PySem.W.nsIn K mainGlobals "super" = some none)
    (z_issubclass : PySem.W.nsIn K mainGlobals "issubclass" = some none)
    (z_type : PySem.W.nsIn K mainGlobals "type" = some none)
    {t_LETTERS : Addr} (g_LETTERS : PySem.W.nsIn K mainGlobals "LETTERS" = some (some (.ref t_LETTERS)))
    {od_LETTERS : Option Addr} {sl_LETTERS : Array (Option Value)} {n_LETTERS : Nat} {k0_LETTERS k1_LETTERS k2_LETTERS : Tok} (m_LETTERS : K.lookup t_LETTERS = some ⟨.type "tuple", od_LETTERS, .seq #[.str (PySem.Str.ofString "N") k0_LETTERS, .str (PySem.Str.ofString "T") k1_LETTERS, .str (PySem.Str.ofString "B") k2_LETTERS] n_LETTERS, sl_LETTERS⟩) :
    ∃ fd : FuncData, (∀ (s : Shared) (v : Value), BindsTo s fd ⟨[v], []⟩ [("_law_script", v)]) ∧ ∀ base : Heap, K.In base → base.Ns mainGlobals mg → (∃ mm, base.Ns sysModules mm) → FnG l.prog w K mg base 4 fa fd ["_law_script"] (spLaw K) := by
  have e := hfa.symm.trans (PySem.W.mg_of X G a7)
  cases e
  have F := fun_mk (st := s_law) l7 c7 k7
  have B : Bl mg := ⟨PySem.W.mg_none_of X G z_len, PySem.W.mg_none_of X G z_abs, PySem.W.mg_none_of X G z_min, PySem.W.mg_none_of X G z_max, PySem.W.mg_none_of X G z_range, PySem.W.mg_none_of X G z_list, PySem.W.mg_none_of X G z_tuple, PySem.W.mg_none_of X G z_int, PySem.W.mg_none_of X G z_bool, PySem.W.mg_none_of X G z_repr, PySem.W.mg_none_of X G z_isinstance, PySem.W.mg_none_of X G z_dict, PySem.W.mg_none_of X G z_sorted, PySem.W.mg_none_of X G z_set, PySem.W.mg_none_of X G z_divmod, PySem.W.mg_none_of X G z_sum, PySem.W.mg_none_of X G z_any, PySem.W.mg_none_of X G z_all, PySem.W.mg_none_of X G z_str, PySem.W.mg_none_of X G z_enumerate, PySem.W.mg_none_of X G z_zip, PySem.W.mg_none_of X G z_ValueError, PySem.W.mg_none_of X G z_Exception, PySem.W.mg_none_of X G z_super, PySem.W.mg_none_of X G z_issubclass, PySem.W.mg_none_of X G z_type⟩
  have T_p_is_even : Def K mg "is_even" s_p_is_even := def_mk X G a0 l0 c0 k0
  have T_p__is_even_in : Def K mg "_is_even_in" s_p__is_even_in := def_mk X G a1 l1 c1 k1
  have T_deck : Def K mg "_law_deck" s_deck := def_mk X G a2 l2 c2 k2
  have T_draw : Def K mg "_law_draw" s_draw := def_mk X G a3 l3 c3 k3
  have T_one : Def K mg "_law_one" s_one := def_mk X G a4 l4 c4 k4
  have T_edge : Def K mg "_law_edge" s_edge := def_mk X G a5 l5 c5 k5
  have T_is_even : Def K mg "_law_is_even" s_is_even := def_mk X G a6 l6 c6 k6
  have G_LETTERS := PySem.W.mg_of X G g_LETTERS
  refine ⟨PySem.W.fnOf "law" "law" (defArgs s_law) (defBody s_law) (defScope s_law) .none kV7 dc7 pm7 an7 cd7 ct7, fun s v => .of_eq rfl, fun base _ _ sm => ?_⟩
  have C_deck : Cal l.prog w K mg base 1 "_law_deck" (spDeck K) := c_deck T_deck B
  have C_draw : Cal l.prog w K mg base 1 "_law_draw" spDr := dr_of (c_draw T_draw B)
  have C_one : Cal l.prog w K mg base 2 "_law_one" (spOneS K) := c_oneS T_one B C_draw
  have L_LETTERS : ∀ H, Da K H (.ref t_LETTERS) (.tuple (lets.map .str)) := fun H => .tup (xs := [.str (Str.ofString "N"), .str (Str.ofString "T"), .str (Str.ofString "B")]) (Or.inr ⟨_, _, _, m_LETTERS, rfl, rfl, by show 3 ≤ sizeLine; decide, .cons ⟨_, rfl⟩ (.cons ⟨_, rfl⟩ (.cons ⟨_, rfl⟩ .nil))⟩) (.cons (.str _) (.cons (.str _) (.cons (.str _) .nil)))
  exact ok_law F sm B C_deck C_draw C_one (c_edge T_edge B C_draw C_one) (c_p_is_even T_p_is_even B G_LETTERS L_LETTERS (c_p_is_even_in T_p__is_even_in B)) (c_is_even T_is_even B)
end K22
open PySem PySem.W PyProof.Rows
set_option maxHeartbeats 0 in
theorem PySem.Challenge.cw_meshmend_k22_what_is_spread_evenly_holds : PySem.Challenge.rw_meshmend_k22_what_is_spread_evenly.Holds := by
  w_on; o_law; k_head; (case hw => w_witness2)
  k_fill
  refine Mm.walkG (l := PySem.Challenge.rw_meshmend_k22_what_is_spread_evenly) (n := 63) (k := 4) (x := "_law_script") (sp := K22.spLaw) (by decide +kernel) rfl (by decide) rfl ⟨rfl, by decide, by decide⟩ (fun w h Y => PySem.W.kIn_of Y) ?F (fun _ _ a ns hl _ hS => ⟨a, ns, rfl, hS, hl, fun _ => rfl⟩)
  case F =>
    intro w mg fa h KX G hmg
    refine' K22.all_mk KX G hmg ?a0 ?l0 ?c0 ?k0 ?a1 ?l1 ?c1 ?k1 ?a2 ?l2 ?c2 ?k2 ?a3 ?l3 ?c3 ?k3 ?a4 ?l4 ?c4 ?k4 ?a5 ?l5 ?c5 ?k5 ?a6 ?l6 ?c6 ?k6 ?a7 ?l7 ?c7 ?k7 ?z_len ?z_abs ?z_min ?z_max ?z_range ?z_list ?z_tuple ?z_int ?z_bool ?z_repr ?z_isinstance ?z_dict ?z_sorted ?z_set ?z_divmod ?z_sum ?z_any ?z_all ?z_str ?z_enumerate ?z_zip ?z_ValueError ?z_Exception ?z_super ?z_issubclass ?z_type ?g_LETTERS ?m_LETTERS
    (case a0 => k_is); (case l0 => k_is); (case c0 => k_is); (case k0 => k_is)
    (case a1 => k_is); (case l1 => k_is); (case c1 => k_is); (case k1 => k_is)
    (case a2 => k_is); (case l2 => k_is); (case c2 => k_is); (case k2 => k_is)
    (case a3 => k_is); (case l3 => k_is); (case c3 => k_is); (case k3 => k_is)
    (case a4 => k_is); (case l4 => k_is); (case c4 => k_is); (case k4 => k_is)
    (case a5 => k_is); (case l5 => k_is); (case c5 => k_is); (case k5 => k_is)
    (case a6 => k_is); (case l6 => k_is); (case c6 => k_is); (case k6 => k_is)
    (case a7 => k_is); (case l7 => k_is); (case c7 => k_is); (case k7 => k_is)
    (case z_len => k_is); (case z_abs => k_is); (case z_min => k_is); (case z_max => k_is)
    (case z_range => k_is); (case z_list => k_is); (case z_tuple => k_is); (case z_int => k_is)
    (case z_bool => k_is); (case z_repr => k_is); (case z_isinstance => k_is); (case z_dict => k_is)
    (case z_sorted => k_is); (case z_set => k_is); (case z_divmod => k_is); (case z_sum => k_is)
    (case z_any => k_is); (case z_all => k_is); (case z_str => k_is); (case z_enumerate => k_is)
    (case z_zip => k_is); (case z_ValueError => k_is); (case z_Exception => k_is); (case z_super => k_is)
    (case z_issubclass => k_is); (case z_type => k_is); (case g_LETTERS => k_is); (case m_LETTERS => k_is)

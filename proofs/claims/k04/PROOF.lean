import PyProof.Rows.All
import HandS.ForMost
import HandS.Evl
import HandS.Wide
import HandS.Conv
import HandS.Flow
import HandS.IsInst
import HandS.Deep
import PySem.Challenge.RW_meshmend_k04_opposite_bars
set_option Elab.async false
set_option linter.all false
set_option maxRecDepth 100000
set_option maxHeartbeats 2000000
namespace Mm
open PySem PySem.Spec PyProof.Rows L2 Evl

/-! ### a def that wants to know that no repr is under way -/
structure FnG (P : Program) (w : World) (K : PySem.W.Frag) (mg : Str → Option Value) (base : Heap)
    (k : Nat) (f : Addr) (fd : FuncData) (ps : List Str) (sp : Sp) : Prop where
  arity : ∀ vs H Q E, sp vs H Q E → vs.length = ps.length
  goes : ∀ (A : Around) (outer : List Env) (s : Shared) (H : Hp) (args : Args) (us : List Value) (vs : List V) (Q : VK) (E : XK),
    Room k A → A.guards = some [] → Env0 P w K mg base A outer s H → BindsTo s fd args (ps.zip us) → Vals vs us → sp vs H Q E →
      codeAny (model P w) A (.call (.ref f) args) (CR CX0 outer P w H s Q E) s

theorem guards_deeper {A : Around} {e : Env} (h : A.guards = some []) : (A.deeper e).guards = some [] := h

section
variable {P : Program} {w : World} {K : PySem.W.Frag} {mg : Str → Option Value} {base : Heap}
theorem Fun_okG {x qual : Str} {st : Stmt} {f : Addr} {fd : FuncData} {N ps : List Str} {k : Nat} {sp : Sp}
    (F : Fun K x qual st f fd) (S : FnScope N ps (defScope st)) (ar : ∀ vs H Q E, sp vs H Q E → vs.length = ps.length)
    (B : ∀ (cd : Value) (A : Around) (outer : List Env) (s : Shared) (H : Hp) (vs : List V) (Q : VK) (E : XK),
      Room k (A.deeper (envOfC qual (defScope st) s.heap.objs.size f cd)) → A.guards = some [] → sp vs H Q E →
      ∃ t, PSs (cxOf CX0 P w K mg base N qual (defScope st) f cd A outer s H E).nox (defBody st) t ∧
        t { nx := fun _ G => Q .non G, rt := Q } (start N vs) H) : FnG P w K mg base (k + 1) f fd ps sp := by
  obtain ⟨oc, od, kV, doc, pm, an, cd, ct, osl, rfl, lk, hc⟩ := F.ex
  constructor
  · exact ar
  intro A outer s H args us vs Q E room gu e0 bi rv hs
  have frag : K.In s.heap := e0.mod.kin.keeps (fun b o z => (e0.bs b o z).1)
  have noLim : s.heap.NoLimit := e0.mod.nolimit.keeps (fun b o z => (e0.bs b o z).1)
  have kinds : ∀ y ∈ ps.zip us, (defScope st).names.lookup y.1 = some .local ∨
      ((defScope st).names.lookup y.1 = some .cell ∧ ((cellsFrom (s.heap.objs.size + 1) (defScope st).names []).lookup y.1).isSome = true) := by
    rintro ⟨n, v⟩ hy
    cases S.par n (List.of_mem_zip hy).1 with
    | inl q => exact Or.inl q
    | inr q => exact Or.inr ⟨q, PySem.W.cellsFrom_some _ _ _ (Or.inl q)⟩
  apply codeAny_call_function room.depth (frag _ _ lk) rfl S.co S.gen rfl (PySem.W.codeRec_of frag hc)
  apply bi
  apply wpAny_newFunctionEnv_cells S.kind kinds
  intro env he s1 x
  subst he
  refine ⟨noLim.keeps x.toInCall.keep, codeAny_func ?_⟩
  obtain ⟨t, ht, hq⟩ := B cd A outer s H vs Q E (room.deeper _) gu hs
  have I0 := inv_start (CX := CX0) (E := E) (cd := cd) S room.hd e0 (ar _ _ _ _ hs) rv x
  apply wpAny_mono (ht.nox.run [] s1 (start N vs) H _ I0 hq)
  · intro fl s' hf
    cases fl with
    | next =>
      obtain ⟨σ1, H1, J, q⟩ := hf
      exact ⟨V.non, H1, J.os, J.bare, J.base, J.hok, rfl, q⟩
    | ret u =>
      obtain ⟨v, σ1, H1, J, r, q⟩ := hf
      exact ⟨v, H1, J.os, J.bare, J.base, J.hok, r, q⟩
    | brk =>
      obtain ⟨_, _, _, q⟩ := hf
      exact q.elim
    | cont =>
      obtain ⟨_, _, _, q⟩ := hf
      exact q.elim
  · intro e s' h
    exact h
end

/-! ### from the head to such a promise -/
theorem enter_law {P : Program} {w : World} {K : PySem.W.Frag} {mg mb : Str → Option Value} {k : Nat} {fa a : Addr} {fd : FuncData} {x : Str} {sp : Sp}
    {s₁ : Shared} {vs : List Value} {ns : List Int}
    (frag : K.In s₁.heap) (glob : s₁.heap.Ns mainGlobals mg) (blt : s₁.heap.Ns builtinsNs mb) (bb : ∀ x : Str, x ≠ "__name__" → mb x = bootBuiltins x)
    (lim : s₁.heap.NoLimit) (gen : s₁.gens = #[])
    (here : s₁.heap.get? a = some { cls := .type "list", data := .seq vs.toArray }) (intz : IntsAre vs ns) (short : ns.length ≤ sizeLine) (room : Room k callerA)
    (sysm : ∃ mm, s₁.heap.Ns sysModules mm)
    (G : ∀ base : Heap, K.In base → base.Ns mainGlobals mg → (∃ mm, base.Ns sysModules mm) → FnG P w K mg base k fa fd [x] sp)
    (bi : ∀ (s : Shared) (u : Value), BindsTo s fd ⟨[u], []⟩ [(x, u)])
    (ask : ∀ H : Hp, Only H → SqL K H a (ns.map V.int) → sp [.ref a] H (fun v _ => v = .bl true) fun _ _ _ => False) :
    codeAny (model P w) callerA (.call (.ref fa) ⟨[.ref a], []⟩)
      (fun r s' => r = .ok (.ret (.bool true)) ∧ OldK s₁.heap s'.heap ∧ s'.os = s₁.os ∧ AllBare s'.gens) s₁ := by
  have vv := vals_ints intz
  have many := intz.length
  suffices main : ∀ H : Hp, Only H → SqL K H a (ns.map V.int) → HOk P w H s₁.heap → (∀ b, H b ≠ none → b = a) → (H a ≠ none → K.lookup a = none) →
      codeAny (model P w) callerA (.call (.ref fa) ⟨[.ref a], []⟩)
        (fun r s' => r = .ok (.ret (.bool true)) ∧ OldK s₁.heap s'.heap ∧ s'.os = s₁.os ∧ AllBare s'.gens) s₁ by
    by_cases hk : K.lookup a = none
    · let H0 : Hp := fun b => if b = a then some (.frz { cls := .type "list", data := .seq vs.toArray } (.lst (ns.map V.int))) else none
      have at_a : H0 a = some (.frz { cls := .type "list", data := .seq vs.toArray } (.lst (ns.map V.int))) := if_pos rfl
      have off_a : ∀ b, b ≠ a → H0 b = none := fun b z => if_neg z
      apply main H0
      · intro b
        by_cases z : b = a
        · subst z
          exact Or.inr ⟨_, _, at_a⟩
        · exact Or.inl (off_a b z)
      · exact Or.inl (Or.inr ⟨_, at_a⟩)
      · intro b u z
        by_cases y : b = a
        · subst y
          rw [at_a] at z
          cases z
          exact ⟨here, by rw [List.length_map]; exact short, vs, _, vv, here⟩
        · rw [off_a b y] at z
          cases z
      · intro b z
        by_cases y : b = a
        · exact y
        · exact absurd (off_a b y) z
      · intro _
        exact hk
    · obtain ⟨o, ho⟩ := Option.ne_none_iff_exists'.mp hk
      have e := frag a o ho
      rw [here] at e
      cases e
      apply main (fun _ => none)
      · exact fun _ => Or.inl rfl
      · exact Or.inr ⟨_, vs.toArray, _, ho, rfl, rfl, rfl, by rw [List.size_toArray, many]; exact short, by simpa using vv⟩
      · intro b u z
        exact absurd (show (none : Option HO) = some u from z) (fun q => nomatch q)
      · exact fun _ z => absurd rfl z
      · exact fun z => absurd rfl z
  intro H only list ok lone free
  have none_of_dict : ∀ {b : Addr} {o : Obj} {es : Array DictEntry} {ep : Nat}, s₁.heap.get? b = some o → o.data = .dict es ep → H b = none := by
    intro b o es ep e d
    by_cases z : H b = none
    · exact z
    · have y := lone b z
      subst y
      rw [here] at e
      cases e
      exact absurd (show Data.seq vs.toArray _ = Data.dict es ep from d) (fun q => nomatch q)
  have nsOf : ∀ {b : Addr} {m : Str → Option Value}, s₁.heap.Ns b m → (hidT s₁.heap H).Ns b m := by
    rintro b m ⟨o, es, ep, e, d, r⟩
    exact ⟨o, es, ep, hidT_get e (none_of_dict e d), d, r⟩
  have fragB : K.In (hidT s₁.heap H) := by
    intro b o e
    refine hidT_get (frag b o e) ?_
    by_cases z : H b = none
    · exact z
    · have y := lone b z
      subst y
      rw [free z] at e
      cases e
  obtain ⟨mc, l1, l2⟩ := lim
  have md : Mod K mg (hidT s₁.heap H) := ⟨fragB, nsOf glob, ⟨mb, nsOf blt, bb⟩, ⟨mc, nsOf l1, l2⟩⟩
  have e0 : Env0 P w K mg (hidT s₁.heap H) callerA [] s₁ H :=
    { frames := rfl, mod := md, bs := fun b o e => of_hidT e, bsz := Nat.le_of_eq (hidT_size _ _), funs := trivial,
      frf := fun b hb => absurd (show b ∈ ([] : List Addr) from hb) (by simp), hok := ok, bare := .of_eq gen }
  obtain ⟨mm, hmm⟩ := sysm
  have run := (G _ fragB (nsOf glob) ⟨mm, nsOf hmm⟩).goes callerA [] s₁ H ⟨[.ref a], []⟩ [.ref a] [.ref a] _ _ room rfl e0 (bi s₁ (.ref a)) (.cons rfl .nil) (ask H only list)
  apply codeAny_mono run
  intro r s' h
  match r, h with
  | .error e, h => exact (show False from h).elim
  | .ok .next, h => exact (show False from h).elim
  | .ok .brk, h => exact (show False from h).elim
  | .ok .cont, h => exact (show False from h).elim
  | .ok (.ret u), ⟨v, H', os, bare, un, ok', rel, q⟩ =>
    subst q
    cases rel
    refine ⟨rfl, OldK.of_keep ?_, os, bare⟩
    intro b o e
    match z : H b with
    | none => exact un.keep b o e z (fun y => absurd (show b ∈ ([] : List Addr) from y) (by simp)) (by simp)
    | some u =>
      match only b with
      | .inl y =>
        rw [y] at z
        cases z
      | .inr ⟨ob, xs, y⟩ =>
        have y2 := un.frzs b ob _ y
        have g1 := (ok b _ y).1
        have g2 := (ok' b _ y2).1
        rw [e] at g1
        cases g1
        exact g2

theorem walkG {l : PySem.W.OpenLaw} {n k : Nat} {q : Program} {loose : List Str} {XP : (Str → Option Value) → Heap → Prop} {YP : World → Heap → Prop}
    {d : DefRec} {K : Params → PySem.W.Frag} {sp : PySem.W.Frag → Sp} {x : Str}
    (imp : PyProof.Rows.importsNone q = true) (most : l.most = some n) (small : n ≤ sizeLine) (nodef : d.params.defaults = []) (room : Room k callerA)
    (inK : ∀ (w : World) (h : Heap), YP w h → (K w.params).In h)
    (F : ∀ (w : World) (mg : Str → Option Value) (fa : Addr) (h : Heap), (K w.params).In h → h.Ns mainGlobals mg → mg d.name = some (.ref fa) →
      ∃ fd : FuncData, (∀ (s : Shared) (u : Value), BindsTo s fd ⟨[u], []⟩ [(x, u)]) ∧
        ∀ base : Heap, (K w.params).In base → base.Ns mainGlobals mg → (∃ mm, base.Ns sysModules mm) → FnG l.prog w (K w.params) mg base k fa fd [x] (sp (K w.params)))
    (ask : ∀ (K : PySem.W.Frag) (H : Hp) (a : Addr) (ns : List Int), ns.length ≤ n → Only H → SqL K H a (ns.map V.int) →
      sp K [.ref a] H (fun v _ => v = .bl true) fun _ _ _ => False) :
    PySem.W.WalkO q loose XP YP l.row.toRowW d [] (fun f vs => PySem.call f vs) := by
  apply Att.attach_call most nodef
  intro w s₀ s₁ mg mb fa o pm cd doc a vs ns G Y ho hd hcd hmg hobj hints hlen hg
  obtain ⟨fd, b1, b2⟩ := F w mg fa _ (inK w _ Y) G.T.g hmg
  exact enter_law (inK w _ Y) G.T.g G.T.b G.T.builtins G.T.nolimit hg hobj hints (Nat.le_trans hlen small) room
    (let ⟨mm, h1, _⟩ := (G.T.seer imp).mods; ⟨mm, h1⟩) b2 b1 (fun H h1 h2 => ask _ H a ns hlen h1 h2)
end Mm

namespace Mm
open PySem PySem.Spec PyProof.Rows L2 Evl

/-! ### rules joined -/
def orE (r r' : R2) : R2 := fun x y H Q => r x y H Q ∨ r' x y H Q
theorem OpR_or {X : Cx} {f : Value → Value → Sem Value} {r r' : R2} (h : OpR X f r) (h' : OpR X f r') : OpR X f (orE r r') := by
  intro pins s σ H x y v u Q I rx ry q
  cases q with
  | inl q => exact h pins s σ H x y v u Q I rx ry q
  | inr q => exact h' pins s σ H x y v u Q I rx ry q
def orI (a b : TI) : TI := fun σ H R => a σ H R ∨ b σ H R
theorem PI_or {X : Cx} {tg it : Expr} {a b : TI} (h : PI X tg it a) (h' : PI X tg it b) : PI X tg it (orI a b) := by
  constructor
  intro pins s σ H R I q
  cases q with
  | inl q => exact h.run pins s σ H R I q
  | inr q => exact h'.run pins s σ H R I q
def iSeq (K : PySem.W.Frag) (t : TE) : TI := orI (iList K t) (iTup K t)
theorem pi_seq {X : Cx} {tg l : Expr} {t : TE} (h : PE X l t) : PI X tg l (iSeq X.K t) := PI_or (pi_list h) (pi_tup h)
def rIxA (K : PySem.W.Frag) : R2 := fun x y H Q => rIxL K x y H Q ∨ rIxT K x y H Q
theorem ixA {X : Cx} : IxR X (rIxA X.K) := IxR.or ix_list ix_tup
section
variable {X : Cx}
def rEqA (K : PySem.W.Frag) : R2 := orE rEq (rEqD K)
def rNeA (K : PySem.W.Frag) : R2 := orE rNe (rNeD K)
theorem op_eqA (hu : X.A.units + 64 < cLine) : OpR X (compareOp .Eq) (rEqA X.K) := OpR_or op_eq (op_eqD hu)
theorem op_neA (hu : X.A.units + 64 < cLine) : OpR X (compareOp .NotEq) (rNeA X.K) := OpR_or op_ne (op_neD hu)
end

/-! ### data in the heap: what L2's tells, and dicts whose keys are ints and texts -/
def keyD : Key → PyData
  | .inl i => .int i
  | .inr x => .str x
mutual
inductive Da (K : PySem.W.Frag) (H : Hp) : V → PyData → Prop
  | non : Da K H .non .none
  | bl (b : Bool) : Da K H (.bl b) (.bool b)
  | int (i : Int) : Da K H (.int i) (.int i)
  | str (x : Str) : Da K H (.str x) (.str x)
  | lst {a : Addr} {xs : List V} {ds : List PyData} (h : SqL K H a xs) (r : DaAll K H xs ds) : Da K H (.ref a) (.list ds)
  | tup {a : Addr} {xs : List V} {ds : List PyData} (h : SqT K H a xs) (r : DaAll K H xs ds) : Da K H (.ref a) (.tuple ds)
  | dic {a : Addr} {kvs : List (Key × V)} {ds : List (PyData × PyData)} (h : H a = some (.dK kvs)) (r : DaKv K H kvs ds) : Da K H (.ref a) (.dict ds)
inductive DaAll (K : PySem.W.Frag) (H : Hp) : List V → List PyData → Prop
  | nil : DaAll K H [] []
  | cons {v : V} {vs : List V} {d : PyData} {ds : List PyData} (h : Da K H v d) (r : DaAll K H vs ds) : DaAll K H (v :: vs) (d :: ds)
inductive DaKv (K : PySem.W.Frag) (H : Hp) : List (Key × V) → List (PyData × PyData) → Prop
  | nil : DaKv K H [] []
  | cons {k : Key} {v : V} {vs : List (Key × V)} {d : PyData} {ds : List (PyData × PyData)} (h : Da K H v d) (r : DaKv K H vs ds) : DaKv K H ((k, v) :: vs) ((keyD k, d) :: ds)
end
section
variable {K : PySem.W.Frag} {H : Hp}
mutual
theorem da_dp : ∀ {d : PyData} {v : V}, PyData.canLay0 d = true → Da K H v d → L2.Dp K H v d
  | _, _, _, .non => .non
  | _, _, _, .bl b => .bl b
  | _, _, _, .int i => .int i
  | _, _, _, .str x => .str x
  | _, _, c, .lst h a => .lst h (das_dp (by simpa [PyData.canLay0] using c) a)
  | _, _, c, .tup h a => .tup h (das_dp (by simpa [PyData.canLay0] using c) a)
  | _, _, c, .dic _ _ => by simp [PyData.canLay0] at c
theorem das_dp : ∀ {ds : List PyData} {vs : List V}, PyData.canLayAll0 ds = true → DaAll K H vs ds → L2.DpAll K H vs ds
  | _, _, _, .nil => .nil
  | d :: ds, _, c, .cons h a => by
    have c' : d.canLay0 = true ∧ PyData.canLayAll0 ds = true := by simpa [PyData.canLayAll0] using c
    exact .cons (da_dp c'.1 h) (das_dp c'.2 a)
end
end
section
variable {X : Cx} {pins : List (Addr × Obj)} {σ : L2.St} {H : Hp} {s : Shared}
theorem seq_not_sys (sm : ∃ mm, X.base.Ns sysModules mm) (I : Inv X pins σ H s) {a : Addr} {o : Obj} {its : Array Value} {n : Nat} (h : s.heap.get? a = some o) (d : o.data = .seq its n) : sysModules ≠ a := by
  obtain ⟨mm, o', es, ep, e, d', _⟩ := sm
  intro z
  have e' := I.bk _ _ e
  rw [z, h] at e'
  cases e'
  rw [d] at d'
  cases d'
theorem key_read {h : Heap} {k : Key} {v : Value} (is : keyIs k v = true) : Reads h v (keyD k) [] := by
  rcases keyIs_shape is with ⟨i, t, z1, z2⟩ | ⟨x, t, z1, z2⟩
  · rw [z1, z2]
    exact Reads.int i t
  · rw [z1, z2]
    exact Reads.str x t
theorem keys_read {K : PySem.W.Frag} {H : Hp} {P : Program} {w : World} {h : Heap} : ∀ (es : List DictEntry) {vs : List (Key × Value)} {kvs : List (Key × V)} {ds : List (PyData × PyData)}, Pairs (mixKind P w) es vs → KV kvs vs → DaKv K H kvs ds →
    ReadsAll h (es.map (·.key)) (ds.map (·.1)) []
  | [], _, _, _, p, r, d => by
    cases p
    cases r
    cases d
    exact .nil
  | e :: es, _, _, _, p, r, d => by
    cases p with
    | cons is ve ps =>
      cases r with
      | cons r kr =>
        cases d with
        | cons dh dr =>
          have ih := keys_read (h := h) es ps kr dr
          have is' : keyIs _ e.key = true := is
          rw [← r.1] at is'
          exact ReadsAll.cons (key_read is') ih
mutual
theorem Da_reads (sm : ∃ mm, X.base.Ns sysModules mm) (I : Inv X pins σ H s) : ∀ {d : PyData} {v : V} (u : Value), Da X.K H v d → RelV v u → ∃ as, Reads s.heap u d as ∧ sysModules ∉ as
  | _, _, _, .non, r => by
    cases r
    exact ⟨_, Reads.none, by simp⟩
  | _, _, _, .bl b, r => by
    cases r
    exact ⟨_, Reads.bool b, by simp⟩
  | _, _, _, .int i, r => by
    obtain ⟨t, rfl⟩ := r
    exact ⟨_, Reads.int i t, by simp⟩
  | _, _, _, .str x, r => by
    obtain ⟨t, rfl⟩ := r
    exact ⟨_, Reads.str x t, by simp⟩
  | _, _, _, .lst hs ha, r => by
    cases r
    obtain ⟨its, rv, ⟨o, n, ho, hc, _, hd⟩, _⟩ := I.list hs
    obtain ⟨as, hr, hn⟩ := Das_reads sm I its ha rv
    exact ⟨_, Reads.list ho hc hd hr, by
      simp only [List.mem_cons, not_or]
      exact ⟨seq_not_sys sm I ho hd, hn⟩⟩
  | _, _, _, .tup hs ha, r => by
    cases r
    obtain ⟨its, rv, ⟨o, ho, hc, n, hd⟩, _⟩ := I.tuple hs
    obtain ⟨as, hr, hn⟩ := Das_reads sm I its ha rv
    exact ⟨_, Reads.tuple ho hc hd hr, hn⟩
  | _, _, _, .dic (a := a) hk hv, r => by
    cases r
    obtain ⟨_, ne, vs, kv, o, es, ep, ho, ex, hd, _, ps, _⟩ := (show ObjOk X.prog X.w H s.heap a (.dK _) from I.hok a _ hk)
    obtain ⟨bs, hr, hn⟩ := Dak_reads sm I ps kv hv
    exact ⟨_, Reads.dict ho ex.1 hd (keys_read _ ps kv hv) hr, by
      simp only [List.append_nil, List.cons_append, List.nil_append, List.mem_cons, not_or]
      exact ⟨fun z => by rw [← z] at ne; simp at ne, hn⟩⟩
theorem Das_reads (sm : ∃ mm, X.base.Ns sysModules mm) (I : Inv X pins σ H s) : ∀ {ds : List PyData} {vs : List V} (us : List Value), DaAll X.K H vs ds → Vals vs us → ∃ as, ReadsAll s.heap us ds as ∧ sysModules ∉ as
  | _, _, _, .nil, .nil => ⟨_, ReadsAll.nil, by simp⟩
  | _, _, _, .cons h a, .cons r rs => by
    obtain ⟨as, h1, n1⟩ := Da_reads sm I _ h r
    obtain ⟨bs, h2, n2⟩ := Das_reads sm I _ a rs
    exact ⟨_, ReadsAll.cons h1 h2, by simp only [List.mem_append, not_or]; exact ⟨n1, n2⟩⟩
theorem Dak_reads (sm : ∃ mm, X.base.Ns sysModules mm) (I : Inv X pins σ H s) : ∀ {es : List DictEntry} {vs : List (Key × Value)} {kvs : List (Key × V)} {ds : List (PyData × PyData)}, Pairs (mixKind X.prog X.w) es vs → KV kvs vs → DaKv X.K H kvs ds →
    ∃ bs, ReadsAll s.heap (es.map (·.val)) (ds.map (·.2)) bs ∧ sysModules ∉ bs
  | es, _, _, _, p, r, d => by
    cases p with
    | nil =>
      cases r
      cases d
      exact ⟨_, ReadsAll.nil, by simp⟩
    | cons is ve ps =>
      cases r with
      | cons r kr =>
        cases d with
        | cons h dr =>
          obtain ⟨as, h1, n1⟩ := Da_reads sm I _ h r.2
          obtain ⟨bs, h2, n2⟩ := Dak_reads sm I ps kr dr
          rw [← ve] at h1
          exact ⟨_, ReadsAll.cons h1 h2, by simp only [List.mem_append, not_or]; exact ⟨n1, n2⟩⟩
end
end

/-! ### data as a whole -/
/-- what repr may show and == may compare: nested at most n deep, w signs and bits at most -/
structure Tame (n w : Nat) (d : PyData) : Prop where
  sh : d.showable = true
  ly : d.canLay0 = true
  dp : d.depth ≤ n
  lf : PyData.leavesShort 60 d = true
  wt : d.weight ≤ w
structure TameL (n w : Nat) (ds : List PyData) : Prop where
  sh : PyData.showableAll ds = true
  ly : PyData.canLayAll0 ds = true
  dp : PyData.depthAll ds ≤ n
  lf : PyData.leavesShortAll 60 ds = true
  wt : PyData.weightAll ds ≤ w
theorem Tame.shaped {n w : Nat} {d : PyData} (h : Tame n w d) (hn : n ≤ 64) : SeqAt.shaped d = true := by
  unfold SeqAt.shaped
  rw [h.ly, Bool.true_and]
  exact decide_eq_true (Nat.le_trans h.dp hn)
theorem Tame.fits {n w : Nat} {d : PyData} (h : Tame n w d) (hw : w ≤ 200000) : d.shown.length ≤ sizeLine := by
  have a := PyData.shown_le 60 (by decide) d h.lf
  have b := h.wt
  rw [sizeLine_eq]
  omega
theorem tame_none {n w : Nat} : Tame n w .none := by
  refine ⟨?_, ?_, ?_, ?_, ?_⟩ <;> simp [PyData.showable, PyData.canLay0, PyData.depth, PyData.weight, PyData.leavesShort]
theorem tame_bool {n w : Nat} {b : Bool} : Tame n w (.bool b) := by
  refine ⟨?_, ?_, ?_, ?_, ?_⟩ <;> simp [PyData.showable, PyData.canLay0, PyData.depth, PyData.weight, PyData.leavesShort]
theorem leaf_int {i : Int} (h : i.natAbs < 10 ^ 50) : PyData.leavesShort 60 (.int i) = true := by
  have := int_text_length_le10 (a := i) (k := 50) (by decide) h
  have e : (PyData.shown (.int i)).length ≤ 60 := by
    show (Str.ofString (toString i)).length ≤ 60
    rw [PySem.ofString_length]
    omega
  simp only [PyData.leavesShort]
  exact decide_eq_true e
theorem tame_int {n w : Nat} {i : Int} (h : i.natAbs < 2 ^ 24) (hw : 24 ≤ w) : Tame n w (.int i) := by
  have l : i.natAbs.log2 < 24 ∨ i.natAbs = 0 := by
    by_cases z : i.natAbs = 0
    · exact Or.inr z
    · exact Or.inl ((Nat.log2_lt z).mpr h)
  refine ⟨?_, ?_, ?_, ?_, ?_⟩
  · simp only [PyData.showable]
    rcases l with l | l
    · exact decide_eq_true (by omega)
    · rw [l]
      decide
  · simp only [PyData.canLay0]
  · simp [PyData.depth]
  · exact leaf_int (Nat.lt_of_lt_of_le h (by decide))
  · simp only [PyData.weight]
    split
    · omega
    · rcases l with l | l
      · omega
      · rw [l]
        have : Nat.log2 0 = 0 := by decide
        omega
theorem tameL_nil {n w : Nat} : TameL n w [] := by
  refine ⟨?_, ?_, ?_, ?_, ?_⟩ <;> simp [PyData.showableAll, PyData.canLayAll0, PyData.depthAll, PyData.weightAll, PyData.leavesShortAll]
theorem tameL_cons {n a b : Nat} {d : PyData} {ds : List PyData} (h : Tame n a d) (r : TameL n b ds) : TameL n (a + 1 + b) (d :: ds) := by
  refine ⟨?_, ?_, ?_, ?_, ?_⟩
  · simp only [PyData.showableAll, h.sh, r.sh, Bool.and_self]
  · simp only [PyData.canLayAll0, h.ly, r.ly, Bool.and_self]
  · have := h.dp
    have := r.dp
    simp only [PyData.depthAll]
    omega
  · simp only [PyData.leavesShortAll, h.lf, r.lf, Bool.and_self]
  · have := h.wt
    have := r.wt
    simp only [PyData.weightAll]
    omega
theorem tameL_all {n a : Nat} : ∀ {ds : List PyData}, (∀ d ∈ ds, Tame n a d) → TameL n ((a + 1) * ds.length) ds
  | [], _ => tameL_nil
  | d :: ds, h => by
    have r := tameL_cons (h d List.mem_cons_self) (tameL_all fun e he => h e (List.mem_cons_of_mem _ he))
    refine ⟨r.sh, r.ly, r.dp, r.lf, Nat.le_trans r.wt ?_⟩
    rw [List.length_cons, Nat.mul_add, Nat.mul_one]
    omega
theorem TameL.mono {n a m b : Nat} {ds : List PyData} (h : TameL n a ds) (hn : n ≤ m) (hb : a ≤ b) : TameL m b ds :=
  ⟨h.sh, h.ly, Nat.le_trans h.dp hn, h.lf, Nat.le_trans h.wt hb⟩
theorem Tame.mono {n a m b : Nat} {d : PyData} (h : Tame n a d) (hn : n ≤ m) (hb : a ≤ b) : Tame m b d :=
  ⟨h.sh, h.ly, Nat.le_trans h.dp hn, h.lf, Nat.le_trans h.wt hb⟩
theorem tame_list {n w : Nat} {ds : List PyData} (h : TameL n w ds) : Tame (n + 1) w (.list ds) := by
  refine ⟨?_, ?_, ?_, ?_, ?_⟩
  · simp only [PyData.showable, h.sh]
  · simp only [PyData.canLay0, h.ly]
  · have := h.dp
    simp only [PyData.depth]
    omega
  · simp only [PyData.leavesShort, h.lf]
  · have := h.wt
    simp only [PyData.weight]
    omega
theorem tame_tuple {n w : Nat} {ds : List PyData} (h : TameL n w ds) : Tame (n + 1) w (.tuple ds) := by
  refine ⟨?_, ?_, ?_, ?_, ?_⟩
  · simp only [PyData.showable, h.sh]
  · simp only [PyData.canLay0, h.ly]
  · have := h.dp
    simp only [PyData.depth]
    omega
  · simp only [PyData.leavesShort, h.lf]
  · have := h.wt
    simp only [PyData.weight]
    omega

/-! ### repr -/
/-- what repr may show -/
structure TameR (n w : Nat) (d : PyData) : Prop where
  sh : d.showable = true
  dp : d.depth ≤ n
  lf : PyData.leavesShort 60 d = true
  wt : d.weight ≤ w
theorem Tame.r {n w : Nat} {d : PyData} (h : Tame n w d) : TameR n w d := ⟨h.sh, h.dp, h.lf, h.wt⟩
theorem TameR.fits {n w : Nat} {d : PyData} (h : TameR n w d) (hw : w ≤ 200000) : d.shown.length ≤ sizeLine := by
  have a := PyData.shown_le 60 (by decide) d h.lf
  have b := h.wt
  rw [sizeLine_eq]
  omega
def rRepr (K : PySem.W.Frag) : List V → Hp → VK → Prop := fun xs H Q => ∃ x d, xs = [x] ∧ Da K H x d ∧ TameR 40 200000 d ∧ Q (.str d.shown) H
theorem call_repr {X : Cx} {k : Nat} (gu : X.A.guards = some []) (sm : ∃ mm, X.base.Ns sysModules mm) (hr : Room k X.A) : CallR X (.builtin "repr") (rRepr X.K) := by
  intro pins s σ H xs us Q I r h
  obtain ⟨x, d, rfl, hd, ht, q⟩ := h
  obtain ⟨u, rfl, rx⟩ := vals1 r
  obtain ⟨as, rd, ns⟩ := Da_reads sm I u hd rx
  have un := hr.units
  have dep := ht.dp
  have fit := ht.fits (Nat.le_refl _)
  have big : ∀ a : Addr, u = .ref a → wpAny (model X.prog X.w) X.A (call (.builtin "repr") [u]) (EP X pins σ Q) X.xe s := by
    intro a e
    subst e
    exact repr_of_reads' rd ht.sh (fun _ => ns) gu (by omega) (fun _ _ z => z)
      (fun h' t tk kp => ⟨.str d.shown, H, I.kept (t' := tk) kp, ⟨t, rfl⟩, q⟩) fit
  cases hd with
  | non =>
    cases rx
    exact PySem.P.repr_of_none ⟨.str _, H, I.tok _, ⟨_, rfl⟩, q⟩
  | bl b =>
    cases rx
    refine PySem.P.repr_of_bool ⟨.str _, H, I.tok _, ⟨_, rfl⟩, ?_⟩
    simpa only [PyData.shown] using q
  | int i =>
    obtain ⟨t, rfl⟩ := rx
    have z := ht.sh
    simp only [PyData.showable] at z
    exact PySem.P.repr_of_int (of_decide_eq_true z) ⟨.str _, H, I.tok _, ⟨_, rfl⟩, by simpa only [PyData.shown] using q⟩
  | str y =>
    obtain ⟨t, rfl⟩ := rx
    exact PySem.P.repr_of_str ⟨.str _, H, I.tok _, ⟨_, rfl⟩, by simpa only [PyData.shown] using q⟩ (by simpa only [PyData.shown] using fit)
  | lst _ _ =>
    cases rx
    exact big _ rfl
  | tup _ _ =>
    cases rx
    exact big _ rfl
  | dic _ _ =>
    cases rx
    exact big _ rfl
end Mm

namespace Mm
open PySem PySem.Spec PyProof.Rows L2 Evl

/-! ### the heap behind draws: all stays but what is told by its own heap -/
def Own : HO → Prop
  | .ext _ => True
  | _ => False
def Ey (H H' : Hp) : Prop := ∀ a o, H a = some o → ¬ Own o → H' a = some o
theorem Ey.refl (H : Hp) : Ey H H := fun _ _ h _ => h
theorem Ey.trans {H H1 H2 : Hp} (a : Ey H H1) (b : Ey H1 H2) : Ey H H2 := fun x o h n => b x o (a x o h n) n
theorem Ey.of {H H' : Hp} (e : Ex H H') : Ey H H' := fun a o h _ => e a o h
theorem ey_rd {H H' : Hp} {a : Addr} {u : HO} (e : Ey H H') (n : ¬ Own u) (h : Rd H a u) : Rd H' a u := by
  rcases h with h | ⟨o, h⟩
  · exact Or.inl (e a _ h n)
  · exact Or.inr ⟨o, e a _ h (fun z => z)⟩
theorem ey_l {K : PySem.W.Frag} {H H' : Hp} {a : Addr} {xs : List V} (e : Ey H H') (h : SqL K H a xs) : SqL K H' a xs := by
  rcases h with h | h
  · exact Or.inl (ey_rd e (fun z => z) h)
  · exact Or.inr h
theorem ey_t {K : PySem.W.Frag} {H H' : Hp} {a : Addr} {xs : List V} (e : Ey H H') (h : SqT K H a xs) : SqT K H' a xs := by
  rcases h with h | h
  · exact Or.inl (ey_rd e (fun z => z) h)
  · exact Or.inr h
theorem fresh_backY {H H' : Hp} {p : Addr} {o : HO} (e : Ey H H') (n : ¬ Own o) (h : H' p = none) : H p ≠ some o := fun z => by
  rw [e p o z n] at h
  cases h
section
variable {K : PySem.W.Frag} {H H' : Hp}
mutual
theorem dpy (e : Ey H H') : ∀ {d : PyData} {v : V}, Da K H v d → Da K H' v d
  | _, _, .non => .non
  | _, _, .bl b => .bl b
  | _, _, .int i => .int i
  | _, _, .str x => .str x
  | _, _, .lst h a => .lst (ey_l e h) (dpsy e a)
  | _, _, .tup h a => .tup (ey_t e h) (dpsy e a)
  | _, _, .dic h a => .dic (e _ _ h (fun z => z)) (dky e a)
theorem dpsy (e : Ey H H') : ∀ {ds : List PyData} {vs : List V}, DaAll K H vs ds → DaAll K H' vs ds
  | _, _, .nil => .nil
  | _, _, .cons h a => .cons (dpy e h) (dpsy e a)
theorem dky (e : Ey H H') : ∀ {ds : List (PyData × PyData)} {vs : List (Key × V)}, DaKv K H vs ds → DaKv K H' vs ds
  | _, _, .nil => .nil
  | _, _, .cons h a => .cons (dpy e h) (dky e a)
end
theorem dpm {d : PyData} {v : V} (e : Ex H H') (h : Da K H v d) : Da K H' v d := dpy (Ey.of e) h
theorem dpsm {ds : List PyData} {vs : List V} (e : Ex H H') (h : DaAll K H vs ds) : DaAll K H' vs ds := dpsy (Ey.of e) h
theorem dps_len : ∀ {ds : List PyData} {vs : List V}, DaAll K H vs ds → vs.length = ds.length
  | _, _, .nil => rfl
  | _, _, .cons _ a => congrArg (· + 1) (dps_len a)
theorem dps_get : ∀ {ds : List PyData} {vs : List V} {i : Nat} {d : PyData}, DaAll K H vs ds → ds[i]? = some d → ∃ v, vs[i]? = some v ∧ Da K H v d
  | _, _, _, _, .nil, e => by simp at e
  | _, _, 0, _, .cons h _, e => by
    simp at e
    subst e
    exact ⟨_, rfl, h⟩
  | _, _, i + 1, _, .cons _ a, e => by
    obtain ⟨v, e1, e2⟩ := dps_get (i := i) a (by simpa using e)
    exact ⟨v, by simpa using e1, e2⟩
theorem dps_got : ∀ {ds : List PyData} {vs : List V} {i : Nat} {v : V}, DaAll K H vs ds → vs[i]? = some v → ∃ d, ds[i]? = some d ∧ Da K H v d
  | _, _, _, _, .nil, e => by simp at e
  | _, _, 0, _, .cons h _, e => by
    simp at e
    subst e
    exact ⟨_, rfl, h⟩
  | _, _, i + 1, _, .cons _ a, e => by
    obtain ⟨v, e1, e2⟩ := dps_got (i := i) a (by simpa using e)
    exact ⟨v, by simpa using e1, e2⟩
theorem dps_app : ∀ {ds es : List PyData} {vs ws : List V}, DaAll K H vs ds → DaAll K H ws es → DaAll K H (vs ++ ws) (ds ++ es)
  | _, _, _, _, .nil, b => b
  | _, _, _, _, .cons h a, b => .cons h (dps_app a b)
theorem dps_ints : ∀ (ns : List Int), DaAll K H (ns.map V.int) (ns.map PyData.int)
  | [] => .nil
  | n :: ns => .cons (.int n) (dps_ints ns)
theorem dp_tupI {v : V} {ds : List PyData} (h : Da K H v (.tuple ds)) : ∃ a xs, v = .ref a ∧ SqT K H a xs ∧ DaAll K H xs ds := by
  cases h with
  | tup h a => exact ⟨_, _, rfl, h, a⟩
theorem dp_lstI {v : V} {ds : List PyData} (h : Da K H v (.list ds)) : ∃ a xs, v = .ref a ∧ SqL K H a xs ∧ DaAll K H xs ds := by
  cases h with
  | lst h a => exact ⟨_, _, rfl, h, a⟩
theorem dp_intI {v : V} {i : Int} (h : Da K H v (.int i)) : v = .int i := by
  cases h
  rfl
theorem dp_boolI {v : V} {i : Bool} (h : Da K H v (.bool i)) : v = .bl i := by
  cases h
  rfl
theorem dp_noneI {v : V} (h : Da K H v .none) : v = .non := by
  cases h
  rfl
theorem dp_strI {v : V} {x : Str} (h : Da K H v (.str x)) : v = .str x := by
  cases h
  rfl

/-! ### what an expression tells -/
def EvD (K : PySem.W.Frag) (te : TE) (σ : L2.St) (H : Hp) (d : PyData) : Prop := ∀ H1, Ex H H1 → ∀ Q : VK, (∀ v H2, Ex H1 H2 → Da K H2 v d → Q v H2) → te σ H1 Q
def EvDs (K : PySem.W.Frag) (ta : TA) (σ : L2.St) (H : Hp) (ds : List PyData) : Prop := ∀ H1, Ex H H1 → ∀ Q : List V → Hp → Prop, (∀ vs H2, Ex H1 H2 → DaAll K H2 vs ds → Q vs H2) → ta σ H1 Q
def OpD (K : PySem.W.Frag) (r : R2) (a b : PyData) (c : PyData) : Prop := ∀ H x y, Da K H x a → Da K H y b → ∀ Q : VK, (∀ v H2, Ex H H2 → Da K H2 v c → Q v H2) → r x y H Q
def CallD (K : PySem.W.Frag) (r : List V → Hp → VK → Prop) (ds : List PyData) (c : PyData) : Prop := ∀ H xs, DaAll K H xs ds → ∀ Q : VK, (∀ v H2, Ex H H2 → Da K H2 v c → Q v H2) → r xs H Q

variable {σ : L2.St} {ta tb tc te : TE} {tt tu : TT} {tr : TA} {a b c d : PyData} {ds : List PyData} {r r' : R2} {i j : Int} {n : Nat} {v : V} {p q : Bool}
theorem edm (e : Ex H H') (h : EvD K te σ H d) : EvD K te σ H' d := fun H1 x Q q => h H1 (e.trans x) Q q
theorem ed_var {k : Nat} (h : σ[k]? = some (some v)) (hd : Da K H v d) : EvD K (tVar k) σ H d := fun H1 e _ q => ⟨v, h, q v H1 (Ex.refl H1) (dpm e hd)⟩
theorem use_ed {Q : VK} (h : EvD K te σ H d) (n : ∀ v H1, Ex H H1 → Da K H1 v d → Q v H1) : te σ H Q := h H (Ex.refl H) Q n
theorem use_ds {Q : List V → Hp → Prop} (h : EvDs K tr σ H ds) (n : ∀ vs H1, Ex H H1 → DaAll K H1 vs ds → Q vs H1) : tr σ H Q := h H (Ex.refl H) Q n
theorem ed_int : EvD K (tC (.int i)) σ H (.int i) := fun H1 _ _ q => q _ H1 (Ex.refl H1) (.int i)
theorem ed_non : EvD K (tC .non) σ H .none := fun H1 _ _ q => q _ H1 (Ex.refl H1) .non
theorem ed_bl {x : Bool} : EvD K (tC (.bl x)) σ H (.bool x) := fun H1 _ _ q => q _ H1 (Ex.refl H1) (.bl x)
theorem ed_str {x : Str} : EvD K (tC (.str x)) σ H (.str x) := fun H1 _ _ q => q _ H1 (Ex.refl H1) (.str x)
theorem ed_op (ha : EvD K ta σ H a) (hb : EvD K tb σ H b) (hr : OpD K r a b c) : EvD K (tOp r ta tb) σ H c := fun H1 e Q q =>
  ha H1 e _ fun x H2 e2 dx => hb H2 (e.trans e2) _ fun y H3 e3 dy => hr H3 x y (dpm e3 dx) dy Q fun v H4 e4 dv => q v H4 ((e2.trans e3).trans e4) dv
theorem ed_neg (ha : EvD K ta σ H (.int i)) : EvD K (tUn (rU fun i => .int (-i)) ta) σ H (.int (-i)) := fun H1 e Q q =>
  ha H1 e _ fun x H2 e2 dx => ⟨i, dp_intI dx, q _ H2 e2 (.int _)⟩
theorem ed_is (h : EvD K te σ H a) (e : a = b) : EvD K te σ H b := e ▸ h
theorem ds_nil : EvDs K tNil σ H [] := fun H1 _ _ q => q [] H1 (Ex.refl H1) .nil
theorem ds_cons (h : EvD K te σ H a) (hr : EvDs K tr σ H ds) : EvDs K (tCons te tr) σ H (a :: ds) := fun H1 e Q q =>
  h H1 e _ fun x H2 e2 dx => hr H2 (e.trans e2) _ fun xs H3 e3 dxs => q (x :: xs) H3 (e2.trans e3) (.cons (dpm e3 dx) dxs)
theorem ed_tup (h : EvDs K tr σ H ds) (hl : ds.length ≤ 100000 := by simp) : EvD K (tTup tr) σ H (.tuple ds) := fun H1 e Q q =>
  h H1 e _ fun xs H2 e2 dxs => ⟨sz_of (by rw [dps_len dxs]; exact hl), fun p hp => q _ _ (e2.trans (Ex.new hp)) (.tup (SqT.of upd_same) (dpsm (Ex.new hp) dxs))⟩
theorem ed_lst (h : EvDs K tr σ H ds) (hl : ds.length ≤ 100000 := by simp) : EvD K (tLst tr) σ H (.list ds) := fun H1 e Q q =>
  h H1 e _ fun xs H2 e2 dxs => ⟨sz_of (by rw [dps_len dxs]; exact hl), fun p hp => q _ _ (e2.trans (Ex.new hp)) (.lst (SqL.of upd_same) (dpsm (Ex.new hp) dxs))⟩
theorem ed_cb {f : List V → Hp → VK → Prop} (h : EvDs K tr σ H ds) (hq : CallD K f ds c) : EvD K (tCB f tr) σ H c := fun H1 e Q k =>
  h H1 e _ fun xs H2 e2 dxs => hq H2 xs dxs Q fun v H3 e3 dv => k v H3 (e2.trans e3) dv

/-! ### tests -/
theorem eq_test (h : EvD K te σ H (.bool p)) : EvT (tTest te) σ H p := fun H1 e _ q => h H1 e _ fun v H2 e2 dv => ⟨p, dp_boolI dv, q H2 e2⟩
theorem eq_val (h : EvD K te σ H (.bool p)) : EvT (tB te) σ H p := fun H1 e _ q => h H1 e _ fun v H2 e2 dv => ⟨p, dp_boolI dv, q H2 e2⟩
/-- a truth -/
def truD : PyData → Bool
  | .bool b => b
  | .int i => i != 0
  | .list xs => !xs.isEmpty
  | .tuple xs => !xs.isEmpty
  | .dict xs => !xs.isEmpty
  | .str x => (x.length : Int) != 0
  | _ => false
theorem dps_empty : ∀ {ds : List PyData} {vs : List V}, DaAll K H vs ds → vs.isEmpty = ds.isEmpty
  | _, _, .nil => rfl
  | _, _, .cons _ _ => rfl
theorem dk_empty : ∀ {ds : List (PyData × PyData)} {vs : List (Key × V)}, DaKv K H vs ds → vs.isEmpty = ds.isEmpty
  | _, _, .nil => rfl
  | _, _, .cons _ _ => rfl
theorem eq_tru (h : EvD K te σ H d) (hs : ∀ x, d = .str x → x.length ≤ 100000) : EvT (fun σ H Q => te σ H fun x H' => ∃ k, TruV K x H' k ∧ Q k H') σ H (truD d) := fun H1 e _ q =>
  h H1 e _ fun v H2 e2 dv => ⟨truD d, by
    cases dv with
    | non => rfl
    | bl b => rfl
    | int i => rfl
    | str x => exact ⟨sz_of (hs x rfl), rfl⟩
    | lst hl ha => exact Or.inl ⟨_, hl, by rw [dps_empty ha]; rfl⟩
    | tup hl ha => exact Or.inr (Or.inl ⟨_, hl, by rw [dps_empty ha]; rfl⟩)
    | dic hl ha => exact Or.inr (Or.inr ⟨_, hl, by rw [dk_empty ha]; rfl⟩), q H2 e2⟩
theorem ed_if (h : EvT tt σ H p) (h1 : p = true → EvD K ta σ H d) (h2 : p = false → EvD K tb σ H d) : EvD K (tIf tt ta tb) σ H d := fun H1 e Q q => h H1 e _ fun H2 e2 => by
  cases p with
  | true =>
    show ta σ H2 Q
    exact h1 rfl H2 (e.trans e2) Q fun v H3 e3 dv => q v H3 (e2.trans e3) dv
  | false =>
    show tb σ H2 Q
    exact h2 rfl H2 (e.trans e2) Q fun v H3 e3 dv => q v H3 (e2.trans e3) dv
theorem ed_and (h1 : EvD K ta σ H (.bool p)) (h2 : p = true → EvD K tb σ H (.bool q)) : EvD K (tAndV ta tb) σ H (.bool (p && q)) := fun H1 e Q k => h1 H1 e _ fun v H2 e2 dv => ⟨p, dp_boolI dv, by
  cases p with
  | true =>
    show tb σ H2 Q
    exact h2 rfl H2 (e.trans e2) Q fun v H3 e3 dv => k v H3 (e2.trans e3) dv
  | false =>
    show Q (.bl false) H2
    exact k _ H2 e2 (.bl false)⟩
theorem ed_or (h1 : EvD K ta σ H (.bool p)) (h2 : p = false → EvD K tb σ H (.bool q)) : EvD K (tOrV ta tb) σ H (.bool (p || q)) := fun H1 e Q k => h1 H1 e _ fun v H2 e2 dv => ⟨p, dp_boolI dv, by
  cases p with
  | true =>
    show Q (.bl true) H2
    exact k _ H2 e2 (.bl true)
  | false =>
    show tb σ H2 Q
    exact h2 rfl H2 (e.trans e2) Q fun v H3 e3 dv => k v H3 (e2.trans e3) dv⟩
theorem ed_notV (h1 : EvD K ta σ H (.bool p)) : EvD K (tNotV ta) σ H (.bool (!p)) := fun H1 e Q k => h1 H1 e _ fun v H2 e2 dv => ⟨p, dp_boolI dv, k _ H2 e2 (.bl _)⟩
theorem ed_chain (ha : EvD K ta σ H a) (hb : EvD K tb σ H b) (hr : OpD K r a b (.bool p)) (hc : p = true → EvD K tc σ H c) (hr' : p = true → OpD K r' b c (.bool q)) : EvD K (tChain r r' ta tb tc) σ H (.bool (p && q)) := fun H1 e Q k =>
  ha H1 e _ fun x H2 e2 dx => hb H2 (e.trans e2) _ fun y H3 e3 dy => hr H3 x y (dpm e3 dx) dy _ fun v H4 e4 dv => ⟨p, dp_boolI dv, by
    cases p with
    | false =>
      rw [if_neg (by decide)]
      exact k _ H4 ((e2.trans e3).trans e4) (.bl false)
    | true =>
      rw [if_pos rfl]
      exact hc rfl H4 (((e.trans e2).trans e3).trans e4) _ fun z H5 e5 dz => hr' rfl H5 y z (dpm (e4.trans e5) dy) dz Q fun v H6 e6 dv => k v H6 ((((e2.trans e3).trans e4).trans e5).trans e6) dv⟩

/-! ### operations on data -/
theorem opD_I0 {g : Int → Int → Int} : OpD K (rI0 fun i j => .int (g i j)) (.int i) (.int j) (.int (g i j)) := fun H1 x y hx hy Q q => by
  cases hx
  cases hy
  exact ⟨i, j, rfl, rfl, q _ H1 (Ex.refl H1) (.int _)⟩
theorem opD_B0 {g : Int → Int → Bool} : OpD K (rI0 fun i j => .bl (g i j)) (.int i) (.int j) (.bool (g i j)) := fun H1 x y hx hy Q q => by
  cases hx
  cases hy
  exact ⟨i, j, rfl, rfl, q _ H1 (Ex.refl H1) (.bl _)⟩
theorem opD_I {C : Int → Int → Prop} {g : Int → Int → Int} (h : C i j) : OpD K (rI C fun i j => .int (g i j)) (.int i) (.int j) (.int (g i j)) := fun H1 x y hx hy Q q => by
  cases hx
  cases hy
  exact ⟨i, j, rfl, rfl, h, q _ H1 (Ex.refl H1) (.int _)⟩
theorem opD_l (h : OpD K r a b c) : OpD K (orE r r') a b c := fun H1 x y hx hy Q q => Or.inl (h H1 x y hx hy Q q)
theorem opD_r (h : OpD K r' a b c) : OpD K (orE r r') a b c := fun H1 x y hx hy Q q => Or.inr (h H1 x y hx hy Q q)
theorem opD_eq {n m u w : Nat} (ha : Tame n u a) (hb : Tame m w b) (hn : n ≤ 40) (hm : m ≤ 40) : OpD K (rEqA K) a b (.bool (PyData.eqv a b)) := fun H1 x y hx hy Q q =>
  Or.inr ⟨a, b, da_dp ha.ly hx, da_dp hb.ly hy, ha.shaped (by omega), hb.shaped (by omega), q _ H1 (Ex.refl H1) (.bl _)⟩
theorem opD_ne {n m u w : Nat} (ha : Tame n u a) (hb : Tame m w b) (hn : n ≤ 40) (hm : m ≤ 40) : OpD K (rNeA K) a b (.bool (!PyData.eqv a b)) := fun H1 x y hx hy Q q =>
  Or.inr ⟨a, b, da_dp ha.ly hx, da_dp hb.ly hy, ha.shaped (by omega), hb.shaped (by omega), q _ H1 (Ex.refl H1) (.bl _)⟩
theorem opD_eqI : OpD K (rEqA K) (.int i) (.int j) (.bool (decide (i = j))) := fun H1 x y hx hy Q q => by
  cases hx
  cases hy
  refine Or.inl ⟨rfl, ?_⟩
  have e : decide (V.int i = V.int j) = decide (i = j) := by
    by_cases h : i = j
    · rw [h, decide_eq_true rfl, decide_eq_true rfl]
    · rw [decide_eq_false h, decide_eq_false (fun z => h (V.int.inj z))]
  rw [e]
  exact q _ H1 (Ex.refl H1) (.bl _)
theorem opD_neI : OpD K (rNeA K) (.int i) (.int j) (.bool (!decide (i = j))) := fun H1 x y hx hy Q q => by
  cases hx
  cases hy
  refine Or.inl ⟨rfl, ?_⟩
  have e : decide (V.int i = V.int j) = decide (i = j) := by
    by_cases h : i = j
    · rw [h, decide_eq_true rfl, decide_eq_true rfl]
    · rw [decide_eq_false h, decide_eq_false (fun z => h (V.int.inj z))]
  rw [e]
  exact q _ H1 (Ex.refl H1) (.bl _)
theorem opD_neS {x y : Str} : OpD K (rNeA K) (.str x) (.str y) (.bool (!decide (x = y))) := fun H1 u w hx hy Q q => by
  cases hx
  cases hy
  refine Or.inl ⟨rfl, ?_⟩
  have e : decide (V.str x = V.str y) = decide (x = y) := by
    by_cases h : x = y
    · rw [h, decide_eq_true rfl, decide_eq_true rfl]
    · rw [decide_eq_false h, decide_eq_false (fun z => h (V.str.inj z))]
  rw [e]
  exact q _ H1 (Ex.refl H1) (.bl _)
theorem atI_dp {ds : List PyData} {xs : List V} (h : DaAll K H xs ds) (e : atI ds i = some d) : ∃ v, atI xs i = some v ∧ Da K H v d := by
  have l := dps_len h
  unfold atI at e ⊢
  rw [l]
  cases z : ixN ds.length i with
  | none =>
    rw [z] at e
    cases e
  | some k =>
    rw [z] at e
    obtain ⟨v, h1, h2⟩ := dps_get h (show ds[k]? = some d from e)
    exact ⟨v, h1, h2⟩
theorem opD_ixT (e : atI ds i = some d) : OpD K (rIxA K) (.tuple ds) (.int i) d := fun H1 x y hx hy Q q => by
  obtain ⟨a, xs, rfl, ht, ha⟩ := dp_tupI hx
  cases hy
  obtain ⟨v, e1, dv⟩ := atI_dp ha e
  exact Or.inr ⟨a, xs, i, v, rfl, rfl, ht, e1, q v H1 (Ex.refl H1) dv⟩
theorem opD_ixL (e : atI ds i = some d) : OpD K (rIxA K) (.list ds) (.int i) d := fun H1 x y hx hy Q q => by
  obtain ⟨a, xs, rfl, ht, ha⟩ := dp_lstI hx
  cases hy
  obtain ⟨v, e1, dv⟩ := atI_dp ha e
  exact Or.inl ⟨a, xs, i, v, rfl, rfl, ht, e1, q v H1 (Ex.refl H1) dv⟩

/-! ### built-in calls on data -/
def fLen (K : PySem.W.Frag) : List V → Hp → VK → Prop := fun xs H Q => ∃ p ys, xs = [.ref p] ∧ (SqL K H p ys ∨ SqT K H p ys) ∧ Q (.int ys.length) H
def fAbs : List V → Hp → VK → Prop := fun xs H Q => ∃ i, xs = [.int i] ∧ Q (.int (if i < 0 then -i else i)) H
def fMin : List V → Hp → VK → Prop := fun xs H Q => ∃ i j, xs = [.int i, .int j] ∧ Q (.int (if j < i then j else i)) H
def fMax : List V → Hp → VK → Prop := fun xs H Q => ∃ i j, xs = [.int i, .int j] ∧ Q (.int (if j > i then j else i)) H
def fInt : List V → Hp → VK → Prop := fun xs H Q => (∃ i, xs = [.int i] ∧ Q (.int i) H) ∨ ∃ k, xs = [.bl k] ∧ Q (.int (if k then 1 else 0)) H
def fTup (K : PySem.W.Frag) : List V → Hp → VK → Prop := fun xs H Q => ∃ p ys, xs = [.ref p] ∧ ((SqL K H p ys ∧ ∀ l, H l = none → Q (.ref l) (upd H l (.tup ys))) ∨ (SqT K H p ys ∧ Q (.ref p) H))
def fLst (K : PySem.W.Frag) : List V → Hp → VK → Prop := fun xs H Q => ∃ p ys, xs = [.ref p] ∧ (SqL K H p ys ∨ SqT K H p ys) ∧ ∀ l, H l = none → Q (.ref l) (upd H l (.lst ys))
def fDivmod : List V → Hp → VK → Prop := fun xs H Q => ∃ i j, xs = [.int i, .int j] ∧ CDiv i j ∧ ∀ p, H p = none → Q (.ref p) (upd H p (.tup [.int (i / j), .int (i % j)]))
section
variable {X : Cx}
theorem fr_len : CallR X (.builtin "len") (fLen X.K) := call_len_seq
theorem fr_abs : CallR X (.builtin "abs") fAbs := call_abs
theorem fr_min (h : X.calm = true) : CallR X (.builtin "min") fMin := call_min2 h
theorem fr_max (h : X.calm = true) : CallR X (.builtin "max") fMax := call_max2 h
theorem fr_int : CallR X (.type "int") fInt := call_int1
theorem fr_tup : CallR X (.type "tuple") (fTup X.K) := call_tuple_of
theorem fr_lst : CallR X (.type "list") (fLst X.K) := call_list_of
theorem fr_divmod : CallR X (.builtin "divmod") fDivmod := call_divmod
end
theorem cd_lenL : CallD K (fLen K) [.list ds] (.int ds.length) := fun H1 xs hx Q q => by
  cases hx with
  | cons h t =>
    cases t
    obtain ⟨a, ys, rfl, hl, ha⟩ := dp_lstI h
    exact ⟨a, ys, rfl, Or.inl hl, by rw [dps_len ha]; exact q _ H1 (Ex.refl H1) (.int _)⟩
theorem cd_lenT : CallD K (fLen K) [.tuple ds] (.int ds.length) := fun H1 xs hx Q q => by
  cases hx with
  | cons h t =>
    cases t
    obtain ⟨a, ys, rfl, hl, ha⟩ := dp_tupI h
    exact ⟨a, ys, rfl, Or.inr hl, by rw [dps_len ha]; exact q _ H1 (Ex.refl H1) (.int _)⟩
theorem cd_abs : CallD K fAbs [.int i] (.int (if i < 0 then -i else i)) := fun H1 xs hx Q q => by
  cases hx with
  | cons h t =>
    cases t
    cases h
    exact ⟨i, rfl, q _ H1 (Ex.refl H1) (.int _)⟩
theorem cd_int : CallD K fInt [.int i] (.int i) := fun H1 xs hx Q q => by
  cases hx with
  | cons h t =>
    cases t
    cases h
    exact Or.inl ⟨i, rfl, q _ H1 (Ex.refl H1) (.int _)⟩
theorem cd_min : CallD K fMin [.int i, .int j] (.int (if j < i then j else i)) := fun H1 xs hx Q q => by
  cases hx with
  | cons h t =>
    cases t with
    | cons h2 t =>
      cases t
      cases h
      cases h2
      exact ⟨i, j, rfl, q _ H1 (Ex.refl H1) (.int _)⟩
theorem cd_max : CallD K fMax [.int i, .int j] (.int (if j > i then j else i)) := fun H1 xs hx Q q => by
  cases hx with
  | cons h t =>
    cases t with
    | cons h2 t =>
      cases t
      cases h
      cases h2
      exact ⟨i, j, rfl, q _ H1 (Ex.refl H1) (.int _)⟩
theorem cd_divmod (h : CDiv i j) : CallD K fDivmod [.int i, .int j] (.tuple [.int (i / j), .int (i % j)]) := fun H1 xs hx Q q => by
  cases hx with
  | cons h1 t =>
    cases t with
    | cons h2 t =>
      cases t
      cases h1
      cases h2
      exact ⟨i, j, rfl, h, fun p hp => q _ _ (Ex.new hp) (.tup (SqT.of upd_same) (.cons (.int _) (.cons (.int _) .nil)))⟩
theorem cd_tupL : CallD K (fTup K) [.list ds] (.tuple ds) := fun H1 xs hx Q q => by
  cases hx with
  | cons h t =>
    cases t
    obtain ⟨a, ys, rfl, hl, ha⟩ := dp_lstI h
    exact ⟨a, ys, rfl, Or.inl ⟨hl, fun l hp => q _ _ (Ex.new hp) (.tup (SqT.of upd_same) (dpsm (Ex.new hp) ha))⟩⟩
theorem cd_tupT : CallD K (fTup K) [.tuple ds] (.tuple ds) := fun H1 xs hx Q q => by
  cases hx with
  | cons h t =>
    cases t
    obtain ⟨a, ys, rfl, hl, ha⟩ := dp_tupI h
    exact ⟨a, ys, rfl, Or.inr ⟨hl, q _ _ (Ex.refl H1) (.tup hl ha)⟩⟩
theorem cd_lstL : CallD K (fLst K) [.list ds] (.list ds) := fun H1 xs hx Q q => by
  cases hx with
  | cons h t =>
    cases t
    obtain ⟨a, ys, rfl, hl, ha⟩ := dp_lstI h
    exact ⟨a, ys, rfl, Or.inl hl, fun l hp => q _ _ (Ex.new hp) (.lst (SqL.of upd_same) (dpsm (Ex.new hp) ha))⟩
theorem cd_lstT : CallD K (fLst K) [.tuple ds] (.list ds) := fun H1 xs hx Q q => by
  cases hx with
  | cons h t =>
    cases t
    obtain ⟨a, ys, rfl, hl, ha⟩ := dp_tupI h
    exact ⟨a, ys, rfl, Or.inr hl, fun l hp => q _ _ (Ex.new hp) (.lst (SqL.of upd_same) (dpsm (Ex.new hp) ha))⟩
theorem cd_repr (h : Tame 40 200000 d) : CallD K (rRepr K) [d] (.str d.shown) := fun H1 xs hx Q q => by
  cases hx with
  | cons h1 t =>
    cases t
    exact ⟨_, d, rfl, h1, h.r, q _ H1 (Ex.refl H1) (.str _)⟩
theorem cd_reprX (h : TameR 40 200000 d) : CallD K (rRepr K) [d] (.str d.shown) := fun H1 xs hx Q q => by
  cases hx with
  | cons h1 t =>
    cases t
    exact ⟨_, d, rfl, h1, h, q _ H1 (Ex.refl H1) (.str _)⟩

/-! ### defs that tell data and change nothing -/
def SpD (K : PySem.W.Frag) (R : List PyData → PyData → Prop) : Sp := fun vs H Q _ => ∃ ds d, DaAll K H vs ds ∧ R ds d ∧ ∀ v H2, Ex H H2 → Da K H2 v d → Q v H2
theorem ed_call {R : List PyData → PyData → Prop} {E : XK} (h : EvDs K tr σ H ds) (hR : R ds d) : EvD K (tCall (SpD K R) [] E tr) σ H d := fun H1 e Q q =>
  h H1 e _ fun xs H2 e2 dxs => ⟨ds, d, by rw [List.append_nil]; exact dxs, hR, fun v H3 e3 dv => q v H3 (e2.trans e3) dv⟩
structure Cal (P : Program) (w : World) (K : PySem.W.Frag) (mg : Str → Option Value) (base : Heap) (k : Nat) (x : Str) (sp : Sp) : Prop where
  ex : ∃ (f : Addr) (fd : FuncData) (ps : List Str), FnOk P w K mg base CX0 k f fd ps sp ∧ mg x = some (.ref f) ∧ PySem.W.keepIn K (.ref f) = true ∧ Binds K fd ps []
theorem pe_c {X : Cx} {k l : Nat} {x : Str} {sp : Sp} {p pos : Pos} {e : Expr} {es : List Expr} {t : TA} (c : Cal X.prog X.w X.K X.mg X.base k x sp) (hr : Room l X.A) (hk : k ≤ l) (hg : Gl X x) (ha : PA X (e :: es) t)
    (hdb : (x == ("__debug__" : Str)) = false := by decide) (he : starEach (e :: es) X.env = (false, eval e X.env) :: starEach es X.env := by rfl) (hpl : (backTo pos (starEach es X.env)).any (·.1) = false := by rfl) :
    PE X (.Call (.Name x p) (e :: es) [] pos) (tCall sp [] E0 t) := by
  obtain ⟨f, fd, ps, F, hm, kp, b⟩ := c.ex
  exact pe_call F (hr.mono hk) hg hm kp b .nil pass0 ha hdb he hpl
/-- a def of the text, under its name -/
structure Def (K : PySem.W.Frag) (mg : Str → Option Value) (x : Str) (st : Stmt) : Prop where
  ex : ∃ (f : Addr) (fd : FuncData), Fun K x x st f fd ∧ mg x = some (.ref f)
theorem cal_of {P : Program} {w : World} {mg : Str → Option Value} {base : Heap} {k : Nat} {x : Str} {st : Stmt} {N ps : List Str} {sp : Sp} (D : Def K mg x st) (S : FnScope N ps (defScope st))
    (hb : ∀ (kV doc pm : Value) (an : Option Addr) (cdv ct : Value) (us : List Value), us.length = ps.length → bindArgs (PySem.W.fnOf x x (defArgs st) (defBody st) (defScope st) .none kV doc pm an cdv ct) ⟨us, []⟩ = pure (ps.zip us))
    (len : ∀ vs H Q E, sp vs H Q E → vs.length = ps.length)
    (hbody : ∀ (f : Addr) (cdv : Value) (A : Around) (outer : List Env) (s : Shared) (H : Hp) (vs : List V) (Q : VK) (E : XK), Room k (A.deeper (envOfC x (defScope st) s.heap.objs.size f cdv)) → sp vs H Q E →
      ∃ t, PSs (cxOf CX0 P w K mg base N x (defScope st) f cdv A outer s H E).nox (defBody st) t ∧ t { nx := fun _ H' => Q .non H', rt := Q } (start N vs) H) : Cal P w K mg base (k + 1) x sp := by
  obtain ⟨f, fd, F, hm⟩ := D.ex
  exact ⟨f, fd, ps, F.ok S len (fun cdv A outer s H vs Q E hr h => hbody f cdv A outer s H vs Q E hr h), hm, F.kp, F.binds hb⟩
end
end Mm

namespace Mm
open PySem PySem.Spec PyProof.Rows L2 Evl

/-! ### statements -/
section
variable {K : PySem.W.Frag} {H H' : Hp} {σ : L2.St} {ta tb tc te tl : TE} {tt tu : TT} {tr : TA} {a b c d : PyData} {ds : List PyData} {D : Ends} {u z : TS} {g : TG} {p q : Bool}
theorem sd_asg {k : Nat} (h : EvD K te σ H d) (n : ∀ v H1, Ex H H1 → Da K H1 v d → D.nx (σ.set k (some v)) H1) : tAsg te (gName k) D σ H :=
  h H (Ex.refl H) _ fun v H1 e dv => n v H1 e dv
theorem qd_asg {k : Nat} (h : EvD K te σ H d) (n : ∀ v H1, Ex H H1 → Da K H1 v d → z D (σ.set k (some v)) H1) : tSeq (tAsg te (gName k)) z D σ H :=
  sd_asg (D := { D with nx := z D }) h n
theorem sd_ret (h : EvD K te σ H d) (n : ∀ v H1, Ex H H1 → Da K H1 v d → D.rt v H1) : tRet te D σ H := h H (Ex.refl H) _ fun v H1 e dv => n v H1 e dv
theorem qd_un2 {i j : Nat} {N : Nat} (h : EvD K te σ H (.tuple [a, b])) (hN : N = 2) (n : ∀ x y H1, Ex H H1 → Da K H1 x a → Da K H1 y b → z D ((σ.set i (some x)).set j (some y)) H1) :
    tSeq (tAsg te (gTup K N (gCons (gName i) (gCons (gName j) gNil)))) z D σ H :=
  h H (Ex.refl H) _ fun v H1 e dv => by
    obtain ⟨t, xs, rfl, ht, hx⟩ := dp_tupI dv
    cases hx with
    | cons h1 hx =>
      cases hx with
      | cons h2 hx =>
        cases hx
        exact ⟨t, _, rfl, ht, hN.symm, _, _, rfl, _, _, rfl, rfl, n _ _ H1 e h1 h2⟩
theorem qd_par {i j : Nat} (h : EvDs K tr σ H [a, b]) (n : ∀ x y H1, Ex H H1 → Da K H1 x a → Da K H1 y b → z D ((σ.set i (some x)).set j (some y)) H1) : tSeq (tPar i j tr) z D σ H :=
  h H (Ex.refl H) _ fun vs H1 e dv => by
    cases dv with
    | cons h1 hx =>
      cases hx with
      | cons h2 hx =>
        cases hx
        exact ⟨_, _, rfl, n _ _ H1 e h1 h2⟩
/-- found.append(e), found.extend(e): found may be changed by whoever holds it -/
theorem sd_app {l : Addr} {xs : List V} (hl : H l = some (.lst xs)) (ha : EvD K ta σ H a) (hv : ∀ v H1, Ex H H1 → Da K H1 v a → v = .ref l) (h : EvD K te σ H d) (hz : xs.length < 100000)
    (n : ∀ v H1, Ex H H1 → Da K H1 v d → D.nx σ (upd H1 l (.lst (xs ++ [v])))) : tDrop (tBM K "list" rAppend ta (tCons te tNil)) D σ H := ha H (Ex.refl H) _ fun x H1 e1 dx => by
  have ex := hv x H1 e1 dx
  subst ex
  exact ⟨Or.inl ⟨rfl, xs, sq_of (e1 l _ hl)⟩, h H1 e1 _ fun v H2 e2 dv => ⟨l, xs, v, rfl, rfl, e2 l _ (e1 l _ hl), sz_lt hz, n v H2 (e1.trans e2) dv⟩⟩
theorem sd_appV {l : Addr} {xs : List V} {k : Nat} (hk : σ[k]? = some (some (.ref l))) (hl : H l = some (.lst xs)) (h : EvD K te σ H d) (hz : xs.length < 100000)
    (n : ∀ v H1, Ex H H1 → Da K H1 v d → D.nx σ (upd H1 l (.lst (xs ++ [v])))) : tDrop (tBM K "list" rAppend (tVar k) (tCons te tNil)) D σ H :=
  ⟨.ref l, hk, Or.inl ⟨rfl, xs, sq_of hl⟩, h H (Ex.refl H) _ fun v H2 e2 dv => ⟨l, xs, v, rfl, rfl, e2 l _ hl, sz_lt hz, n v H2 e2 dv⟩⟩
/-- the list that an expression makes -/
def EvN (K : PySem.W.Frag) (te : TE) (σ : L2.St) (H : Hp) (ds : List PyData) : Prop := ∀ H1, Ex H H1 → ∀ Q : VK, (∀ l xs H2, H1 l = none → Ex H1 H2 → H2 l = some (.lst xs) → DaAll K H2 xs ds → Q (.ref l) H2) → te σ H1 Q
theorem evn_d (h : EvN K te σ H ds) : EvD K te σ H (.list ds) := fun H1 e Q q => h H1 e Q fun l xs H2 _ e2 hl hx => q _ H2 e2 (.lst (SqL.of hl) hx)
theorem en_lst (h : EvDs K tr σ H ds) (hl : ds.length ≤ 100000 := by simp) : EvN K (tLst tr) σ H ds := fun H1 e Q q =>
  h H1 e _ fun xs H2 e2 dxs => ⟨sz_of (by rw [dps_len dxs]; exact hl), fun p hp => q p xs _ (fresh_back e2 hp) (e2.trans (Ex.new hp)) upd_same (dpsm (Ex.new hp) dxs)⟩
theorem sd_extV {l : Addr} {xs : List V} {k : Nat} (hk : σ[k]? = some (some (.ref l))) (hl : H l = some (.lst xs)) (h : EvN K te σ H ds) (hz : xs.length + ds.length ≤ 100000)
    (n : ∀ vs H1, Ex H H1 → DaAll K H1 vs ds → D.nx σ (upd H1 l (.lst (xs ++ vs)))) : tDrop (tBM K "list" rExtend (tVar k) (tCons te tNil)) D σ H :=
  ⟨.ref l, hk, Or.inl ⟨rfl, xs, sq_of hl⟩, h H (Ex.refl H) _ fun p vs H2 _ e2 hp dv => ⟨l, p, xs, vs, rfl, rfl, e2 l _ hl, hp, sz_of (by rw [dps_len dv]; exact hz), n vs H2 e2 dv⟩⟩

/-! ### loops -/
theorem sd_rng {j : Nat} {n : Int} {ta : TA} (h : EvDs K ta σ H [.int n]) (hn : -100000 ≤ n ∧ n ≤ 100000) (W : Nat → L2.St → Hp → Prop) (h0 : ∀ H1, Ex H H1 → W 0 σ H1)
    (hs : ∀ (i : Nat) σ' H', (i : Int) < n → W i σ' H' → u { D with nx := W (i + 1), ct := W (i + 1), bk := D.nx } (σ'.set j (some (.int (i : Int)))) H') (hd : ∀ σ' H', W n.toNat σ' H' → D.nx σ' H') : tFor (iRng1 ta) (gName j) u D σ H :=
  h H (Ex.refl H) _ fun vs H1 e dv => by
    cases dv with
    | cons h1 hx =>
      cases hx
      cases h1
      refine ⟨n, rfl, by omega, by omega, for_range (lo := 0) (n := n.toNat) W (h0 H1 e) (fun i σ' H' hi p => ?_) hd⟩
      have e0 : (0 : Int) + (i : Int) = (i : Int) := Int.zero_add _
      show u { D with nx := W (i + 1), ct := W (i + 1), bk := D.nx } (σ'.set j (some (.int ((0 : Int) + (i : Int))))) H'
      rw [e0]
      exact hs i σ' H' (by omega) p
theorem qd_rng {j : Nat} {n : Int} {ta : TA} (h : EvDs K ta σ H [.int n]) (hn : -100000 ≤ n ∧ n ≤ 100000) (W : Nat → L2.St → Hp → Prop) (h0 : ∀ H1, Ex H H1 → W 0 σ H1)
    (hs : ∀ (i : Nat) σ' H', (i : Int) < n → W i σ' H' → u { D with nx := W (i + 1), ct := W (i + 1), bk := z D } (σ'.set j (some (.int (i : Int)))) H') (hd : ∀ σ' H', W n.toNat σ' H' → z D σ' H') : tSeq (tFor (iRng1 ta) (gName j) u) z D σ H :=
  sd_rng (D := { D with nx := z D }) h hn W h0 hs hd
/-- the items of a list or a tuple -/
inductive Items : PyData → List PyData → Prop
  | lst (ds : List PyData) : Items (.list ds) ds
  | tup (ds : List PyData) : Items (.tuple ds) ds
theorem sd_seq (h : EvD K tl σ H d) (hi : Items d ds) (W : V → Nat → L2.St → Hp → Prop) (h0 : ∀ v H1, Ex H H1 → Da K H1 v d → W v 0 σ H1)
    (hl : ∀ v i σ' H', W v i σ' H' → Da K H' v d)
    (hs : ∀ v i e x σ' H', ds[i]? = some e → W v i σ' H' → Da K H' x e → g x σ' H' fun σ2 H2 => u { D with nx := W v (i + 1), ct := W v (i + 1), bk := D.nx } σ2 H2)
    (hd : ∀ v σ' H', W v ds.length σ' H' → D.nx σ' H') : tFor (iSeq K tl) g u D σ H := by
  cases hi with
  | lst =>
    refine Or.inl (h H (Ex.refl H) _ fun v H1 e dv => ?_)
    have dv0 := dv
    obtain ⟨a, xs, rfl, hx, hA⟩ := dp_lstI dv
    refine ⟨a, rfl, ⟨xs, hx⟩, fun i m σ' H' => m = ds.length - i ∧ i ≤ ds.length ∧ W (.ref a) i σ' H', ⟨ds.length, rfl, Nat.zero_le _, h0 _ H1 e dv0⟩, fun i m σ' H' hw => ?_⟩
    obtain ⟨rfl, le, w⟩ := hw
    obtain ⟨a', xs', e1, hx', hA'⟩ := dp_lstI (hl _ i σ' H' w)
    cases e1
    have len := dps_len hA'
    by_cases lt : i < ds.length
    · have lt' : i < xs'.length := by omega
      refine Or.inr ⟨⟨xs', xs'[i], hx', List.getElem?_eq_getElem lt'⟩, fun σ2 H2 => W (.ref a) (i + 1) σ2 H2, fun σ2 H2 w2 => ⟨ds.length - (i + 1), by omega, rfl, lt, w2⟩, fun x H2 y => ?_⟩
      obtain ⟨rfl, y⟩ := y
      obtain ⟨dd, e2, dx⟩ := dps_got hA' (y xs' hx')
      exact hs _ i dd x σ' _ e2 w dx
    · have : i = ds.length := by omega
      subst this
      exact Or.inl ⟨⟨xs', hx', by omega⟩, hd _ σ' H' w⟩
  | tup =>
    refine Or.inr (h H (Ex.refl H) _ fun v H1 e dv => ?_)
    have dv0 := dv
    obtain ⟨a, xs, rfl, hx, hA⟩ := dp_tupI dv
    refine ⟨a, rfl, ⟨xs, hx⟩, fun i m σ' H' => m = ds.length - i ∧ i ≤ ds.length ∧ W (.ref a) i σ' H', ⟨ds.length, rfl, Nat.zero_le _, h0 _ H1 e dv0⟩, fun i m σ' H' hw => ?_⟩
    obtain ⟨rfl, le, w⟩ := hw
    obtain ⟨a', xs', e1, hx', hA'⟩ := dp_tupI (hl _ i σ' H' w)
    cases e1
    have len := dps_len hA'
    by_cases lt : i < ds.length
    · have lt' : i < xs'.length := by omega
      refine Or.inr ⟨⟨xs', xs'[i], hx', List.getElem?_eq_getElem lt'⟩, fun σ2 H2 => W (.ref a) (i + 1) σ2 H2, fun σ2 H2 w2 => ⟨ds.length - (i + 1), by omega, rfl, lt, w2⟩, fun x H2 y => ?_⟩
      obtain ⟨rfl, y⟩ := y
      obtain ⟨dd, e2, dx⟩ := dps_got hA' (y xs' hx')
      exact hs _ i dd x σ' _ e2 w dx
    · have : i = ds.length := by omega
      subst this
      exact Or.inl ⟨⟨xs', hx', by omega⟩, hd _ σ' H' w⟩
theorem qd_seq (h : EvD K tl σ H d) (hi : Items d ds) (W : V → Nat → L2.St → Hp → Prop) (h0 : ∀ v H1, Ex H H1 → Da K H1 v d → W v 0 σ H1)
    (hl : ∀ v i σ' H', W v i σ' H' → Da K H' v d)
    (hs : ∀ v i e x σ' H', ds[i]? = some e → W v i σ' H' → Da K H' x e → g x σ' H' fun σ2 H2 => u { D with nx := W v (i + 1), ct := W v (i + 1), bk := z D } σ2 H2)
    (hd : ∀ v σ' H', W v ds.length σ' H' → z D σ' H') : tSeq (tFor (iSeq K tl) g u) z D σ H :=
  sd_seq (D := { D with nx := z D }) h hi W h0 hl hs hd

/-! ### data without lists stands on tuples alone -/
end
mutual
def flat : PyData → Bool
  | .list _ => false
  | .dict _ => false
  | .tuple ds => flats ds
  | .none | .bool _ | .int _ | .str _ => true
def flats : List PyData → Bool
  | [] => true
  | d :: ds => flat d && flats ds
end
def Et (H H' : Hp) : Prop := ∀ a o, H a = some o → (∃ xs, o = .tup xs ∨ ∃ b, o = .frz b (.tup xs)) → H' a = some o
theorem Et.of {H H' : Hp} (e : Ey H H') : Et H H' := fun a o h k => e a o h (by
  rcases k with ⟨xs, rfl | ⟨b, rfl⟩⟩ <;> exact fun z => z)
theorem Et.ex {H H' : Hp} (e : Ex H H') : Et H H' := fun a o h _ => e a o h
theorem Et.refl (H : Hp) : Et H H := fun _ _ h _ => h
theorem Et.trans {H H1 H2 : Hp} (a : Et H H1) (b : Et H1 H2) : Et H H2 := fun x o h k => b x o (a x o h k) k
theorem Et.upd {H : Hp} {l : Addr} {xs : List V} {o : HO} (h : H l = some (.lst xs)) : Et H (upd H l o) := fun a u e k => by
  have n : a ≠ l := fun z => by
    subst z
    rw [h] at e
    cases e
    rcases k with ⟨_, z | ⟨_, z⟩⟩ <;> cases z
  rw [upd_ne n]
  exact e
theorem et_t {K : PySem.W.Frag} {H H' : Hp} {a : Addr} {xs : List V} (e : Et H H') (h : SqT K H a xs) : SqT K H' a xs := by
  rcases h with (h | ⟨o, h⟩) | h
  · exact Or.inl (Or.inl (e a _ h ⟨xs, Or.inl rfl⟩))
  · exact Or.inl (Or.inr ⟨o, e a _ h ⟨xs, Or.inr ⟨o, rfl⟩⟩⟩)
  · exact Or.inr h
section
variable {K : PySem.W.Frag} {H H' : Hp}
mutual
theorem dpt (e : Et H H') : ∀ {d : PyData} {v : V}, flat d = true → Da K H v d → Da K H' v d
  | _, _, _, .non => .non
  | _, _, _, .bl b => .bl b
  | _, _, _, .int i => .int i
  | _, _, _, .str x => .str x
  | _, _, f, .lst _ _ => by simp [flat] at f
  | _, _, f, .tup h a => .tup (et_t e h) (dpst e (by simpa [flat] using f) a)
theorem dpst (e : Et H H') : ∀ {ds : List PyData} {vs : List V}, flats ds = true → DaAll K H vs ds → DaAll K H' vs ds
  | _, _, _, .nil => .nil
  | x :: xs, _, f, .cons h a => by
    have f' : flat x = true ∧ flats xs = true := by simpa [flats] using f
    exact .cons (dpt e f'.1 h) (dpst e f'.2 a)
end
theorem flats_app : ∀ {a b : List PyData}, flats (a ++ b) = (flats a && flats b)
  | [], b => by simp [flats]
  | x :: a, b => by simp [flats, flats_app, Bool.and_assoc]
theorem flats_all : ∀ {ds : List PyData}, (∀ d ∈ ds, flat d = true) → flats ds = true
  | [], _ => by simp [flats]
  | d :: ds, h => by
    simp only [flats, h d List.mem_cons_self, flats_all (fun e he => h e (List.mem_cons_of_mem _ he)), Bool.and_self]
theorem flats_mem : ∀ {ds : List PyData} {d : PyData}, flats ds = true → d ∈ ds → flat d = true
  | e :: ds, d, f, h => by
    have f' : flat e = true ∧ flats ds = true := by simpa [flats] using f
    rcases List.mem_cons.mp h with z | z
    · rw [z]
      exact f'.1
    · exact flats_mem f'.2 z

/-! ### comprehensions -/
variable {σ : L2.St} {ta tb tc te tl : TE} {tt tu : TT} {tr : TA} {a b c d : PyData} {ds : List PyData} {D : Ends} {u z : TS} {g : TG} {p q : Bool}
/-- made so far -/
structure Got (K : PySem.W.Frag) (H1 : Hp) (Dl : Addr) (es : List PyData) (H : Hp) : Prop where
  nw : H1 Dl = none
  ex : Ex H1 H
  so : ∃ acc, H Dl = some (.lst acc) ∧ DaAll K H acc es
  fl : flats es = true
theorem got_new {H1 : Hp} {Dl : Addr} (h : H1 Dl = none) : Got K H1 Dl [] (upd H1 Dl (.lst [])) := ⟨h, Ex.new h, ⟨[], upd_same, .nil⟩, by simp [flats]⟩
theorem got_more {H1 H2 H3 : Hp} {Dl : Addr} {es : List PyData} {y : V} (h : Got K H1 Dl es H2) (e : Ex H2 H3) (hd : Da K H3 y d) (hf : flat d = true) (hz : es.length < 100000) :
    ∃ acc, H3 Dl = some (.lst acc) ∧ acc.length < sizeLine ∧ Got K H1 Dl (es ++ [d]) (upd H3 Dl (.lst (acc ++ [y]))) := by
  obtain ⟨h1, h2, ⟨acc, h3, h4⟩, h5⟩ := h
  have len := dps_len h4
  have h3' := e _ _ h3
  have t : Et H3 (upd H3 Dl (.lst (acc ++ [y]))) := Et.upd h3'
  refine ⟨acc, h3', sz_lt (by omega), h1, Ex.mut (h2.trans e) h1, ⟨acc ++ [y], upd_same, dps_app (dpst t h5 (dpsm e h4)) (.cons (dpt t hf hd) .nil)⟩, ?_⟩
  rw [flats_app, h5]
  simp [flats, hf]
/-- what one turn must do: its target, its test, its value -/
def TurnD (K : PySem.W.Frag) (g : TG) (tt : TT) (te : TE) (vs : List Nat) (σ : L2.St) (H : Hp) (e : PyData) (f : Bool) (d : PyData) : Prop :=
  ∀ x H1, Ex H H1 → Da K H1 x e → ∃ σ2, wipe σ2 vs = wipe σ vs ∧ (∀ Q : L2.St → Hp → Prop, Q σ2 H1 → g x (wipe σ vs) H1 Q) ∧ EvT tt σ2 H1 f ∧ (f = true → EvD K te σ2 H1 d)
theorem lc_turn {H0 H1 H2 : Hp} {Dl : Addr} {vs : List Nat} {es : List PyData} {x : V} {e : PyData} {f : Bool} {N : Hp → Prop} (ht : TurnD K g tt te vs σ H0 e f d) (e0 : Ex H0 H1) (hx : Da K H2 x e)
    (h : Got K H1 Dl es H2) (hf : f = true → flat d = true) (hz : es.length < 100000) (hN : ∀ H3, Got K H1 Dl (if f = true then es ++ [d] else es) H3 → N H3) :
    g x (wipe σ vs) H2 fun σ2 H2 => wipe σ2 vs = wipe σ vs ∧ tt σ2 H2 fun b H3 => if b = true then te σ2 H3 fun y H4 => ∃ acc, H4 Dl = some (.lst acc) ∧ acc.length < sizeLine ∧ N (upd H4 Dl (.lst (acc ++ [y]))) else N H3 := by
  obtain ⟨σ2, w, hg, h1, h2⟩ := ht x H2 (e0.trans h.ex) hx
  refine hg _ ⟨w, h1 H2 (Ex.refl H2) _ fun H3 e3 => ?_⟩
  cases f with
  | true =>
    rw [if_pos rfl]
    refine h2 rfl H3 e3 _ fun y H4 e4 dy => ?_
    obtain ⟨acc, a1, a2, a3⟩ := got_more h (e3.trans e4) dy (hf rfl) hz
    exact ⟨acc, a1, a2, hN _ (by rw [if_pos rfl]; exact a3)⟩
  | false =>
    rw [if_neg (by decide)]
    refine hN H3 ?_
    rw [if_neg (by decide)]
    obtain ⟨b1, b2, ⟨acc, b3, b4⟩, b5⟩ := h
    exact ⟨b1, b2.trans e3, ⟨acc, e3 _ _ b3, dpsm e3 b4⟩, b5⟩
theorem picked_take {ds : List PyData} {i : Nat} {e : PyData} (f : PyData → Bool) (m : PyData → PyData) (h : ds[i]? = some e) :
    ((ds.take (i + 1)).filter f).map m = if f e = true then ((ds.take i).filter f).map m ++ [m e] else ((ds.take i).filter f).map m := by
  rw [List.take_add_one, h]
  show ((ds.take i ++ [e]).filter f).map m = _
  rw [List.filter_append, List.map_append]
  cases k : f e with
  | true =>
    rw [if_pos rfl, List.filter_cons, if_pos k]
    rfl
  | false =>
    rw [if_neg (by decide), List.filter_cons, if_neg (by rw [k]; decide)]
    show _ ++ [] = _
    rw [List.append_nil]
/-- [te for g in tl if tt] -/
theorem en_lc {vs : List Nat} (f : PyData → Bool) (m : PyData → PyData) (h : EvD K tl σ H d) (hi : Items d ds) (hz : ds.length ≤ 50000)
    (ht : ∀ e ∈ ds, TurnD K g tt te vs σ H e (f e) (m e)) (hf : ∀ e ∈ ds, f e = true → flat (m e) = true) : EvN K (tLc (iSeq K tl) g tt te vs) σ H ((ds.filter f).map m) := fun H0 e0 Q q => by
  have fin : ∀ {H1 Hn : Hp} {Dl : Addr}, Ex H0 H1 → Got K H1 Dl (((ds.take ds.length).filter f).map m) Hn → Q (.ref Dl) Hn := fun {H1 Hn Dl} x k => by
    rw [List.take_length] at k
    obtain ⟨b1, b2, ⟨acc, b3, b4⟩, b5⟩ := k
    exact q Dl acc Hn (fresh_back x b1) (x.trans b2) b3 b4
  have lenle : ∀ i, (((ds.take i).filter f).map m).length < 100000 := fun i => by
    rw [List.length_map]
    have := List.length_filter_le f (ds.take i)
    have := List.length_take_le i ds
    have : (ds.take i).length ≤ ds.length := by
      rw [List.length_take]
      omega
    omega
  cases hi with
  | lst =>
    refine Or.inl (h H0 e0 _ fun v H1 e1 dv => ?_)
    obtain ⟨a, xs, rfl, hx, hA⟩ := dp_lstI dv
    refine ⟨a, rfl, ⟨xs, hx⟩, fun Dl hD => lc_list (xs := xs) (fun i H' => Got K H1 Dl (((ds.take i).filter f).map m) H') (got_new hD) (fun i H' _ k => ex_l k.ex hx) (fun i x H' hi k => ?_) (fun H' k => fin e1 (by rw [dps_len hA] at k; exact k))⟩
    obtain ⟨e, he, dx⟩ := dps_got hA hi
    have hm := List.mem_of_getElem? he
    refine lc_turn (ht e hm) (e0.trans e1) (dpm k.ex dx) k (hf e hm) (lenle i) fun H3 k3 => ?_
    rw [picked_take f m he]
    exact k3
  | tup =>
    refine Or.inr (h H0 e0 _ fun v H1 e1 dv => ?_)
    obtain ⟨a, xs, rfl, hx, hA⟩ := dp_tupI dv
    refine ⟨a, rfl, ⟨xs, hx⟩, fun Dl hD => lc_tup (xs := xs) (fun i H' => Got K H1 Dl (((ds.take i).filter f).map m) H') (got_new hD) (fun i H' _ k => ex_t k.ex hx) (fun i x H' hi k => ?_) (fun H' k => fin e1 (by rw [dps_len hA] at k; exact k))⟩
    obtain ⟨e, he, dx⟩ := dps_got hA hi
    have hm := List.mem_of_getElem? he
    refine lc_turn (ht e hm) (e0.trans e1) (dpm k.ex dx) k (hf e hm) (lenle i) fun H3 k3 => ?_
    rw [picked_take f m he]
    exact k3
/-- the ints 0 .. n - 1 as data -/
def upto (n : Nat) : List PyData := (List.range n).map fun i : Nat => .int (i : Int)
theorem upto_len (n : Nat) : (upto n).length = n := by
  unfold upto
  rw [List.length_map, List.length_range]
theorem upto_get {n i : Nat} (h : i < n) : (upto n)[i]? = some (.int (i : Int)) := by
  unfold upto
  rw [List.getElem?_map, List.getElem?_range h]
  rfl
theorem upto_mem {n : Nat} {d : PyData} (h : d ∈ upto n) : ∃ i : Nat, i < n ∧ d = .int (i : Int) := by
  unfold upto at h
  obtain ⟨i, hi, e⟩ := List.mem_map.mp h
  exact ⟨i, List.mem_range.mp hi, e.symm⟩
theorem en_lcR {vs : List Nat} {n : Int} {ta : TA} (f : PyData → Bool) (m : PyData → PyData) (h : EvDs K ta σ H [.int n]) (hn : -100000 ≤ n ∧ n ≤ 50000)
    (ht : ∀ i : Nat, (i : Int) < n → TurnD K g tt te vs σ H (.int (i : Int)) (f (.int (i : Int))) (m (.int (i : Int)))) (hf : ∀ i : Nat, (i : Int) < n → f (.int (i : Int)) = true → flat (m (.int (i : Int))) = true) :
    EvN K (tLc (iRng1 ta) g tt te vs) σ H (((upto n.toNat).filter f).map m) := fun H0 e0 Q q => h H0 e0 _ fun ws H1 e1 dv => by
  have lenle : ∀ i, ((((upto n.toNat).take i).filter f).map m).length < 100000 := fun i => by
    rw [List.length_map]
    have := List.length_filter_le f ((upto n.toNat).take i)
    have : ((upto n.toNat).take i).length ≤ n.toNat := by
      rw [List.length_take, upto_len]
      omega
    omega
  cases dv with
  | cons h1 hx =>
    cases hx
    cases h1
    refine ⟨n, rfl, by omega, by omega, fun Dl hD => lc_range (lo := 0) (n := n.toNat) (fun i H' => Got K H1 Dl ((((upto n.toNat).take i).filter f).map m) H') (got_new hD) (fun i H' hi k => ?_) (fun H' k => ?_)⟩
    · have e2 : (0 : Int) + (i : Int) = (i : Int) := Int.zero_add _
      show g (.int ((0 : Int) + (i : Int))) _ _ _
      rw [e2]
      refine lc_turn (ht i (by omega)) (e0.trans e1) (.int _) k (hf i (by omega)) (lenle i) fun H3 k3 => ?_
      rw [picked_take f m (upto_get hi)]
      exact k3
    · have e3 : (upto n.toNat).take n.toNat = upto n.toNat := List.take_of_length_le (by rw [upto_len]; exact Nat.le_refl _)
      rw [e3] at k
      obtain ⟨b1, b2, ⟨acc, b3, b4⟩, b5⟩ := k
      exact q Dl acc H' (fresh_back e1 b1) (e1.trans b2) b3 b4
theorem et_yes : EvT tYes σ H true := fun H1 _ _ q => q H1 (Ex.refl H1)
theorem turn_name {vs : List Nat} {j : Nat} {e : PyData} {f : Bool} (hw : ∀ x, wipe ((wipe σ vs).set j (some x)) vs = wipe σ vs) (ht : ∀ x H1, Ex H H1 → Da K H1 x e → EvT tt ((wipe σ vs).set j (some x)) H1 f)
    (he : ∀ x H1, Ex H H1 → Da K H1 x e → f = true → EvD K te ((wipe σ vs).set j (some x)) H1 d) : TurnD K (gName j) tt te vs σ H e f d :=
  fun x H1 e1 dx => ⟨(wipe σ vs).set j (some x), hw x, fun Q q => q, ht x H1 e1 dx, fun hf => he x H1 e1 dx hf⟩
theorem turn_pair {vs : List Nat} {i j : Nat} {N : Nat} {a b : PyData} {f : Bool} (hN : N = 2) (hw : ∀ x y, wipe (((wipe σ vs).set i (some x)).set j (some y)) vs = wipe σ vs)
    (ht : ∀ x y H1, Ex H H1 → Da K H1 x a → Da K H1 y b → EvT tt (((wipe σ vs).set i (some x)).set j (some y)) H1 f)
    (he : ∀ x y H1, Ex H H1 → Da K H1 x a → Da K H1 y b → f = true → EvD K te (((wipe σ vs).set i (some x)).set j (some y)) H1 d) : TurnD K (gTup K N (gCons (gName i) (gCons (gName j) gNil))) tt te vs σ H (.tuple [a, b]) f d :=
  fun x H1 e1 dx => by
    obtain ⟨t, xs, rfl, htt, hx⟩ := dp_tupI dx
    cases hx with
    | cons h1 hx =>
      cases hx with
      | cons h2 hx =>
        cases hx
        exact ⟨_, hw _ _, fun Q q => ⟨t, _, rfl, htt, hN.symm, _, _, rfl, _, _, rfl, rfl, q⟩, ht _ _ H1 e1 h1 h2, fun hf => he _ _ H1 e1 h1 h2 hf⟩
end
end Mm

namespace Mm
open PySem PySem.Spec PyProof.Rows L2 Evl

/-! ### the deck: told by its own object, so that drawing leaves all else as it was -/
def dkv (L : Addr) (i r n : Int) : List V := [.ref L, .int i, .int r, .int n]
def DkN (i r n : Int) (b : Nat) : Prop := 0 ≤ i ∧ i ≤ b ∧ 0 ≤ r ∧ 0 ≤ n ∧ n ≤ b
def DeckPhi (D L : Addr) (b : Nat) : Heap → Prop := fun h => ∃ (i r n : Int) (its : List Value) (c : Nat), DkN i r n b ∧ Vals (dkv L i r n) its ∧
  h.get? D = some { cls := .type "list", data := .seq its.toArray c }
structure Deck (H : Hp) (D L : Addr) (ns : List Int) (b : Nat) : Prop where
  dk : H D = some (.ext (DeckPhi D L b))
  ls : H L = some (.lst (ns.map V.int))
  sm : ns.length ≤ 63
theorem deck_ex {H H' : Hp} {D L : Addr} {ns : List Int} {b : Nat} (e : Ex H H') (h : Deck H D L ns b) : Deck H' D L ns b := ⟨e _ _ h.dk, e _ _ h.ls, h.sm⟩
section
variable {P : Program} {w : World} {H : Hp} {h : Heap} {D L : Addr} {b : Nat}
theorem phi_stable : ∀ h1 h2 : Heap, DeckPhi D L b h1 → (∀ o, h1.get? D = some o → h2.get? D = some o) → DeckPhi D L b h2 := by
  rintro h1 h2 ⟨i, r, n, its, c, k, v, e⟩ z
  exact ⟨i, r, n, its, c, k, v, z _ e⟩
theorem review {o o' : HO} (ok : HOk P w H h) (hD : H D = some o) (no : ∀ b, o ≠ .own b) (nt : ∀ xs, o ≠ .tup xs) (new : ObjOk P w (upd H D o') h D o') : HOk P w (upd H D o') h := by
  intro a u e
  by_cases z : a = D
  · subst z
    rw [upd_same] at e
    cases e
    exact new
  · rw [upd_ne z] at e
    refine (ok a u e).stay (fun _ _ _ q => q) (fun c q => ?_) (fun c xs q => ?_)
    · have y : c ≠ D := fun y => by
        subst y
        rw [hD] at q
        exact no _ (Option.some.inj q)
      rw [upd_ne y]
      exact q
    · have y : c ≠ D := fun y => by
        subst y
        rw [hD] at q
        exact nt _ (Option.some.inj q)
      rw [upd_ne y]
      exact q
theorem deck_open (ok : HOk P w H h) (hD : H D = some (.ext (DeckPhi D L b))) : ∃ i r n, DkN i r n b ∧ HOk P w (upd H D (.lst (dkv L i r n))) h := by
  obtain ⟨⟨i, r, n, its, c, k, v, e⟩, _, _⟩ := ok D _ hD
  refine ⟨i, r, n, k, review ok hD (fun _ z => nomatch z) (fun _ z => nomatch z) ⟨?_, its, c, v, e⟩⟩
  show 4 ≤ sizeLine
  decide
theorem deck_shut {i r n : Int} (ok : HOk P w H h) (hD : H D = some (.lst (dkv L i r n))) (k : DkN i r n b) : HOk P w (upd H D (.ext (DeckPhi D L b))) h := by
  obtain ⟨_, its, c, v, e⟩ := ok D _ hD
  exact review ok hD (fun _ z => nomatch z) (fun _ z => nomatch z) ⟨⟨i, r, n, its, c, k, v, e⟩, ⟨_, e⟩, phi_stable⟩
theorem un_view {fs ex : List Addr} {H1 H2 : Hp} {h h' : Heap} {o o' v v' : HO} (u : Un fs ex (upd H1 D o') (upd H2 D v) h h') (hD : H1 D = some o)
    (no : ∀ xs, o ≠ .tup xs) (nf : ∀ b q, o ≠ .frz b q) (nb : ∀ ps, o ≠ .tbl ps) : Un fs ex H1 (upd H2 D v') h h' := by
  have un : ∀ a, H1 a = none → upd H1 D o' a = none := fun a q => by
    rw [upd_ne (fun z => by rw [z, hD] at q; cases q)]
    exact q
  have dn : ∀ a, H1 a = none → a ≠ D := fun a q z => by
    rw [z, hD] at q
    cases q
  refine ⟨fun a ob q n => u.keep a ob q (un a n), fun a ob q n => u.slot a ob q (un a n), fun a ob q n x => ?_, u.there, fun a xs q => ?_, fun a ob k q => ?_, fun a ps q => ?_⟩
  · have := u.free a ob q (un a n) x
    rw [upd_ne (dn a n)] at this
    rw [upd_ne (dn a n)]
    exact this
  · have y : a ≠ D := fun y => by
      subst y
      rw [hD] at q
      exact no _ (Option.some.inj q)
    have := u.tups a xs (by rw [upd_ne y]; exact q)
    rw [upd_ne y] at this
    rw [upd_ne y]
    exact this
  · have y : a ≠ D := fun y => by
      subst y
      rw [hD] at q
      exact nf _ _ (Option.some.inj q)
    have := u.frzs a ob k (by rw [upd_ne y]; exact q)
    rw [upd_ne y] at this
    rw [upd_ne y]
    exact this
  · have y : a ≠ D := fun y => by
      subst y
      rw [hD] at q
      exact nb _ (Option.some.inj q)
    obtain ⟨m, this⟩ := u.tbls a ps (by rw [upd_ne y]; exact q)
    rw [upd_ne y] at this
    exact ⟨m, by rw [upd_ne y]; exact this⟩
end

/-! ### drawing -/
/-- at the plain list -/
def spDraw0 : Sp := fun vs H Q _ => ∃ (D L : Addr) (ns : List Int) (b : Nat) (many i r n : Int), vs = [.ref D, .int many] ∧ H D = some (.lst (dkv L i r n)) ∧ H L = some (.lst (ns.map V.int)) ∧ ns.length ≤ 63 ∧
  DkN i r n b ∧ (b : Int) < 1000000000 ∧ 1 ≤ many ∧ many ≤ 1000000000 ∧
  ∀ (v i' r' n' : Int) H', (∀ a o, a ≠ D → H a = some o → H' a = some o) → H' D = some (.lst (dkv L i' r' n')) → DkN i' r' n' (b + 1) → 0 ≤ v → v < many → Q (.int v) H'
def spDraw : Sp := fun vs H Q _ => ∃ (D L : Addr) (ns : List Int) (b : Nat) (many : Int), vs = [.ref D, .int many] ∧ Deck H D L ns b ∧ (b : Int) < 1000000000 ∧ 1 ≤ many ∧ many ≤ 1000000000 ∧
  ∀ (v : Int) H', Ey H H' → Deck H' D L ns (b + 1) → 0 ≤ v → v < many → Q (.int v) H'
theorem draw_up {P : Program} {w : World} {K : PySem.W.Frag} {mg : Str → Option Value} {base : Heap} {k : Nat} {f : Addr} {fd : FuncData} {ps : List Str} (hl : ps.length = 2)
    (F : FnOk P w K mg base CX0 k f fd ps spDraw0) : FnOk P w K mg base CX0 k f fd ps spDraw := by
  refine ⟨fun vs H Q E h => ?_, fun A outer s H args us vs Q E hr e0 bi rv h => ?_⟩
  · obtain ⟨D, L, ns, b, many, rfl, _⟩ := h
    exact hl.symm
  obtain ⟨D, L, ns, b, many, rfl, dk, hb, h1, h2, q⟩ := h
  have neL : L ≠ D := fun z => by
    have := dk.ls
    rw [z, dk.dk] at this
    cases this
  obtain ⟨i, r, n, kn, ok⟩ := deck_open e0.hok dk.dk
  have no : ∀ a, H a = none → a ≠ D := fun a z y => by
    rw [y, dk.dk] at z
    cases z
  have e1 : Env0 P w K mg base A outer s (upd H D (.lst (dkv L i r n))) :=
    ⟨e0.frames, e0.mod, fun a o z => ⟨(e0.bs a o z).1, by rw [upd_ne (no a (e0.bs a o z).2)]; exact (e0.bs a o z).2⟩, e0.bsz, e0.funs, fun a z => by rw [upd_ne (no a (e0.frf a z))]; exact e0.frf a z, ok, e0.bare⟩
  refine codeAny_mono (F.run A outer s _ args us _ (fun v H' => (∃ i' r' n', H' D = some (.lst (dkv L i' r' n')) ∧ DkN i' r' n' (b + 1)) ∧ Q v (upd H' D (.ext (DeckPhi D L (b + 1))))) E hr e1 bi rv
    ⟨D, L, ns, b, many, i, r, n, rfl, upd_same, by rw [upd_ne neL]; exact dk.ls, dk.sm, kn, hb, h1, h2, fun v i' r' n' H' st hD kn' v0 v1 => ⟨⟨i', r', n', hD, kn'⟩, q v _ ?_ ?_ v0 v1⟩⟩) fun rr s' hq => ?_
  · intro a o z y
    have ne : a ≠ D := fun x => by
      rw [x, dk.dk] at z
      cases z
      exact y True.intro
    rw [upd_ne ne]
    exact st a o ne (by rw [upd_ne ne]; exact z)
  · exact ⟨upd_same, by rw [upd_ne neL]; exact st L _ neL (by rw [upd_ne neL]; exact dk.ls), dk.sm⟩
  · cases rr with
    | error e => exact hq
    | ok fl =>
      cases fl with
      | next => exact hq
      | brk => exact hq
      | cont => exact hq
      | ret u =>
        obtain ⟨v, H', os, bare, un, ok', rel, ⟨i', r', n', hD, kn'⟩, q'⟩ := hq
        refine ⟨v, upd H' D (.ext (DeckPhi D L (b + 1))), os, bare, ?_, deck_shut ok' hD kn', rel, q'⟩
        have e : upd H' D (.lst (dkv L i' r' n')) = H' := by
          funext a
          by_cases z : a = D
          · subst z
            rw [upd_same, hD]
          · rw [upd_ne z]
        exact un_view (v := .lst (dkv L i' r' n')) (by rw [e]; exact un) dk.dk (fun _ z => nomatch z) (fun _ _ z => nomatch z) (fun _ z => nomatch z)
/-- the deck made -/
def spDeck0 (K : PySem.W.Frag) : Sp := fun vs H Q _ => ∃ (a : Addr) (ns : List Int), vs = [.ref a] ∧ SqL K H a (ns.map V.int) ∧ ns.length ≤ 63 ∧
  ∀ (D L : Addr) H', Ex H H' → H D = none → H' D = some (.lst (dkv L 0 0 0)) → H' L = some (.lst (ns.map V.int)) → L ≠ D → Q (.ref D) H'
def spDeck (K : PySem.W.Frag) : Sp := fun vs H Q _ => ∃ (a : Addr) (ns : List Int), vs = [.ref a] ∧ SqL K H a (ns.map V.int) ∧ ns.length ≤ 63 ∧
  ∀ (D L : Addr) H', Ex H H' → Deck H' D L ns 0 → Q (.ref D) H'
theorem deck_up {P : Program} {w : World} {K : PySem.W.Frag} {mg : Str → Option Value} {base : Heap} {k : Nat} {f : Addr} {fd : FuncData} {ps : List Str} (hl : ps.length = 1)
    (F : FnOk P w K mg base CX0 k f fd ps (spDeck0 K)) : FnOk P w K mg base CX0 k f fd ps (spDeck K) := by
  refine ⟨fun vs H Q E h => ?_, fun A outer s H args us vs Q E hr e0 bi rv h => ?_⟩
  · obtain ⟨a, ns, rfl, _⟩ := h
    exact hl.symm
  obtain ⟨a, ns, rfl, hs, sm, q⟩ := h
  refine codeAny_mono (F.run A outer s H args us _ (fun v H' => ∃ D L, v = .ref D ∧ H D = none ∧ H' D = some (.lst (dkv L 0 0 0)) ∧ Q v (upd H' D (.ext (DeckPhi D L 0)))) E hr e0 bi rv
    ⟨a, ns, rfl, hs, sm, fun D L H' e nD hD hL ne => ⟨D, L, rfl, nD, hD, q D L _ (fun b o z => ?_) ⟨upd_same, by rw [upd_ne ne]; exact hL, sm⟩⟩⟩) fun rr s' hq => ?_
  · rw [upd_ne (ne_of_none z nD)]
    exact e b o z
  · cases rr with
    | error e => exact hq
    | ok fl =>
      cases fl with
      | next => exact hq
      | brk => exact hq
      | cont => exact hq
      | ret u =>
        obtain ⟨v, H', os, bare, un, ok', rel, D, L, rfl, nD, hD, q'⟩ := hq
        refine ⟨.ref D, upd H' D (.ext (DeckPhi D L 0)), os, bare, ?_, deck_shut ok' hD ⟨by omega, by omega, by omega, by omega, by omega⟩, rel, q'⟩
        refine ⟨un.keep, un.slot, fun b o z n x => ?_, un.there, fun b xs z => ?_, fun b o k z => ?_, fun b pz z => ?_⟩
        · have y := un.free b o z n x
          have ne : b ≠ D := fun e => by
            rw [e, hD] at y
            cases y
          rw [upd_ne ne]
          exact y
        · rw [upd_ne (ne_of_none z nD)]
          exact un.tups b xs z
        · rw [upd_ne (ne_of_none z nD)]
          exact un.frzs b o k z
        · obtain ⟨m, y⟩ := un.tbls b pz z
          exact ⟨m, by rw [upd_ne (ne_of_none z nD)]; exact y⟩
end Mm

namespace Mm
open PySem PySem.Spec PyProof.Rows L2 Evl
section
variable {K : PySem.W.Frag} {H H' : Hp} {σ : L2.St} {ta tb tc te tl : TE} {tt tu : TT} {tr : TA} {a b c d : PyData} {ds : List PyData} {D : Ends} {u z : TS} {g : TG} {p q : Bool}
theorem qd_setL {l : Addr} {xs : List V} {k j : Nat} (hk : σ[k]? = some (some (.ref l))) (hl : H l = some (.lst xs)) (hj : j < xs.length) (h : EvD K te σ H d)
    (n : ∀ v H1, Ex H H1 → Da K H1 v d → z D σ (upd H1 l (.lst (xs.set j v)))) : tSeq (tAsg te (gSub (tVar k) (tC (.int (j : Int))) rSetL)) z D σ H :=
  h H (Ex.refl H) _ fun v H1 e dv => ⟨.ref l, hk, l, xs, (j : Int), j, rfl, rfl, e _ _ hl, ixN_nat hj, n v H1 e dv⟩
theorem cal_via {P : Program} {w : World} {mg : Str → Option Value} {base : Heap} {k : Nat} {x : Str} {st : Stmt} {N ps : List Str} {sp sp0 : Sp} (D : Def K mg x st) (S : FnScope N ps (defScope st))
    (up : ∀ {f : Addr} {fd : FuncData}, FnOk P w K mg base CX0 (k + 1) f fd ps sp0 → FnOk P w K mg base CX0 (k + 1) f fd ps sp)
    (hb : ∀ (kV doc pm : Value) (an : Option Addr) (cdv ct : Value) (us : List Value), us.length = ps.length → bindArgs (PySem.W.fnOf x x (defArgs st) (defBody st) (defScope st) .none kV doc pm an cdv ct) ⟨us, []⟩ = pure (ps.zip us))
    (len : ∀ vs H Q E, sp0 vs H Q E → vs.length = ps.length)
    (hbody : ∀ (f : Addr) (cdv : Value) (A : Around) (outer : List Env) (s : Shared) (H : Hp) (vs : List V) (Q : VK) (E : XK), Room k (A.deeper (envOfC x (defScope st) s.heap.objs.size f cdv)) → sp0 vs H Q E →
      ∃ t, PSs (cxOf CX0 P w K mg base N x (defScope st) f cdv A outer s H E).nox (defBody st) t ∧ t { nx := fun _ H' => Q .non H', rt := Q } (start N vs) H) : Cal P w K mg base (k + 1) x sp := by
  obtain ⟨f, fd, F, hm⟩ := D.ex
  exact ⟨f, fd, ps, up (F.ok S len (fun cdv A outer s H vs Q E hr h => hbody f cdv A outer s H vs Q E hr h)), hm, F.kp, F.binds hb⟩
/-- the built-ins are what they are -/
structure Bl (mg : Str → Option Value) : Prop where
  b_len : mg "len" = none
  b_abs : mg "abs" = none
  b_min : mg "min" = none
  b_max : mg "max" = none
  b_range : mg "range" = none
  b_list : mg "list" = none
  b_tuple : mg "tuple" = none
  b_int : mg "int" = none
  b_bool : mg "bool" = none
  b_repr : mg "repr" = none
  b_isinstance : mg "isinstance" = none
  b_dict : mg "dict" = none
  b_sorted : mg "sorted" = none
  b_set : mg "set" = none
  b_divmod : mg "divmod" = none
  b_sum : mg "sum" = none
  b_any : mg "any" = none
  b_all : mg "all" = none
  b_str : mg "str" = none
  b_enumerate : mg "enumerate" = none
  b_zip : mg "zip" = none
  b_ValueError : mg "ValueError" = none
  b_Exception : mg "Exception" = none
  b_super : mg "super" = none
  b_issubclass : mg "issubclass" = none
  b_type : mg "type" = none
/-- the deck as data -/
def dkd (ns : List Int) (i r n : Int) : PyData := .list [.list (ns.map .int), .int i, .int r, .int n]
theorem dk_dp {D L : Addr} {ns : List Int} {i r n : Int} (hD : H D = some (.lst (dkv L i r n))) (hL : H L = some (.lst (ns.map V.int))) : Da K H (.ref D) (dkd ns i r n) :=
  .lst (SqL.of hD) (.cons (.lst (SqL.of hL) (dps_ints ns)) (.cons (.int _) (.cons (.int _) (.cons (.int _) .nil))))
theorem dk_self {H : Hp} {D L : Addr} {ns : List Int} {i r n : Int} (e : L = D) (hD : H D = some (.lst (dkv L i r n))) (hL : H L = some (.lst (ns.map V.int))) : False := by
  rw [e, hD] at hL
  have z : dkv L i r n = ns.map V.int := HO.lst.inj (Option.some.inj hL)
  cases ns with
  | nil => cases z
  | cons x xs => cases z
theorem cut63 {xs : List V} (h : xs.length ≤ 63) : cutV xs none (some 63) = xs := by
  unfold cutV
  rw [HT.sIx_none, show HT.sIx xs.length xs.length (some 63) = min 63 xs.length from HT.sIx_nat _ _ 63]
  show (xs.drop 0).take (min 63 xs.length - 0) = xs
  rw [List.drop_zero, List.take_of_length_le]
  omega
/-- a list of ints compared with [] -/
theorem eqv_nil : ∀ (ns : List Int), PyData.eqv (.list (ns.map .int)) (.list []) = ns.isEmpty
  | [] => by simp [PyData.eqv, PyData.eqvAll]
  | n :: ns => by simp [PyData.eqv, PyData.eqvAll]
theorem shaped_ints (ns : List Int) : SeqAt.shaped (.list (ns.map .int)) = true := by
  have h : ∀ ns : List Int, PyData.canLayAll0 (ns.map .int) = true ∧ PyData.depthAll (ns.map .int) = 0 := by
    intro ns
    induction ns with
    | nil => simp [PyData.canLayAll0, PyData.depthAll]
    | cons n ns ih => simp [PyData.canLayAll0, PyData.depthAll, PyData.canLay0, PyData.depth, ih]
  obtain ⟨h1, h2⟩ := h ns
  simp [SeqAt.shaped, PyData.canLay0, PyData.depth, h1, h2]
theorem opD_neInts (ns : List Int) : OpD K (rNeA K) (.list (ns.map .int)) (.list []) (.bool (!ns.isEmpty)) := fun H1 x y hx hy Q q =>
  Or.inr ⟨_, _, da_dp (SeqAt.canLay_of_shaped (shaped_ints ns)) hx, da_dp (SeqAt.canLay_of_shaped (shaped_ints [])) hy, shaped_ints ns, shaped_ints [], by rw [show PyData.list (([] : List Int).map .int) = PyData.list [] from rfl, eqv_nil]; exact q _ H1 (Ex.refl H1) (.bl _)⟩
end
end Mm

namespace Mm
open PySem PySem.Spec PyProof.Rows L2 Evl

/-! ### a deck from which at most B were drawn -/
def Dk (H : Hp) (D L : Addr) (ns : List Int) (B : Nat) : Prop := ∃ b, b ≤ B ∧ Deck H D L ns b
theorem dk_ex {H H' : Hp} {D L : Addr} {ns : List Int} {B : Nat} (e : Ex H H') (h : Dk H D L ns B) : Dk H' D L ns B := by
  obtain ⟨b, hb, h⟩ := h
  exact ⟨b, hb, deck_ex e h⟩
theorem dk_le {H : Hp} {D L : Addr} {ns : List Int} {B C : Nat} (h : Dk H D L ns B) (le : B ≤ C) : Dk H D L ns C := by
  obtain ⟨b, hb, h⟩ := h
  exact ⟨b, Nat.le_trans hb le, h⟩
theorem dk_upd {H : Hp} {D L l : Addr} {ns : List Int} {B : Nat} {o : HO} {xs : List V} (h : Dk H D L ns B) (hl : H l = some (.lst xs)) (ne : l ≠ L) : Dk (upd H l o) D L ns B := by
  obtain ⟨b, hb, h⟩ := h
  have nd : D ≠ l := fun z => by
    have := h.dk
    rw [z, hl] at this
    cases this
  exact ⟨b, hb, by rw [upd_ne nd]; exact h.dk, by rw [upd_ne ne.symm]; exact h.ls, h.sm⟩
def spDr : Sp := fun vs H Q _ => ∃ (D L : Addr) (ns : List Int) (B : Nat) (many : Int), vs = [.ref D, .int many] ∧ Dk H D L ns B ∧ B < 1000000000 ∧ 1 ≤ many ∧ many ≤ 1000000000 ∧
  ∀ (v : Int) H', Ey H H' → Dk H' D L ns (B + 1) → 0 ≤ v → v < many → Q (.int v) H'
theorem cal_imp {P : Program} {w : World} {K : PySem.W.Frag} {mg : Str → Option Value} {base : Heap} {k : Nat} {x : Str} {sp sp' : Sp} (c : Cal P w K mg base k x sp) (h : ∀ vs H Q E, sp' vs H Q E → sp vs H Q E) : Cal P w K mg base k x sp' := by
  obtain ⟨f, fd, ps, F, r⟩ := c.ex
  exact ⟨f, fd, ps, F.imp h, r⟩
theorem dr_of {P : Program} {w : World} {K : PySem.W.Frag} {mg : Str → Option Value} {base : Heap} {k : Nat} {x : Str} (c : Cal P w K mg base k x spDraw) : Cal P w K mg base k x spDr := cal_imp c fun vs H Q E h => by
  obtain ⟨D, L, ns, B, many, rfl, ⟨b, hb, dk⟩, h1, h2, h3, q⟩ := h
  exact ⟨D, L, ns, b, many, rfl, dk, by omega, h2, h3, fun v H' e k' v0 v1 => q v H' e ⟨b + 1, by omega, k'⟩ v0 v1⟩
def spOne (K : PySem.W.Frag) : Sp := fun vs H Q _ => ∃ (D L : Addr) (ns : List Int) (B : Nat) (v : V) (d : PyData) (ds : List PyData), vs = [.ref D, v] ∧ Dk H D L ns B ∧ B < 1000000000 ∧ Da K H v d ∧ Items d ds ∧ 1 ≤ ds.length ∧ ds.length ≤ 100000 ∧
  ∀ x d H', Ey H H' → Dk H' D L ns (B + 1) → d ∈ ds → Da K H' x d → Q x H'
/-- a sheet -/
structure Sheet (a b : Int) : Prop where
  d1 : 1 ≤ a
  d8 : a ≤ 8
  w1 : 1 ≤ b
  w8 : b ≤ 8
def shd (a b : Int) : PyData := .tuple [.int a, .int b]
def spSheet (K : PySem.W.Frag) : Sp := fun vs H Q _ => ∃ (D L : Addr) (ns : List Int) (B : Nat) (m : Int), vs = [.ref D, .int m] ∧ Dk H D L ns B ∧ B < 900000000 ∧ 1 ≤ m ∧ m ≤ 8 ∧
  ∀ x a b H', Ey H H' → Dk H' D L ns (B + 3) → Sheet a b → a ≤ m → b ≤ m → Da K H' x (shd a b) → Q x H'

/-! ### what an expression tells, drawing -/
def EvY (te : TE) (σ : L2.St) (H : Hp) (P : V → Hp → Prop) : Prop := ∀ Q : VK, (∀ v H1, P v H1 → Q v H1) → te σ H Q
section
variable {K : PySem.W.Frag} {H H' : Hp} {σ : L2.St} {ta tb tc te tl : TE} {tt tu : TT} {tr : TA} {a b c d : PyData} {ds : List PyData} {D : Ends} {u z : TS} {g : TG} {p q : Bool}
theorem evy_of (h : EvD K te σ H d) : EvY te σ H (fun v H1 => Ex H H1 ∧ Da K H1 v d) := fun Q q => h H (Ex.refl H) Q fun v H1 e dv => q v H1 ⟨e, dv⟩
/-- a loop over the list at v from the heap H1 on -/
def LstLoop (K : PySem.W.Frag) (v : V) (H1 : Hp) (g : TG) (u : TS) (D : Ends) (σ : L2.St) : Prop :=
  ∃ a, v = .ref a ∧ (∃ xs, SqL K H1 a xs) ∧ ∃ W : Nat → Nat → L2.St → Hp → Prop, (∃ m, W 0 m σ H1) ∧ ∀ i m σ H, W i m σ H →
    ((Itl K a).stop i H ∧ D.nx σ H) ∨ ((Itl K a).go i H ∧ ∃ N : L2.St → Hp → Prop, (∀ σ' H', N σ' H' → ∃ m', m' < m ∧ W (i + 1) m' σ' H') ∧ ∀ x H', (Itl K a).yld i H x H' → g x σ H' fun σ2 H2 => u { D with nx := N, ct := N, bk := D.nx } σ2 H2)
theorem lst_loop {v : V} {H1 : Hp} (dv : Da K H1 v (.list ds)) (W : Nat → L2.St → Hp → Prop) (h0 : W 0 σ H1) (hl : ∀ i σ' H', W i σ' H' → Da K H' v (.list ds))
    (hs : ∀ i e x σ' H', ds[i]? = some e → W i σ' H' → Da K H' x e → g x σ' H' fun σ2 H2 => u { D with nx := W (i + 1), ct := W (i + 1), bk := D.nx } σ2 H2)
    (hd : ∀ σ' H', W ds.length σ' H' → D.nx σ' H') : LstLoop K v H1 g u D σ := by
  obtain ⟨a, xs, rfl, hx, hA⟩ := dp_lstI dv
  refine ⟨a, rfl, ⟨xs, hx⟩, fun i m σ' H' => m = ds.length - i ∧ i ≤ ds.length ∧ W i σ' H', ⟨ds.length, rfl, Nat.zero_le _, h0⟩, fun i m σ' H' hw => ?_⟩
  obtain ⟨rfl, le, w⟩ := hw
  obtain ⟨a', xs', e1, hx', hA'⟩ := dp_lstI (hl i σ' H' w)
  cases e1
  have len := dps_len hA'
  by_cases lt : i < ds.length
  · have lt' : i < xs'.length := by omega
    refine Or.inr ⟨⟨xs', xs'[i], hx', List.getElem?_eq_getElem lt'⟩, fun σ2 H2 => W (i + 1) σ2 H2, fun σ2 H2 w2 => ⟨ds.length - (i + 1), by omega, rfl, lt, w2⟩, fun x H2 y => ?_⟩
    obtain ⟨rfl, y⟩ := y
    obtain ⟨dd, e2, dx⟩ := dps_got hA' (y xs' hx')
    exact hs i dd x σ' _ e2 w dx
  · have : i = ds.length := by omega
    subst this
    exact Or.inl ⟨⟨xs', hx', by omega⟩, hd σ' H' w⟩
theorem sd_seqY {Pv : V → Hp → Prop} (h : EvY tl σ H Pv) (hp : ∀ v H1, Pv v H1 → LstLoop K v H1 g u D σ) : tFor (iSeq K tl) g u D σ H :=
  Or.inl (h _ fun v H1 pv => hp v H1 pv)
theorem qd_seqY {Pv : V → Hp → Prop} (h : EvY tl σ H Pv) (hp : ∀ v H1, Pv v H1 → LstLoop K v H1 g u { D with nx := z D } σ) : tSeq (tFor (iSeq K tl) g u) z D σ H :=
  sd_seqY (D := { D with nx := z D }) h hp
theorem sy_asg {k : Nat} {Pv : V → Hp → Prop} (h : EvY te σ H Pv) (n : ∀ v H1, Pv v H1 → D.nx (σ.set k (some v)) H1) : tAsg te (gName k) D σ H := h _ fun v H1 p => n v H1 p
theorem qy_asg {k : Nat} {Pv : V → Hp → Prop} (h : EvY te σ H Pv) (n : ∀ v H1, Pv v H1 → z D (σ.set k (some v)) H1) : tSeq (tAsg te (gName k)) z D σ H := sy_asg (D := { D with nx := z D }) h n
theorem ey_if {Pv : V → Hp → Prop} (h : EvT tt σ H p) (h1 : p = true → ∀ H1, Ex H H1 → EvY ta σ H1 Pv) (h2 : p = false → ∀ H1, Ex H H1 → EvY tb σ H1 Pv) : EvY (tIf tt ta tb) σ H Pv := fun Q q => h H (Ex.refl H) _ fun H1 e => by
  cases p with
  | true =>
    show ta σ H1 Q
    exact h1 rfl H1 e Q q
  | false =>
    show tb σ H1 Q
    exact h2 rfl H1 e Q q
/-- a call of a def that draws -/
theorem evy_call {sp : Sp} {E : XK} {Pv : V → Hp → Prop} (h : EvDs K tr σ H ds) (hs : ∀ vs H1, Ex H H1 → DaAll K H1 vs ds → ∀ Q : VK, (∀ v H2, Pv v H2 → Q v H2) → sp vs H1 Q E) : EvY (tCall sp [] E tr) σ H Pv := fun Q q =>
  h H (Ex.refl H) _ fun vs H1 e dv => by
    rw [List.append_nil]
    exact hs vs H1 e dv Q q
theorem ey_upd {H H2 : Hp} {l : Addr} {o : HO} (e : Ey H H2) (h : H l = none) : Ey H (upd H2 l o) := fun a u z n => by
  rw [upd_ne (ne_of_none z h)]
  exact e a u z n
/-- [te for _ in range(n)], each te drawing at most c times -/
theorem ey_lcN {vs : List Nat} {j : Nat} {n : Int} {ta : TA} {Dd L : Addr} {ns : List Int} {B c : Nat} (Pd : PyData → Prop) (h : EvDs K ta σ H [.int n]) (hn : -100000 ≤ n ∧ n ≤ 50000) (dk : Dk H Dd L ns B)
    (hw : ∀ x, wipe ((wipe σ vs).set j (some x)) vs = wipe σ vs)
    (ht : ∀ (i : Nat) H1, (i : Int) < n → Ey H H1 → Dk H1 Dd L ns (B + c * i) → EvY te ((wipe σ vs).set j (some (.int (i : Int)))) H1 (fun v H2 => Ey H1 H2 ∧ Dk H2 Dd L ns (B + c * i + c) ∧ ∃ d, Da K H2 v d ∧ flat d = true ∧ Pd d)) :
    EvY (tLc (iRng1 ta) (gName j) tYes te vs) σ H (fun v H2 => ∃ l xs ds, v = .ref l ∧ H l = none ∧ H2 l = some (.lst xs) ∧ DaAll K H2 xs ds ∧ Ey H H2 ∧ Dk H2 Dd L ns (B + c * n.toNat) ∧ ds.length = n.toNat ∧ ∀ d ∈ ds, flat d = true ∧ Pd d) := fun Q q => h H (Ex.refl H) _ fun ws H1 e1 dv => by
  cases dv with
  | cons h1 hx =>
    cases hx
    cases h1
    refine ⟨n, rfl, by omega, by omega, fun Dl hD => lc_range (lo := 0) (n := n.toNat) (fun i H' => ∃ acc ds, Ey H1 H' ∧ H1 Dl = none ∧ Dk H' Dd L ns (B + c * i) ∧ H' Dl = some (.lst acc) ∧ DaAll K H' acc ds ∧ flats ds = true ∧ ds.length = i ∧ ∀ d ∈ ds, flat d = true ∧ Pd d)
      ⟨[], [], Ey.of (Ex.new hD), hD, dk_ex (e1.trans (Ex.new hD)) (by rw [Nat.mul_zero]; exact dk), upd_same, .nil, by simp [flats], rfl, fun _ z => by cases z⟩ (fun i H' hi k => ?_) (fun H' k => ?_)⟩
    · obtain ⟨acc, ds, ey, nD, dk', hl, ha, fl, len, all⟩ := k
      have e2 : (0 : Int) + (i : Int) = (i : Int) := Int.zero_add _
      show gName j (.int ((0 : Int) + (i : Int))) _ _ _
      rw [e2]
      refine ⟨hw _, ?_⟩
      unfold tYes
      dsimp only
      rw [if_pos rfl]
      refine ht i H' (by omega) ((Ey.of e1).trans ey) dk' _ fun v H2 r => ?_
      obtain ⟨ey2, dk2, d, dd, fd, pd⟩ := r
      have hl2 := ey2 _ _ hl (fun z => z)
      have lenA := dps_len ha
      refine ⟨acc, hl2, sz_lt (by omega), acc ++ [v], ds ++ [d], ey_upd (ey.trans ey2) nD, nD, ?_, upd_same, ?_, ?_, by rw [List.length_append, len]; rfl, fun x hx => ?_⟩
      · have ne : Dl ≠ L := fun z => by
          obtain ⟨b0, _, dk0⟩ := dk_ex e1 dk
          have := dk0.ls
          rw [← z, nD] at this
          cases this
        rw [Nat.mul_succ, ← Nat.add_assoc]
        exact dk_upd dk2 hl2 ne
      · exact dpst (Et.upd hl2) (by rw [flats_app, fl]; simp [flats, fd]) (dps_app (dpsy ey2 ha) (.cons dd .nil))
      · rw [flats_app, fl]
        simp [flats, fd]
      · rcases List.mem_append.mp hx with z | z
        · exact all x z
        · rw [List.mem_singleton.mp z]
          exact ⟨fd, pd⟩
    · obtain ⟨acc, ds, ey, nD, dk', hl, ha, fl, len, all⟩ := k
      exact q _ H' ⟨Dl, acc, ds, rfl, fresh_back e1 nD, hl, ha, (Ey.of e1).trans ey, dk', len, all⟩
theorem ey_lcR {vs : List Nat} {j : Nat} {n : Int} {ta : TA} {Dd L : Addr} {ns : List Int} {B c : Nat} (Pd : PyData → Prop) (h : EvDs K ta σ H [.int n]) (hn : -100000 ≤ n ∧ n ≤ 50000) (dk : Dk H Dd L ns B)
    (hw : ∀ x, wipe ((wipe σ vs).set j (some x)) vs = wipe σ vs)
    (ht : ∀ (i : Nat) H1, (i : Int) < n → Ey H H1 → Dk H1 Dd L ns (B + c * i) → EvY te ((wipe σ vs).set j (some (.int (i : Int)))) H1 (fun v H2 => Ey H1 H2 ∧ Dk H2 Dd L ns (B + c * i + c) ∧ ∃ d, Da K H2 v d ∧ flat d = true ∧ Pd d)) :
    EvY (tLc (iRng1 ta) (gName j) tYes te vs) σ H (fun v H2 => ∃ ds, Ey H H2 ∧ Dk H2 Dd L ns (B + c * n.toNat) ∧ Da K H2 v (.list ds) ∧ ds.length = n.toNat ∧ ∀ d ∈ ds, flat d = true ∧ Pd d) := fun Q q =>
  ey_lcN Pd h hn dk hw ht Q fun v H2 r => by
    obtain ⟨l, xs, ds, rfl, nl, hl, ha, ey, dk', len, all⟩ := r
    exact q _ H2 ⟨ds, ey, dk', .lst (SqL.of hl) ha, len, all⟩
end
end Mm

namespace Mm
open PySem PySem.Spec PyProof.Rows L2 Evl
def intOf : PyData → Int
  | .int i => i
  | _ => 0
/-- the knots of the first n rows -/
def knotsTo (b : Int) : Nat → List PyData
  | 0 => []
  | n + 1 => knotsTo b n ++ ((upto (b + 1).toNat).filter (fun d => decide (((n : Int) + intOf d) % 2 = 0)) |>.map fun d => .tuple [.int (n : Int), d])
def knotsD (a b : Int) : List PyData := knotsTo b (a + 1).toNat
def RKnots : List PyData → PyData → Prop := fun ds d => ∃ a b, Sheet a b ∧ ds = [shd a b] ∧ d = .list (knotsD a b)
theorem knotsTo_len (b : Int) : ∀ i : Nat, i ≤ 100 → (knotsTo b i).length ≤ i * (b + 1).toNat
  | 0, _ => by simp [knotsTo]
  | i + 1, h => by
    have := knotsTo_len b i (by omega)
    have := List.length_filter_le (fun d => decide (((i : Int) + intOf d) % 2 = 0)) (upto (b + 1).toNat)
    rw [upto_len] at this
    rw [knotsTo, List.length_append, List.length_map, Nat.succ_mul]
    omega
theorem knotsTo_flat (b : Int) : ∀ i : Nat, flats (knotsTo b i) = true
  | 0 => by simp [knotsTo, flats]
  | i + 1 => by
    rw [knotsTo, flats_app, knotsTo_flat b i, Bool.true_and]
    refine flats_all fun d hd => ?_
    obtain ⟨e, he, rfl⟩ := List.mem_map.mp hd
    obtain ⟨j, _, rfl⟩ := upto_mem (List.mem_filter.mp he).1
    simp [flat, flats]
/-- a knot's place -/
def knd (r c : Int) : PyData := .tuple [.int r, .int c]
theorem knotsTo_mem {b : Int} : ∀ {i : Nat} {d : PyData}, d ∈ knotsTo b i → ∃ r c : Nat, d = knd r c ∧ r < i ∧ (c : Int) ≤ b ∧ ((r : Int) + c) % 2 = 0
  | 0, d, h => by simp [knotsTo] at h
  | i + 1, d, h => by
    rw [knotsTo] at h
    rcases List.mem_append.mp h with h | h
    · obtain ⟨r, c, e, h1, h2⟩ := knotsTo_mem h
      exact ⟨r, c, e, by omega, h2⟩
    · obtain ⟨e, he, rfl⟩ := List.mem_map.mp h
      obtain ⟨h1, h2⟩ := List.mem_filter.mp he
      obtain ⟨j, hj, rfl⟩ := upto_mem h1
      exact ⟨i, j, rfl, by omega, by omega, of_decide_eq_true h2⟩
theorem knots_mem {a b : Int} (sh : Sheet a b) {d : PyData} (h : d ∈ knotsD a b) : ∃ r c : Nat, d = knd r c ∧ (r : Int) ≤ a ∧ (c : Int) ≤ b ∧ ((r : Int) + c) % 2 = 0 := by
  obtain ⟨r, c, e, h1, h2, h3⟩ := knotsTo_mem h
  have := sh.d1
  exact ⟨r, c, e, by omega, h2, h3⟩
theorem knots_len {a b : Int} (sh : Sheet a b) : (knotsD a b).length ≤ 81 := by
  have s1 := sh.d1
  have s2 := sh.d8
  have s3 := sh.w1
  have s4 := sh.w8
  have h := knotsTo_len b (a + 1).toNat (by omega)
  have : (a + 1).toNat * (b + 1).toNat ≤ 9 * 9 := Nat.mul_le_mul (by omega) (by omega)
  exact Nat.le_trans h this
theorem knots_pos {a b : Int} (sh : Sheet a b) : 1 ≤ (knotsD a b).length := by
  have s1 := sh.d1
  have s3 := sh.w1
  have h : knd 0 0 ∈ knotsD a b := by
    have key : ∀ n : Nat, 1 ≤ n → knd 0 0 ∈ knotsTo b n := by
      intro n hn
      induction n with
      | zero => omega
      | succ n ih =>
        rw [knotsTo]
        by_cases h : n = 0
        · subst h
          refine List.mem_append_right _ (List.mem_map.mpr ⟨.int 0, List.mem_filter.mpr ⟨?_, by simp [intOf]⟩, rfl⟩)
          unfold upto
          exact List.mem_map.mpr ⟨0, List.mem_range.mpr (by omega), rfl⟩
        · exact List.mem_append_left _ (ih (by omega))
    exact key _ (by omega)
  exact List.length_pos_of_mem h
def iabs (x : Int) : Int := if x < 0 then -x else x
def imin (x y : Int) : Int := if y < x then y else x
def imax (x y : Int) : Int := if y > x then y else x
/-- the bar between two knots -/
def betw (b p1 p2 q1 q2 : Int) : PyData :=
  if ((!decide (iabs (p1 - q1) = 1)) || (!decide (iabs (p2 - q2) = 1))) = true then .none else .int (imin p1 q1 * b + imin p2 q2)
def RBetween : List PyData → PyData → Prop := fun ds d => ∃ a b p1 p2 q1 q2, Sheet a b ∧ ds = [shd a b, knd p1 p2, knd q1 q2] ∧ d = betw b p1 p2 q1 q2
theorem iabs_sub (x y : Int) : iabs (x - y) = iabs (y - x) := by
  unfold iabs
  split <;> split <;> omega
theorem imin_comm (x y : Int) : imin x y = imin y x := by
  unfold imin
  split <;> split <;> omega
theorem imax_comm (x y : Int) : imax x y = imax y x := by
  unfold imax
  split <;> split <;> omega
theorem imin_in {x y lo hi : Int} (h1 : lo ≤ x ∧ x ≤ hi) (h2 : lo ≤ y ∧ y ≤ hi) : lo ≤ imin x y ∧ imin x y ≤ hi := by
  unfold imin
  split <;> omega
theorem imax_in {x y lo hi : Int} (h1 : lo ≤ x ∧ x ≤ hi) (h2 : lo ≤ y ∧ y ≤ hi) : lo ≤ imax x y ∧ imax x y ≤ hi := by
  unfold imax
  split <;> omega
theorem betw_swap (b p1 p2 q1 q2 : Int) : betw b q1 q2 p1 p2 = betw b p1 p2 q1 q2 := by
  unfold betw
  rw [iabs_sub q1 p1, iabs_sub q2 p2, imin_comm q1 p1, imin_comm q2 p2]
theorem betw_tame {b p1 p2 q1 q2 : Int} (hb : 1 ≤ b ∧ b ≤ 8) (h1 : 0 ≤ p1 ∧ p1 ≤ 8) (h2 : 0 ≤ p2 ∧ p2 ≤ 8) (h3 : 0 ≤ q1 ∧ q1 ≤ 8) (h4 : 0 ≤ q2 ∧ q2 ≤ 8) : Tame 40 200000 (betw b p1 p2 q1 q2) := by
  unfold betw
  split
  · exact tame_none
  · refine tame_int ?_ (by decide)
    have a1 := imin_in h1 h3
    have a2 := imin_in h2 h4
    generalize imin p1 q1 = x at a1 ⊢
    generalize imin p2 q2 = y at a2 ⊢
    have m1 : 0 ≤ x * b := Int.mul_nonneg a1.1 (by omega)
    have m2 : x * b ≤ 8 * 8 := Int.mul_le_mul a1.2 hb.2 (by omega) (by decide)
    omega
end Mm

namespace Mm
open PySem PySem.Spec PyProof.Rows L2 Evl
/-! ### the rules with the written part by its name (a comprehension's block has its own context) -/
section
variable {X : Cx} {K : PySem.W.Frag}
theorem ixK (h : X.K = K) : IxR X (rIxA K) := h ▸ ixA
theorem op_eqK (h : X.K = K) (hu : X.A.units + 64 < cLine) : OpR X (compareOp .Eq) (rEqA K) := h ▸ op_eqA hu
theorem op_neK (h : X.K = K) (hu : X.A.units + 64 < cLine) : OpR X (compareOp .NotEq) (rNeA K) := h ▸ op_neA hu
theorem op_inK (h : X.K = K) : OpR X (compareOp .In) (rIn K false) := h ▸ op_in_seq
theorem op_niK (h : X.K = K) : OpR X (compareOp .NotIn) (rIn K true) := h ▸ op_notIn_seq
theorem fr_lenK (h : X.K = K) : CallR X (.builtin "len") (fLen K) := h ▸ fr_len
theorem fr_tupK (h : X.K = K) : CallR X (.type "tuple") (fTup K) := h ▸ fr_tup
theorem fr_lstK (h : X.K = K) : CallR X (.type "list") (fLst K) := h ▸ fr_lst
theorem fr_reprK {k : Nat} (h : X.K = K) (gu : X.A.guards = some []) (sm : ∃ mm, X.base.Ns sysModules mm) (hr : Room k X.A) : CallR X (.builtin "repr") (rRepr K) := h ▸ call_repr gu sm hr
theorem sl_listK (h : X.K = K) : SlR X (rSlL K) := h ▸ sl_list
theorem pi_seqK {tg l : Expr} {t : TE} (h : X.K = K) (p : PE X l t) : PI X tg l (iSeq K t) := h ▸ pi_seq p
theorem pg_tupK {es : List Expr} {k : Nat} {t : TGs} {n : Nat} {pos : Pos} (h : X.K = K) (hc : X.calm = true) (p : PGs X es t)
    (hn : (assignEach es X.env).length = n := by rfl) (hst : (assignEach es X.env).findIdx? (·.1) = none := by rfl) : PG X (.Tuple es k pos) (gTup K n t) := h ▸ pg_tup hc p hn hst
def tTrK (K : PySem.W.Frag) (ta : TE) : TT := fun σ H Q => ta σ H fun x H' => ∃ k, TruV K x H' k ∧ Q k H'
theorem pt_truthK {a : Expr} {ta : TE} (h : X.K = K) (ha : PE X a ta) (he : ∀ whole, isTrue a X.env whole = (do let v ← whole; standAt a.pos; holding [v] (truthy v))) : PT X a (tTrK K ta) := h ▸ pt_truth ha he
end
end Mm

namespace Mm
open PySem PySem.Spec PyProof.Rows L2 Evl

/-! ### what goes over data, item by item -/
def Walks (K : PySem.W.Frag) (J : It) (H : Hp) (ds : List PyData) : Prop := ∀ H1, Ex H H1 → ∀ i,
  (i < ds.length → J.go i H1 ∧ ∀ x H2, J.yld i H1 x H2 → H2 = H1 ∧ ∃ d, ds[i]? = some d ∧ Da K H1 x d) ∧ (i = ds.length → J.stop i H1)
def ItD (K : PySem.W.Frag) (wi : TI) (σ : L2.St) (H : Hp) (ds : List PyData) : Prop := ∀ H1, Ex H H1 → ∀ R : It → Hp → Prop, (∀ J H2, Ex H1 H2 → Walks K J H2 ds → R J H2) → wi σ H1 R
section
variable {K : PySem.W.Frag} {H H' : Hp} {σ : L2.St} {ta tb tc te tl : TE} {tt tu : TT} {tr : TA} {a b c d : PyData} {ds : List PyData} {D : Ends} {u z : TS} {g g1 : TG} {p q : Bool} {wi wi1 : TI} {tt1 : TT}
/-- the ints lo .. hi - 1 as data -/
def ups (lo : Int) (n : Nat) : List PyData := (List.range n).map fun i : Nat => .int (lo + (i : Int))
theorem ups_len (lo : Int) (n : Nat) : (ups lo n).length = n := by
  unfold ups
  rw [List.length_map, List.length_range]
theorem ups_get {lo : Int} {n i : Nat} (h : i < n) : (ups lo n)[i]? = some (.int (lo + (i : Int))) := by
  unfold ups
  rw [List.getElem?_map, List.getElem?_range h]
  rfl
theorem ups_zero (n : Nat) : ups 0 n = upto n := by
  unfold ups upto
  congr 1
  funext i
  rw [Int.zero_add]
theorem walks_rng (lo : Int) (n : Nat) : Walks K (Itr lo n) H (ups lo n) := fun H1 e i => ⟨fun h => ⟨by rw [ups_len] at h; exact h, fun x H2 y => by
    rw [ups_len] at h
    obtain ⟨rfl, rfl⟩ := y
    exact ⟨rfl, _, ups_get h, .int _⟩⟩, fun h => by
    rw [ups_len] at h
    exact (show n ≤ i by omega)⟩
theorem it_rng1 {n : Int} {ta : TA} (h : EvDs K ta σ H [.int n]) (hn : -100000 ≤ n ∧ n ≤ 100000) : ItD K (iRng1 ta) σ H (upto n.toNat) := fun H1 e R r => h H1 e _ fun vs H2 e2 dv => by
  cases dv with
  | cons h1 hx =>
    cases hx
    cases h1
    refine ⟨n, rfl, by omega, by omega, r _ H2 e2 ?_⟩
    rw [← ups_zero]
    exact walks_rng 0 n.toNat
theorem it_rng2 {lo n : Int} {ta : TA} (h : EvDs K ta σ H [.int lo, .int n]) (hl : -100000 ≤ lo ∧ lo ≤ 100000) (hn : -100000 ≤ n ∧ n ≤ 100000) : ItD K (iRng2 ta) σ H (ups lo (n - lo).toNat) := fun H1 e R r => h H1 e _ fun vs H2 e2 dv => by
  cases dv with
  | cons h1 hx =>
    cases hx with
    | cons h2 hx =>
      cases hx
      cases h1
      cases h2
      exact ⟨lo, n, rfl, ⟨by omega, by omega, by omega, by omega⟩, r _ H2 e2 (walks_rng lo _)⟩
theorem it_seq (h : EvD K tl σ H d) (hi : Items d ds) : ItD K (iSeq K tl) σ H ds := fun H1 e R r => by
  cases hi with
  | lst =>
    refine Or.inl (h H1 e _ fun v H2 e2 dv => ?_)
    obtain ⟨a, xs, rfl, hx, hA⟩ := dp_lstI dv
    refine ⟨a, rfl, ⟨xs, hx⟩, r _ H2 e2 fun H3 e3 i => ⟨fun h => ⟨⟨xs, xs[i]'(by rw [dps_len hA]; exact h), ex_l e3 hx, List.getElem?_eq_getElem _⟩, fun x H4 y => ?_⟩, fun h => ⟨xs, ex_l e3 hx, by rw [dps_len hA]; omega⟩⟩⟩
    obtain ⟨rfl, y⟩ := y
    obtain ⟨d, h1, h2⟩ := dps_got (dpsm e3 hA) (y xs (ex_l e3 hx))
    exact ⟨rfl, d, h1, h2⟩
  | tup =>
    refine Or.inr (h H1 e _ fun v H2 e2 dv => ?_)
    obtain ⟨a, xs, rfl, hx, hA⟩ := dp_tupI dv
    refine ⟨a, rfl, ⟨xs, hx⟩, r _ H2 e2 fun H3 e3 i => ⟨fun h => ⟨⟨xs, xs[i]'(by rw [dps_len hA]; exact h), ex_t e3 hx, List.getElem?_eq_getElem _⟩, fun x H4 y => ?_⟩, fun h => ⟨xs, ex_t e3 hx, by rw [dps_len hA]; omega⟩⟩⟩
    obtain ⟨rfl, y⟩ := y
    obtain ⟨d, h1, h2⟩ := dps_got (dpsm e3 hA) (y xs (ex_t e3 hx))
    exact ⟨rfl, d, h1, h2⟩
/-- [te for g in wi if tt] -/
def picked (f : PyData → Bool) (m : PyData → PyData) (ds : List PyData) : List PyData := (ds.filter f).map m
theorem picked_le (f : PyData → Bool) (m : PyData → PyData) (ds : List PyData) (i : Nat) : (picked f m (ds.take i)).length ≤ ds.length := by
  unfold picked
  rw [List.length_map]
  have h1 := List.length_filter_le f (ds.take i)
  rw [List.length_take] at h1
  omega
theorem en_lcI {vs : List Nat} (f : PyData → Bool) (m : PyData → PyData) (h : ItD K wi σ H ds) (hz : ds.length ≤ 50000)
    (ht : ∀ e ∈ ds, TurnD K g tt te vs σ H e (f e) (m e)) (hf : ∀ e ∈ ds, f e = true → flat (m e) = true) : EvN K (tLc wi g tt te vs) σ H (picked f m ds) := fun H0 e0 Q q =>
  h H0 e0 _ fun J H1 e1 wk Dl hD => by
    refine ⟨fun i k H' => k = ds.length - i ∧ i ≤ ds.length ∧ Got K H1 Dl (picked f m (ds.take i)) H', ⟨ds.length, rfl, Nat.zero_le _, got_new hD⟩, fun i k H' hw => ?_⟩
    obtain ⟨rfl, le, k⟩ := hw
    obtain ⟨w1, w2⟩ := wk H' k.ex i
    by_cases lt : i < ds.length
    · obtain ⟨go, y⟩ := w1 lt
      refine Or.inr ⟨go, fun H2 => Got K H1 Dl (picked f m (ds.take (i + 1))) H2, fun H2 k2 => ⟨ds.length - (i + 1), by omega, rfl, lt, k2⟩, fun x H2 hy => ?_⟩
      obtain ⟨rfl, e, he, dx⟩ := y x H2 hy
      have hm := List.mem_of_getElem? he
      have pl := picked_le f m ds i
      refine lc_turn (ht e hm) (e0.trans e1) dx k (hf e hm) (by omega) fun H3 k3 => ?_
      unfold picked
      rw [picked_take f m he]
      exact k3
    · have e : i = ds.length := by omega
      refine Or.inl ⟨w2 e, ?_⟩
      subst e
      rw [List.take_length] at k
      obtain ⟨b1, b2, ⟨acc, b3, b4⟩, b5⟩ := k
      exact q Dl acc H' (fresh_back e1 b1) (e1.trans b2) b3 b4
/-! ### two walks, one within the other -/
/-- what goes over data, told by a base of the heap and the tuples -/
def WalksE (K : PySem.W.Frag) (J : It) (H H2 : Hp) (ds : List PyData) : Prop := ∀ H3, Ex H H3 → Et H2 H3 → ∀ i,
  (i < ds.length → J.go i H3 ∧ ∀ x H4, J.yld i H3 x H4 → H4 = H3 ∧ ∃ d, ds[i]? = some d ∧ Da K H3 x d) ∧ (i = ds.length → J.stop i H3)
def ItE (K : PySem.W.Frag) (wi : TI) (σ : L2.St) (H : Hp) (ds : List PyData) : Prop := ∀ H1, Ex H H1 → ∀ R : It → Hp → Prop, (∀ J H2, Ex H1 H2 → WalksE K J H H2 ds → R J H2) → wi σ H1 R
theorem ie_rng1 {n : Int} {ta : TA} (h : EvDs K ta σ H [.int n]) (hn : -100000 ≤ n ∧ n ≤ 100000) : ItE K (iRng1 ta) σ H (upto n.toNat) := fun H1 e R r => h H1 e _ fun vs H2 e2 dv => by
  cases dv with
  | cons h1 hx =>
    cases hx
    cases h1
    refine ⟨n, rfl, by omega, by omega, r _ H2 e2 fun H3 _ _ => ?_⟩
    rw [← ups_zero]
    exact walks_rng (K := K) (H := H3) 0 n.toNat H3 (Ex.refl H3)
theorem ie_var {k : Nat} {v : V} (h : σ[k]? = some (some v)) (dv : Da K H v d) (hi : Items d ds) : ItE K (iSeq K (tVar k)) σ H ds := fun H1 e R r => by
  cases hi with
  | lst =>
    obtain ⟨a, xs, rfl, hx, hA⟩ := dp_lstI dv
    refine Or.inl ⟨_, h, a, rfl, ⟨xs, ex_l e hx⟩, r _ H1 (Ex.refl H1) fun H3 e3 _ i => ⟨fun h => ⟨⟨xs, xs[i]'(by rw [dps_len hA]; exact h), ex_l e3 hx, List.getElem?_eq_getElem _⟩, fun x H4 y => ?_⟩, fun h => ⟨xs, ex_l e3 hx, by rw [dps_len hA]; omega⟩⟩⟩
    obtain ⟨rfl, y⟩ := y
    obtain ⟨d, h1, h2⟩ := dps_got (dpsm e3 hA) (y xs (ex_l e3 hx))
    exact ⟨rfl, d, h1, h2⟩
  | tup =>
    obtain ⟨a, xs, rfl, hx, hA⟩ := dp_tupI dv
    refine Or.inr ⟨_, h, a, rfl, ⟨xs, ex_t e hx⟩, r _ H1 (Ex.refl H1) fun H3 e3 _ i => ⟨fun h => ⟨⟨xs, xs[i]'(by rw [dps_len hA]; exact h), ex_t e3 hx, List.getElem?_eq_getElem _⟩, fun x H4 y => ?_⟩, fun h => ⟨xs, ex_t e3 hx, by rw [dps_len hA]; omega⟩⟩⟩
    obtain ⟨rfl, y⟩ := y
    obtain ⟨d, h1, h2⟩ := dps_got (dpsm e3 hA) (y xs (ex_t e3 hx))
    exact ⟨rfl, d, h1, h2⟩
theorem ie_tup (h : EvD K tl σ H (.tuple ds)) (hf : flats ds = true) : ItE K (iSeq K tl) σ H ds := fun H1 e R r =>
  Or.inr (h H1 e _ fun v H2 e2 dv => by
    obtain ⟨a, xs, rfl, hx, hA⟩ := dp_tupI dv
    refine ⟨a, rfl, ⟨xs, hx⟩, r _ H2 e2 fun H3 _ e3 i => ⟨fun h => ⟨⟨xs, xs[i]'(by rw [dps_len hA]; exact h), et_t e3 hx, List.getElem?_eq_getElem _⟩, fun x H4 y => ?_⟩, fun h => ⟨xs, et_t e3 hx, by rw [dps_len hA]; omega⟩⟩⟩
    obtain ⟨rfl, y⟩ := y
    obtain ⟨d, h1, h2⟩ := dps_got (dpst e3 hf hA) (y xs (et_t e3 hx))
    exact ⟨rfl, d, h1, h2⟩)
/-- the heap but one place -/
def less (H : Hp) (l : Addr) : Hp := fun a => if a = l then none else H a
theorem less_ex (H : Hp) (l : Addr) : Ex (less H l) H := fun a o h => by
  unfold less at h
  split at h
  · cases h
  · exact h
theorem ex_less {H0 H : Hp} {l : Addr} (e : Ex H0 H) (n : H0 l = none) : Ex H0 (less H l) := fun a o h => by
  unfold less
  rw [if_neg (ne_of_none h n)]
  exact e a o h
theorem et_less {H : Hp} {l : Addr} {xs : List V} (h : H l = some (.lst xs)) : Et H (less H l) := fun a o e k => by
  have n : a ≠ l := fun z => by
    subst z
    rw [h] at e
    cases e
    rcases k with ⟨_, z | ⟨_, z⟩⟩ <;> cases z
  unfold less
  rw [if_neg n]
  exact e
theorem less_none (H : Hp) (l : Addr) : less H l l = none := by
  unfold less
  rw [if_pos rfl]
/-- [te for g in wi for g1 in wi1 if tt1] -/
def TurnO (K : PySem.W.Frag) (g : TG) (tt : TT) (wi1 : TI) (g1 : TG) (tt1 : TT) (te : TE) (vs vs1 : List Nat) (σ : L2.St) (H : Hp) (e : PyData) (es : List PyData) (f : PyData → Bool) (m : PyData → PyData) : Prop :=
  ∀ x H1, Ex H H1 → Da K H1 x e → ∃ σ2, wipe σ2 vs = wipe σ vs ∧ (∀ H2, Ex H1 H2 → ∀ Q : L2.St → Hp → Prop, Q σ2 H2 → g x (wipe σ vs) H2 Q) ∧ EvT tt σ2 H1 true ∧ ItE K wi1 σ2 H1 es ∧ ∀ e1 ∈ es, TurnD K g1 tt1 te vs1 σ2 H1 e1 (f e1) (m e1)
def all2 (es : PyData → List PyData) (f : PyData → PyData → Bool) (m : PyData → PyData → PyData) (ds : List PyData) : List PyData := ds.flatMap fun e => picked (f e) (m e) (es e)
theorem all2_take {es : PyData → List PyData} {f : PyData → PyData → Bool} {m : PyData → PyData → PyData} {ds : List PyData} {i : Nat} {e : PyData} (h : ds[i]? = some e) :
    all2 es f m (ds.take (i + 1)) = all2 es f m (ds.take i) ++ picked (f e) (m e) (es e) := by
  unfold all2
  rw [List.take_add_one, h]
  show ((ds.take i ++ [e]).flatMap _) = _
  rw [List.flatMap_append]
  simp
theorem en_lc2I {vs vs1 : List Nat} (es : PyData → List PyData) (f : PyData → PyData → Bool) (m : PyData → PyData → PyData) (h : ItD K wi σ H ds) (fd : flats ds = true) (hz : ∀ i, (all2 es f m (ds.take i)).length ≤ 40000) (hz1 : ∀ e ∈ ds, (es e).length ≤ 40000)
    (ht : ∀ e ∈ ds, TurnO K g tt wi1 g1 tt1 te vs vs1 σ H e (es e) (f e) (m e)) (hf : ∀ e ∈ ds, ∀ e1 ∈ es e, f e e1 = true → flat (m e e1) = true) : EvN K (tLc2 wi g tt wi1 g1 tt1 te vs vs1) σ H (all2 es f m ds) := fun H0 e0 Q q =>
  h H0 e0 _ fun J H1 e1 wk Dl hD => by
    refine ⟨fun i k H' => k = ds.length - i ∧ i ≤ ds.length ∧ Got K H1 Dl (all2 es f m (ds.take i)) H', ⟨ds.length, rfl, Nat.zero_le _, got_new hD⟩, fun i k H' hw => ?_⟩
    obtain ⟨rfl, le, k⟩ := hw
    obtain ⟨w1, w2⟩ := wk H' k.ex i
    by_cases lt : i < ds.length
    · obtain ⟨go, y⟩ := w1 lt
      refine Or.inr ⟨go, fun H2 => Got K H1 Dl (all2 es f m (ds.take (i + 1))) H2, fun H2 k2 => ⟨ds.length - (i + 1), by omega, rfl, lt, k2⟩, fun x H2 hy => ?_⟩
      obtain ⟨rfl, e, he, dx⟩ := y x H2 hy
      have hm := List.mem_of_getElem? he
      obtain ⟨acc0, hl0, ha0⟩ := k.so
      have eB : Ex H1 (less H2 Dl) := ex_less k.ex hD
      obtain ⟨σ2, ww, hg, h1, h2, h3⟩ := ht e hm x (less H2 Dl) ((e0.trans e1).trans eB) (dpt (et_less hl0) (flats_mem fd hm) dx)
      refine hg H2 (less_ex H2 Dl) _ ⟨ww, h1 H2 (less_ex H2 Dl) _ fun H3 e3 => ?_⟩
      rw [if_pos rfl]
      refine h2 H3 ((less_ex H2 Dl).trans e3) _ fun J1 H4 e4 wk1 => ?_
      have len0 := hz i
      have len1 := hz1 e hm
      refine ⟨fun j k1 H5 => k1 = (es e).length - j ∧ j ≤ (es e).length ∧ Got K H1 Dl (all2 es f m (ds.take i) ++ picked (f e) (m e) ((es e).take j)) H5 ∧ Ex (less H2 Dl) H5 ∧ Et H4 H5, ⟨(es e).length, rfl, Nat.zero_le _, ?_, ((less_ex H2 Dl).trans e3).trans e4, Et.refl H4⟩, fun j k1 H5 hw => ?_⟩
      · have z : picked (f e) (m e) ((es e).take 0) = [] := rfl
        rw [z, List.append_nil]
        exact ⟨k.nw, (k.ex.trans e3).trans e4, ⟨acc0, e4 _ _ (e3 _ _ hl0), dpsm (e3.trans e4) ha0⟩, k.fl⟩
      · obtain ⟨rfl, le1, k5, x5, t5⟩ := hw
        obtain ⟨u1, u2⟩ := wk1 H5 x5 t5 j
        by_cases lt1 : j < (es e).length
        · obtain ⟨go1, y1⟩ := u1 lt1
          refine Or.inr ⟨go1, fun H6 => Got K H1 Dl (all2 es f m (ds.take i) ++ picked (f e) (m e) ((es e).take (j + 1))) H6 ∧ Ex (less H2 Dl) H6 ∧ Et H4 H6, fun H6 k6 => ⟨(es e).length - (j + 1), by omega, rfl, lt1, k6⟩, fun x1 H6 hy1 => ?_⟩
          obtain ⟨rfl, d1, hd1, dx1⟩ := y1 x1 H6 hy1
          have hm1 := List.mem_of_getElem? hd1
          obtain ⟨σ3, ww3, hg3, v1, v2⟩ := h3 d1 hm1 x1 H6 x5 dx1
          refine hg3 _ ⟨ww3, v1 H6 (Ex.refl H6) _ fun H7 e7 => ?_⟩
          have pl := picked_le (f e) (m e) (es e) j
          have tk : picked (f e) (m e) ((es e).take (j + 1)) = if f e d1 = true then picked (f e) (m e) ((es e).take j) ++ [m e d1] else picked (f e) (m e) ((es e).take j) := picked_take (f e) (m e) hd1
          obtain ⟨acc5, hl5, ha5⟩ := k5.so
          cases hv : f e d1 with
          | true =>
            rw [if_pos rfl]
            refine v2 hv H7 e7 _ fun yv H8 e8 dy => ?_
            obtain ⟨acc, a1, a2, a3⟩ := got_more k5 (e7.trans e8) dy (hf e hm d1 hm1 hv) (by rw [List.length_append]; omega)
            refine ⟨acc, a1, a2, ?_, Ex.mut ((x5.trans e7).trans e8) (less_none H2 Dl), (t5.trans (Et.ex (e7.trans e8))).trans (Et.upd a1)⟩
            rw [tk, if_pos hv, ← List.append_assoc]
            exact a3
          | false =>
            rw [if_neg (by decide)]
            refine ⟨?_, x5.trans e7, t5.trans (Et.ex e7)⟩
            rw [tk, if_neg (by rw [hv]; decide)]
            exact ⟨k5.nw, k5.ex.trans e7, ⟨acc5, e7 _ _ hl5, dpsm e7 ha5⟩, k5.fl⟩
        · have z : j = (es e).length := by omega
          refine Or.inl ⟨u2 z, ?_⟩
          subst z
          rw [List.take_length] at k5
          rw [all2_take he]
          exact k5
    · have e : i = ds.length := by omega
      refine Or.inl ⟨w2 e, ?_⟩
      subst e
      rw [List.take_length] at k
      obtain ⟨b1, b2, ⟨acc, b3, b4⟩, b5⟩ := k
      exact q Dl acc H' (fresh_back e1 b1) (e1.trans b2) b3 b4
theorem turnO_name {vs vs1 : List Nat} {j : Nat} {e : PyData} {es : List PyData} {f : PyData → Bool} {m : PyData → PyData} (hw : ∀ x, wipe ((wipe σ vs).set j (some x)) vs = wipe σ vs)
    (hi : ∀ x H1, Ex H H1 → Da K H1 x e → ItE K wi1 ((wipe σ vs).set j (some x)) H1 es) (ht : ∀ x H1, Ex H H1 → Da K H1 x e → ∀ e1 ∈ es, TurnD K g1 tt1 te vs1 ((wipe σ vs).set j (some x)) H1 e1 (f e1) (m e1)) :
    TurnO K (gName j) tYes wi1 g1 tt1 te vs vs1 σ H e es f m :=
  fun x H1 e1 dx => ⟨(wipe σ vs).set j (some x), hw x, fun H2 _ Q q => q, et_yes, hi x H1 e1 dx, ht x H1 e1 dx⟩
end
end Mm

namespace Mm
open PySem PySem.Spec PyProof.Rows L2 Evl
section
variable {K : PySem.W.Frag} {H H' : Hp} {σ : L2.St} {ta tb tc te tl : TE} {tt tu : TT} {tr : TA} {a b c d : PyData} {ds es : List PyData} {D : Ends} {u z ty : TS} {g g1 : TG} {p q : Bool}
theorem q_skip (h : EvT tt σ H p) (hp : p = false) (k : ∀ H1, Ex H H1 → z D σ H1) : tSeq (tIfS tt ty tNext) z D σ H :=
  q_when h (fun c _ _ => by rw [hp] at c; cases c) (fun _ H1 e1 => k H1 e1)
theorem s_skip (h : EvT tt σ H p) (hp : p = false) (k : ∀ H1, Ex H H1 → D.nx σ H1) : tIfS tt ty tNext D σ H :=
  s_when h (fun c _ _ => by rw [hp] at c; cases c) (fun _ H1 e1 => k H1 e1)
theorem neS_same {x y : Str} (h : x = y) : (!decide (x = y)) = false := by
  rw [decide_eq_true h]
  rfl
theorem en_listRg {n : Int} (h : EvD K ta σ H (.int n)) (hn : 0 ≤ n ∧ n ≤ 100000) : EvN K (tLstRg (tRg1 ta)) σ H (upto n.toNat) := fun H1 e Q q =>
  h H1 e _ fun v H2 e2 dv => ⟨n, dp_intI dv, RgOk.of_le (by decide) (by omega) (by decide) (by omega), fun l nl => by
    have x : DaAll K (upd H2 l (.lst (rgV 0 n))) (rgV 0 n) (upto n.toNat) := by
      have key : ∀ (m : Nat) (f : Nat → Int), DaAll K (upd H2 l (.lst (rgV 0 n))) ((List.range m).map fun i => V.int (f i)) ((List.range m).map fun i => PyData.int (f i)) := by
        intro m f
        have := dps_ints (K := K) (H := upd H2 l (.lst (rgV 0 n))) ((List.range m).map f)
        rw [List.map_map, List.map_map] at this
        exact this
      have := key (n - 0).toNat (fun i => 0 + (i : Int))
      unfold rgV
      unfold rgV at this
      rw [← ups_zero]
      unfold ups
      simp only [Int.sub_zero] at this ⊢
      exact this
    exact q l (rgV 0 n) _ (fresh_back e2 nl) (e2.trans (Ex.new nl)) upd_same x⟩
theorem picked_cons (f : PyData → Bool) (m : PyData → PyData) (e : PyData) (ds : List PyData) : picked f m (e :: ds) = (if f e = true then [m e] else []) ++ picked f m ds := by
  unfold picked
  cases h : f e with
  | true =>
    rw [List.filter_cons, if_pos h, if_pos rfl]
    rfl
  | false =>
    rw [List.filter_cons, if_neg (by rw [h]; decide), if_neg (by decide)]
    rfl
theorem picked_app (f : PyData → Bool) (m : PyData → PyData) (a b : List PyData) : picked f m (a ++ b) = picked f m a ++ picked f m b := by
  unfold picked
  rw [List.filter_append, List.map_append]
theorem fm_take {ds : List PyData} {i : Nat} {e : PyData} (F : PyData → List PyData) (h : ds[i]? = some e) : (ds.take (i + 1)).flatMap F = (ds.take i).flatMap F ++ F e := by
  rw [List.take_add_one, h]
  show ((ds.take i ++ [e]).flatMap _) = _
  rw [List.flatMap_append]
  simp
end

/-! ### sheets -/
theorem tame_knd {r c : Int} (h1 : r.natAbs < 2 ^ 24) (h2 : c.natAbs < 2 ^ 24) : Tame 1 50 (knd r c) :=
  (tame_tuple (tameL_cons (tame_int h1 (Nat.le_refl 24)) (tameL_cons (tame_int h2 (Nat.le_refl 24)) (tameL_nil (n := 0) (w := 0))))).mono (Nat.le_refl _) (by decide)
theorem flat_knd {r c : Int} : flat (knd r c) = true := by simp [knd, flat, flats]
/-- a pair of ints -/
def prI : PyData → Int × Int
  | .tuple [.int r, .int c] => (r, c)
  | _ => (0, 0)
def pairs (n m : Nat) : List PyData := all2 (fun _ => upto m) (fun _ _ => true) (fun r c => .tuple [r, c]) (upto n)
theorem picked_true (m : PyData → PyData) (ds : List PyData) : picked (fun _ => true) m ds = ds.map m := by
  unfold picked
  rw [List.filter_eq_self.mpr (fun _ _ => rfl)]
theorem upto_succ (n : Nat) : upto (n + 1) = upto n ++ [.int (n : Int)] := by
  unfold upto
  rw [List.range_succ, List.map_append]
  rfl
theorem pairs_knots (b : Int) : ∀ n : Nat, picked (fun d => decide (((prI d).1 + (prI d).2) % 2 = 0)) (fun d => knd (prI d).1 (prI d).2) (pairs n (b + 1).toNat) = knotsTo b n
  | 0 => rfl
  | n + 1 => by
    have ih := pairs_knots b n
    unfold pairs all2 at ih ⊢
    rw [upto_succ, List.flatMap_append, picked_app, ih, knotsTo]
    congr 1
    rw [List.flatMap_cons, List.flatMap_nil, List.append_nil, picked_true]
    unfold picked
    rw [List.filter_map, List.map_map]
    have h1 : ∀ e ∈ upto (b + 1).toNat, ((fun d => decide (((prI d).1 + (prI d).2) % 2 = 0)) ∘ fun c => PyData.tuple [.int (n : Int), c]) e = decide (((n : Int) + intOf e) % 2 = 0) := by
      intro e he
      obtain ⟨j, _, rfl⟩ := upto_mem he
      rfl
    rw [List.filter_congr h1]
    refine List.map_congr_left fun e he => ?_
    obtain ⟨j, _, rfl⟩ := upto_mem (List.mem_filter.mp he).1
    rfl
theorem pairs_mem {n m : Nat} {d : PyData} (h : d ∈ pairs n m) : ∃ r c : Nat, d = knd r c ∧ r < n ∧ c < m := by
  unfold pairs all2 at h
  obtain ⟨e, he, h⟩ := List.mem_flatMap.mp h
  rw [picked_true] at h
  obtain ⟨x, hx, rfl⟩ := List.mem_map.mp h
  obtain ⟨r, hr, rfl⟩ := upto_mem he
  obtain ⟨c, hc, rfl⟩ := upto_mem hx
  exact ⟨r, c, rfl, hr, hc⟩
theorem all2_len {es : PyData → List PyData} {f : PyData → PyData → Bool} {m : PyData → PyData → PyData} {ds : List PyData} {k : Nat} (h : ∀ e ∈ ds, (es e).length ≤ k) : (all2 es f m ds).length ≤ ds.length * k := by
  induction ds with
  | nil => simp [all2]
  | cons d ds ih =>
    unfold all2 at ih ⊢
    rw [List.flatMap_cons, List.length_append, List.length_cons, Nat.succ_mul]
    have a := ih fun e he => h e (List.mem_cons_of_mem _ he)
    have b := picked_le (f d) (m d) (es d) (es d).length
    rw [List.take_length] at b
    have c := h d List.mem_cons_self
    omega
theorem all2_lenT {es : PyData → List PyData} {f : PyData → PyData → Bool} {m : PyData → PyData → PyData} {ds : List PyData} {k : Nat} (h : ∀ e ∈ ds, (es e).length ≤ k) (i : Nat) : (all2 es f m (ds.take i)).length ≤ ds.length * k := by
  refine Nat.le_trans (all2_len fun e he => h e (List.mem_of_mem_take he)) (Nat.mul_le_mul_right _ ?_)
  rw [List.length_take]
  omega
theorem flats_upto (n : Nat) : flats (upto n) = true := flats_all fun d hd => by
  obtain ⟨j, _, rfl⟩ := upto_mem hd
  simp [flat]
/-- the ends of a bar -/
def endsD (b bar : Int) : PyData :=
  if decide ((bar / b + bar % b) % 2 = 0) = true then .tuple [knd (bar / b) (bar % b), knd (bar / b + 1) (bar % b + 1)] else .tuple [knd (bar / b) (bar % b + 1), knd (bar / b + 1) (bar % b)]
def REnds : List PyData → PyData → Prop := fun ds d => ∃ a b bar, Sheet a b ∧ ds = [shd a b, .int bar] ∧ d = endsD b bar
def RKnotsP : List PyData → PyData → Prop := fun ds d => ∃ a b, Sheet a b ∧ ds = [shd a b] ∧ d = .tuple (knotsD a b)
theorem flat_ends (b bar : Int) : flat (endsD b bar) = true := by
  unfold endsD
  split <;> simp [knd, flat, flats]
theorem tame_ends {a b bar : Int} (sh : Sheet a b) (h0 : 0 ≤ bar) (h1 : bar ≤ 64) : Tame 2 110 (endsD b bar) := by
  have s3 := sh.w1
  have s4 := sh.w8
  have q0 : 0 ≤ bar / b := Int.ediv_nonneg h0 (by omega)
  have q1 : bar / b ≤ bar := Int.ediv_le_self _ h0
  have r0 := Int.emod_nonneg bar (show b ≠ 0 by omega)
  have r1 := Int.emod_lt_of_pos bar (show 0 < b by omega)
  unfold endsD
  have k : ∀ x y : Int, 0 ≤ x → x ≤ 100 → 0 ≤ y → y ≤ 100 → Tame 1 50 (knd x y) := fun x y h1 h2 h3 h4 => tame_knd (by omega) (by omega)
  split
  · exact (tame_tuple (tameL_cons (k _ _ q0 (by omega) r0 (by omega)) (tameL_cons (k _ _ (by omega) (by omega) (by omega) (by omega)) (tameL_nil (n := 1) (w := 0))))).mono (Nat.le_refl _) (by decide)
  · exact (tame_tuple (tameL_cons (k _ _ q0 (by omega) (by omega) (by omega)) (tameL_cons (k _ _ (by omega) (by omega) (by omega) (by omega)) (tameL_nil (n := 1) (w := 0))))).mono (Nat.le_refl _) (by decide)
/-- the bar in a field, if the field is there -/
def fieldIn (a b y x : Int) : Bool := (decide (0 ≤ y) && decide (y < a)) && (decide (0 ≤ x) && decide (x < b))
def cellD (a b y x : Int) : List PyData := if fieldIn a b y x = true then [.int (y * b + x)] else []
def rowD (a b y c : Int) : List PyData := cellD a b y (c - 1) ++ cellD a b y c
def atD (a b r c : Int) : List PyData := rowD a b (r - 1) c ++ rowD a b r c
def RBars (f : List PyData → PyData) : List PyData → PyData → Prop := fun ds d => ∃ a b r c, Sheet a b ∧ ds = [shd a b, knd r c] ∧ d = f (atD a b r c)
theorem cell_len (a b y x : Int) : (cellD a b y x).length ≤ 1 := by
  unfold cellD
  split <;> simp
theorem at_len (a b r c : Int) : (atD a b r c).length ≤ 4 := by
  unfold atD rowD
  have h1 := cell_len a b (r - 1) (c - 1)
  have h2 := cell_len a b (r - 1) c
  have h3 := cell_len a b r (c - 1)
  have h4 := cell_len a b r c
  simp only [List.length_append]
  omega
theorem cell_mem {a b y x : Int} {d : PyData} (h : d ∈ cellD a b y x) : d = .int (y * b + x) ∧ 0 ≤ y ∧ y < a ∧ 0 ≤ x ∧ x < b := by
  unfold cellD fieldIn at h
  split at h
  · rename_i c
    simp only [Bool.and_eq_true, decide_eq_true_eq] at c
    exact ⟨List.mem_singleton.mp h, c.1.1, c.1.2, c.2.1, c.2.2⟩
  · cases h
theorem at_mem {a b r c : Int} {d : PyData} (h : d ∈ atD a b r c) : ∃ y x, d = .int (y * b + x) ∧ 0 ≤ y ∧ y < a ∧ 0 ≤ x ∧ x < b := by
  unfold atD rowD at h
  rcases List.mem_append.mp h with h | h <;> rcases List.mem_append.mp h with h | h <;> exact ⟨_, _, cell_mem h⟩
theorem bar_in {a b y x : Int} (sh : Sheet a b) (h : 0 ≤ y ∧ y < a ∧ 0 ≤ x ∧ x < b) : 0 ≤ y * b + x ∧ y * b + x < a * b ∧ a * b ≤ 64 := by
  have s1 := sh.d1
  have s2 := sh.d8
  have s3 := sh.w1
  have s4 := sh.w8
  have m0 : 0 ≤ y * b := Int.mul_nonneg h.1 (by omega)
  have m1 : y * b ≤ (a - 1) * b := Int.mul_le_mul_of_nonneg_right (by omega) (by omega)
  have m2 : (a - 1) * b = a * b - b := by rw [Int.sub_mul, Int.one_mul]
  have m3 : a * b ≤ 8 * 8 := Int.mul_le_mul s2 s4 (by omega) (by decide)
  omega
theorem tame_at {a b r c : Int} (sh : Sheet a b) : TameL 0 200 (atD a b r c) := by
  have h : TameL 0 ((24 + 1) * (atD a b r c).length) (atD a b r c) := tameL_all fun d hd => by
    obtain ⟨y, x, rfl, k⟩ := at_mem hd
    obtain ⟨k1, k2, k3⟩ := bar_in sh k
    exact tame_int (by omega) (Nat.le_refl _)
  have := at_len a b r c
  exact h.mono (Nat.le_refl _) (by omega)
theorem flats_at (a b r c : Int) : flats (atD a b r c) = true := flats_all fun d hd => by
  obtain ⟨y, x, rfl, _⟩ := at_mem hd
  simp [flat]
theorem tame_knots {a b : Int} (sh : Sheet a b) : TameL 1 5000 (knotsD a b) := by
  have h : TameL 1 ((50 + 1) * (knotsD a b).length) (knotsD a b) := tameL_all fun d hd => by
    obtain ⟨r, c, rfl, h1, h2, _⟩ := knots_mem sh hd
    have := sh.d8
    have := sh.w8
    exact tame_knd (by omega) (by omega)
  have := knots_len sh
  exact h.mono (Nat.le_refl _) (by omega)
theorem tame_shd {a b : Int} (sh : Sheet a b) : Tame 1 50 (shd a b) := by
  have := sh.d8
  have := sh.w8
  have := sh.d1
  have := sh.w1
  exact tame_knd (r := a) (c := b) (by omega) (by omega)
end Mm

namespace Mm
open PySem PySem.Spec PyProof.Rows L2 Evl

/-! ### in, over data -/
def rInA (K : PySem.W.Frag) (neg : Bool) : R2 := fun x y H Q => ∃ d e ds n w m u, Da K H x d ∧ Da K H y e ∧ Items e ds ∧ Tame n w d ∧ TameL m u ds ∧ n ≤ 64 ∧ Q (.bl (if neg = true then !(ds.any fun z => PyData.eqv z d) else ds.any fun z => PyData.eqv z d)) H
section
variable {X : Cx} {K : PySem.W.Frag}
theorem op_inA {k : Nat} (h : X.K = K) (hr : Room k X.A) : OpR X (compareOp .In) (rInA K false) := by
  subst h
  intro pins s σ H x y v u Q I rx ry ⟨d, e, ds, n, w, m, t, dx, dy, it, hd, hs, hn, q⟩
  have un := hr.un
  have dd := hd.dp
  obtain ⟨as, r1⟩ := L2.Dp.reads I d x v (da_dp hd.ly dx) rx
  have ely : PyData.canLay0 e = true := by
    cases it <;> simp only [PyData.canLay0, hs.ly]
  obtain ⟨bs, r2⟩ := L2.Dp.reads I e y u (da_dp ely dy) ry
  have room : X.A.units + 1 + min (PyData.depthAll ds) d.depth < cLine := by
    have := Nat.min_le_right (PyData.depthAll ds) d.depth
    omega
  cases it with
  | lst => exact SeqAt.in_list_reads r2 r1 hs.ly hd.ly room ⟨.bl _, H, I, rfl, q⟩
  | tup => exact SeqAt.in_tuple_reads r2 r1 hs.ly hd.ly room ⟨.bl _, H, I, rfl, q⟩
theorem op_niA {k : Nat} (h : X.K = K) (hr : Room k X.A) : OpR X (compareOp .NotIn) (rInA K true) := by
  subst h
  intro pins s σ H x y v u Q I rx ry ⟨d, e, ds, n, w, m, t, dx, dy, it, hd, hs, hn, q⟩
  have un := hr.un
  have dd := hd.dp
  obtain ⟨as, r1⟩ := L2.Dp.reads I d x v (da_dp hd.ly dx) rx
  have ely : PyData.canLay0 e = true := by
    cases it <;> simp only [PyData.canLay0, hs.ly]
  obtain ⟨bs, r2⟩ := L2.Dp.reads I e y u (da_dp ely dy) ry
  have room : X.A.units + 1 + min (PyData.depthAll ds) d.depth < cLine := by
    have := Nat.min_le_right (PyData.depthAll ds) d.depth
    omega
  cases it with
  | lst => exact SeqAt.notIn_list_reads r2 r1 hs.ly hd.ly room ⟨.bl _, H, I, rfl, q⟩
  | tup => exact SeqAt.notIn_tuple_reads r2 r1 hs.ly hd.ly room ⟨.bl _, H, I, rfl, q⟩
variable {d e : PyData} {ds : List PyData} {n w m u : Nat}
theorem opD_in (it : Items e ds) (hd : Tame n w d) (hs : TameL m u ds) (hn : n ≤ 64) : OpD K (rInA K false) d e (.bool (ds.any fun z => PyData.eqv z d)) := fun H1 x y hx hy Q q =>
  ⟨d, e, ds, n, w, m, u, hx, hy, it, hd, hs, hn, by rw [if_neg (by decide)]; exact q _ H1 (Ex.refl H1) (.bl _)⟩
theorem opD_ni (it : Items e ds) (hd : Tame n w d) (hs : TameL m u ds) (hn : n ≤ 64) : OpD K (rInA K true) d e (.bool (!(ds.any fun z => PyData.eqv z d))) := fun H1 x y hx hy Q q =>
  ⟨d, e, ds, n, w, m, u, hx, hy, it, hd, hs, hn, by rw [if_pos rfl]; exact q _ H1 (Ex.refl H1) (.bl _)⟩
end
theorem eqv_knd (a b c d : Int) : PyData.eqv (knd a b) (knd c d) = (decide (a = c) && decide (b = d)) := by
  simp only [knd, PyData.eqv, PyData.eqvAll, Bool.and_true]
  rw [show (a == c) = decide (a = c) from rfl, show (b == d) = decide (b = d) from rfl]
theorem eqv_int (a b : Int) : PyData.eqv (.int a) (.int b) = decide (a = b) := by
  simp only [PyData.eqv]
  rfl

/-! ### loops over what a name holds -/
section
variable {K : PySem.W.Frag} {H H' : Hp} {σ : L2.St} {d : PyData} {ds : List PyData} {D : Ends} {u z : TS} {g : TG}
theorem sd_seqV {k : Nat} {v : V} (h : σ[k]? = some (some v)) (dv : Da K H v d) (it : Items d ds) (W : Nat → L2.St → Hp → Prop) (h0 : W 0 σ H) (hl : ∀ i σ' H', W i σ' H' → Da K H' v d)
    (hs : ∀ i e x σ' H', ds[i]? = some e → W i σ' H' → Da K H' x e → g x σ' H' fun σ2 H2 => u { D with nx := W (i + 1), ct := W (i + 1), bk := D.nx } σ2 H2)
    (hd : ∀ σ' H', W ds.length σ' H' → D.nx σ' H') : tFor (iSeq K (tVar k)) g u D σ H := by
  cases it with
  | lst => exact Or.inl ⟨v, h, lst_loop dv W h0 hl hs hd⟩
  | tup =>
    obtain ⟨a, xs, rfl, hx, hA⟩ := dp_tupI dv
    refine Or.inr ⟨_, h, a, rfl, ⟨xs, hx⟩, fun i m σ' H' => m = ds.length - i ∧ i ≤ ds.length ∧ W i σ' H', ⟨ds.length, rfl, Nat.zero_le _, h0⟩, fun i m σ' H' hw => ?_⟩
    obtain ⟨rfl, le, w⟩ := hw
    obtain ⟨a', xs', e1, hx', hA'⟩ := dp_tupI (hl i σ' H' w)
    cases e1
    have len := dps_len hA'
    by_cases lt : i < ds.length
    · have lt' : i < xs'.length := by omega
      refine Or.inr ⟨⟨xs', xs'[i], hx', List.getElem?_eq_getElem lt'⟩, fun σ2 H2 => W (i + 1) σ2 H2, fun σ2 H2 w2 => ⟨ds.length - (i + 1), by omega, rfl, lt, w2⟩, fun x H2 y => ?_⟩
      obtain ⟨rfl, y⟩ := y
      obtain ⟨dd, e2, dx⟩ := dps_got hA' (y xs' hx')
      exact hs i dd x σ' _ e2 w dx
    · have : i = ds.length := by omega
      subst this
      exact Or.inl ⟨⟨xs', hx', by omega⟩, hd σ' H' w⟩
theorem qd_seqV {k : Nat} {v : V} (h : σ[k]? = some (some v)) (dv : Da K H v d) (it : Items d ds) (W : Nat → L2.St → Hp → Prop) (h0 : W 0 σ H) (hl : ∀ i σ' H', W i σ' H' → Da K H' v d)
    (hs : ∀ i e x σ' H', ds[i]? = some e → W i σ' H' → Da K H' x e → g x σ' H' fun σ2 H2 => u { D with nx := W (i + 1), ct := W (i + 1), bk := z D } σ2 H2)
    (hd : ∀ σ' H', W ds.length σ' H' → z D σ' H') : tSeq (tFor (iSeq K (tVar k)) g u) z D σ H :=
  sd_seqV (D := { D with nx := z D }) h dv it W h0 hl hs hd
end
theorem gt_pair {K : PySem.W.Frag} {H : Hp} {σ : L2.St} {a b : PyData} {x : V} {i j N : Nat} {Q : L2.St → Hp → Prop} (hN : N = 2) (h : Da K H x (.tuple [a, b])) (q : ∀ y z, Da K H y a → Da K H z b → Q ((σ.set i (some y)).set j (some z)) H) :
    gTup K N (gCons (gName i) (gCons (gName j) gNil)) x σ H Q := by
  obtain ⟨t, xs, rfl, ht, hx⟩ := dp_tupI h
  cases hx with
  | cons h1 hx =>
    cases hx with
    | cons h2 hx =>
      cases hx
      exact ⟨t, _, rfl, ht, hN.symm, _, _, rfl, _, _, rfl, rfl, q _ _ h1 h2⟩
/-! ### defs that tell a new list -/
def SpN (K : PySem.W.Frag) (R : List PyData → List PyData → Prop) : Sp := fun vs H Q _ => ∃ ds es, DaAll K H vs ds ∧ R ds es ∧ ∀ l xs H2, H l = none → Ex H H2 → H2 l = some (.lst xs) → DaAll K H2 xs es → Q (.ref l) H2
section
variable {K : PySem.W.Frag} {H H' : Hp} {σ : L2.St} {ta tb tc te tl : TE} {tt tu : TT} {tr : TA} {a b c d : PyData} {ds es : List PyData} {D : Ends} {u z ty : TS} {g g1 : TG} {p q : Bool}
theorem en_call {R : List PyData → List PyData → Prop} {E : XK} (h : EvDs K tr σ H ds) (hR : R ds es) : EvN K (tCall (SpN K R) [] E tr) σ H es := fun H1 e Q q =>
  h H1 e _ fun xs H2 e2 dxs => ⟨ds, es, by rw [List.append_nil]; exact dxs, hR, fun l ys H3 nl e3 hl hy => q l ys H3 (fresh_back e2 nl) (e2.trans e3) hl hy⟩
theorem n_to_d {P : Program} {w : World} {mg : Str → Option Value} {base : Heap} {k : Nat} {x : Str} {R : List PyData → List PyData → Prop} {R' : List PyData → PyData → Prop} (c : Cal P w K mg base k x (SpN K R))
    (h : ∀ ds d, R' ds d → ∃ es, d = .list es ∧ R ds es) : Cal P w K mg base k x (SpD K R') := cal_imp c fun vs H Q E r => by
  obtain ⟨ds, d, h1, h2, q⟩ := r
  obtain ⟨es, rfl, hR⟩ := h ds d h2
  exact ⟨ds, es, h1, hR, fun l xs H2 nl e hl hx => q _ H2 e (.lst (SqL.of hl) hx)⟩
theorem evy_n (h : EvN K te σ H ds) : EvY te σ H (fun v H1 => ∃ l xs, v = .ref l ∧ H l = none ∧ Ex H H1 ∧ H1 l = some (.lst xs) ∧ DaAll K H1 xs ds) := fun Q q => h H (Ex.refl H) Q fun l xs H2 nl e hl hx => q _ H2 ⟨l, xs, rfl, nl, e, hl, hx⟩
theorem qd_asgN {k : Nat} (h : EvN K te σ H ds) (n : ∀ l xs H1, H l = none → Ex H H1 → H1 l = some (.lst xs) → DaAll K H1 xs ds → z D (σ.set k (some (.ref l))) H1) : tSeq (tAsg te (gName k)) z D σ H :=
  h H (Ex.refl H) _ fun l xs H1 nl e hl hx => n l xs H1 nl e hl hx
theorem et_lst {H H' : Hp} {l : Addr} {xs : List V} {o : HO} (h : H l = some (.lst xs)) : Et H (upd H l o) := Et.upd h
end
def RKnotsN : List PyData → List PyData → Prop := fun ds es => ∃ a b, Sheet a b ∧ ds = [shd a b] ∧ es = knotsD a b
def RBarsN : List PyData → List PyData → Prop := fun ds es => ∃ a b r c, Sheet a b ∧ ds = [shd a b, knd r c] ∧ es = atD a b r c
theorem knots_d {P : Program} {w : World} {K : PySem.W.Frag} {mg : Str → Option Value} {base : Heap} {k : Nat} {x : Str} (c : Cal P w K mg base k x (SpN K RKnotsN)) : Cal P w K mg base k x (SpD K RKnots) :=
  n_to_d c fun ds d ⟨a, b, sh, e1, e2⟩ => ⟨_, e2, a, b, sh, e1, rfl⟩
theorem bars_d {P : Program} {w : World} {K : PySem.W.Frag} {mg : Str → Option Value} {base : Heap} {k : Nat} {x : Str} (c : Cal P w K mg base k x (SpN K RBarsN)) : Cal P w K mg base k x (SpD K (RBars .list)) :=
  n_to_d c fun ds d ⟨a, b, r, c, sh, e1, e2⟩ => ⟨_, e2, a, b, r, c, sh, e1, rfl⟩
/-- all pairs of some -/
def pairsOf (ds : List PyData) : List PyData := ds.flatMap fun x => ds.map fun y => .tuple [x, y]
def pairsOf' (all ds : List PyData) : List PyData := ds.flatMap fun x => all.map fun y => .tuple [x, y]
theorem pairs_len (all : List PyData) : ∀ ds : List PyData, (pairsOf' all ds).length = ds.length * all.length
  | [] => by simp [pairsOf']
  | d :: ds => by
    have ih := pairs_len all ds
    unfold pairsOf' at ih ⊢
    rw [List.flatMap_cons, List.length_append, ih, List.length_map, List.length_cons, Nat.succ_mul]
    omega
theorem pairs_take (all : List PyData) {ds : List PyData} {i : Nat} {e : PyData} (h : ds[i]? = some e) : pairsOf' all (ds.take (i + 1)) = pairsOf' all (ds.take i) ++ all.map fun y => .tuple [e, y] :=
  fm_take (fun x => all.map fun y => .tuple [x, y]) h
def RPairs : List PyData → List PyData → Prop := fun as es => ∃ d ds, Items d ds ∧ flats ds = true ∧ ds.length ≤ 100 ∧ as = [d] ∧ es = pairsOf ds

/-! ### opposite bars -/
abbrev Pt := Int × Int
def pk (p : Pt) : PyData := knd p.1 p.2
/-- the two ends of the bar in the field at r, c -/
def endsP (r c : Int) : Pt × Pt := if (r + c) % 2 = 0 then ((r, c), (r + 1, c + 1)) else ((r, c + 1), (r + 1, c))
theorem endsD_P (b bar : Int) : endsD b bar = .tuple [pk (endsP (bar / b) (bar % b)).1, pk (endsP (bar / b) (bar % b)).2] := by
  unfold endsD endsP
  by_cases h : (bar / b + bar % b) % 2 = 0
  · rw [if_pos (decide_eq_true h), if_pos h]
    rfl
  · rw [if_neg (by rw [decide_eq_false h]; decide), if_neg h]
    rfl
theorem ends_ne (r c : Int) : (endsP r c).1 ≠ (endsP r c).2 := by
  unfold endsP
  split <;> exact fun h => by
    have := congrArg Prod.fst h
    simp at this
    omega
/-- by the program: of the lesser one and the greater one -/
def oppP (e f : Pt × Pt) : Bool := decide (e.2 = f.1) && decide (e.2.2 - e.1.2 = f.2.2 - f.1.2)
/-- the end that is not k -/
def farP (k : Pt) (e : Pt × Pt) : Pt := if e.1 = k then e.2 else e.1
def hitP (k : Pt) (e f : Pt × Pt) : Bool := decide (f.1 = k ∨ f.2 = k) && (decide ((farP k e).1 + (farP k f).1 = 2 * k.1) && decide ((farP k e).2 + (farP k f).2 = 2 * k.2))
/-- by the law: some end of the one -/
def oppL (e f : Pt × Pt) : Bool := hitP e.1 e f || hitP e.2 e f
theorem opp_small : ((List.range 8).all fun r => (List.range 8).all fun c => (List.range 8).all fun s => (List.range 8).all fun d =>
    !(decide (r < s) || (decide (r = s) && decide (c < d))) || ((oppP (endsP r c) (endsP s d) == oppL (endsP r c) (endsP s d)) && (oppP (endsP r c) (endsP s d) == oppL (endsP s d) (endsP r c)))) = true := by decide +kernel
/-- the ends of a bar by its number -/
def endsB (b bar : Int) : Pt × Pt := endsP (bar / b) (bar % b)
theorem opp_lt {r c s d : Int} (h1 : 0 ≤ r ∧ r < 8) (h2 : 0 ≤ c ∧ c < 8) (h3 : 0 ≤ s ∧ s < 8) (h4 : 0 ≤ d ∧ d < 8) (lt : r < s ∨ (r = s ∧ c < d)) :
    oppP (endsP r c) (endsP s d) = oppL (endsP r c) (endsP s d) ∧ oppP (endsP r c) (endsP s d) = oppL (endsP s d) (endsP r c) := by
  obtain ⟨r, rfl⟩ := Int.eq_ofNat_of_zero_le h1.1
  obtain ⟨c, rfl⟩ := Int.eq_ofNat_of_zero_le h2.1
  obtain ⟨s, rfl⟩ := Int.eq_ofNat_of_zero_le h3.1
  obtain ⟨d, rfl⟩ := Int.eq_ofNat_of_zero_le h4.1
  have k1 := List.all_eq_true.mp opp_small r (List.mem_range.mpr (by omega))
  have k2 := List.all_eq_true.mp k1 c (List.mem_range.mpr (by omega))
  have k3 := List.all_eq_true.mp k2 s (List.mem_range.mpr (by omega))
  have k4 := List.all_eq_true.mp k3 d (List.mem_range.mpr (by omega))
  have y : (decide (r < s) || (decide (r = s) && decide (c < d))) = true := by
    rcases lt with l | ⟨l, l'⟩
    · rw [decide_eq_true (show r < s by omega)]
      rfl
    · rw [decide_eq_true (show r = s by omega), decide_eq_true (show c < d by omega)]
      simp
  rw [y] at k4
  simp only [Bool.not_true, Bool.false_or, Bool.and_eq_true, beq_iff_eq] at k4
  exact k4
theorem bar_place {a b x : Int} (sh : Sheet a b) (h0 : 0 ≤ x) (h1 : x < a * b) : (0 ≤ x / b ∧ x / b < 8) ∧ (0 ≤ x % b ∧ x % b < 8) := by
  have s2 := sh.d8
  have s3 := sh.w1
  have s4 := sh.w8
  have q := Int.ediv_lt_of_lt_mul (show 0 < b by omega) h1
  have r0 := Int.emod_nonneg x (show b ≠ 0 by omega)
  have r1 := Int.emod_lt_of_pos x (show 0 < b by omega)
  exact ⟨⟨Int.ediv_nonneg h0 (by omega), by omega⟩, ⟨r0, by omega⟩⟩
theorem bar_less {b x y : Int} (hb : 0 < b) (h : x < y) : x / b < y / b ∨ (x / b = y / b ∧ x % b < y % b) := by
  have le : x / b ≤ y / b := Int.ediv_le_ediv hb (by omega)
  have e1 := Int.mul_ediv_add_emod x b
  have e2 := Int.mul_ediv_add_emod y b
  by_cases z : x / b = y / b
  · refine Or.inr ⟨z, ?_⟩
    rw [z] at e1
    omega
  · exact Or.inl (by omega)
theorem opp_bars {a b x y : Int} (sh : Sheet a b) (x0 : 0 ≤ x) (x1 : x < a * b) (y0 : 0 ≤ y) (y1 : y < a * b) (ne : x ≠ y) : oppP (endsB b (imin x y)) (endsB b (imax x y)) = oppL (endsB b x) (endsB b y) := by
  have s3 := sh.w1
  obtain ⟨p1, p2⟩ := bar_place sh x0 x1
  obtain ⟨q1, q2⟩ := bar_place sh y0 y1
  unfold imin imax endsB
  by_cases lt : y < x
  · rw [if_pos lt, if_neg (by omega)]
    exact (opp_lt q1 q2 p1 p2 (bar_less (by omega) lt)).2
  · rw [if_neg lt, if_pos (by omega)]
    exact (opp_lt p1 p2 q1 q2 (bar_less (by omega) (by omega))).1
def ROppP : List PyData → PyData → Prop := fun ds d => ∃ a b x y, Sheet a b ∧ 0 ≤ x ∧ x < a * b ∧ 0 ≤ y ∧ y < a * b ∧ ds = [shd a b, .int x, .int y] ∧ d = .bool (oppP (endsB b (imin x y)) (endsB b (imax x y)))
def ROppL : List PyData → PyData → Prop := fun ds d => ∃ a b x y, Sheet a b ∧ 0 ≤ x ∧ x < a * b ∧ 0 ≤ y ∧ y < a * b ∧ ds = [shd a b, .int x, .int y] ∧ d = .bool (oppL (endsB b x) (endsB b y))
theorem eqv_pk (p q : Pt) : PyData.eqv (pk p) (pk q) = decide (p = q) := by
  unfold pk
  rw [eqv_knd]
  by_cases h : p = q
  · subst h
    simp
  · rw [decide_eq_false h]
    by_cases h1 : p.1 = q.1
    · have h2 : ¬ p.2 = q.2 := fun h2 => h (Prod.ext h1 h2)
      rw [decide_eq_false h2, Bool.and_false]
    · rw [decide_eq_false h1, Bool.false_and]
theorem tame_endsB {a b x : Int} (sh : Sheet a b) (h0 : 0 ≤ x) (h1 : x < a * b) : Tame 1 50 (pk (endsB b x).1) ∧ Tame 1 50 (pk (endsB b x).2) := by
  obtain ⟨⟨r0, r8⟩, ⟨c0, c8⟩⟩ := bar_place sh h0 h1
  unfold endsB endsP pk
  split <;> exact ⟨tame_knd (by simp only; omega) (by simp only; omega), tame_knd (by simp only; omega) (by simp only; omega)⟩
end Mm

namespace K04
open PySem PySem.Spec PyProof.Rows L2 Evl Mm
def topS (i : Nat) : Stmt := PySem.Challenge.pw_meshmend_k04_opposite_bars.main.body.getD i (.Pass ⟨0, 0, 0, 0⟩)
abbrev s_p_ends_of : Stmt := topS 1
theorem sc_p_ends_of : FnScope ["sheet", "bar", "row", "col"] ["sheet", "bar"] (defScope s_p_ends_of) := ⟨rfl, rfl, rfl, by decide +kernel, rfl, by decide +kernel, by decide +kernel⟩
abbrev N_p_ends_of : List Str := ["sheet", "bar", "row", "col"]
abbrev s_p_are_opposite : Stmt := topS 2
theorem sc_p_are_opposite : FnScope ["sheet", "one", "other", "top", "middle", "joint", "bottom"] ["sheet", "one", "other"] (defScope s_p_are_opposite) := ⟨rfl, rfl, rfl, by decide +kernel, rfl, by decide +kernel, by decide +kernel⟩
abbrev N_p_are_opposite : List Str := ["sheet", "one", "other", "top", "middle", "joint", "bottom"]
abbrev s_deck : Stmt := topS 4
theorem sc_deck : FnScope ["_law_script"] ["_law_script"] (defScope s_deck) := ⟨rfl, rfl, rfl, by decide +kernel, rfl, by decide +kernel, by decide +kernel⟩
abbrev N_deck : List Str := ["_law_script"]
abbrev s_draw : Stmt := topS 5
theorem sc_draw : FnScope ["_law_deck_here", "_law_many", "_law_found", "_law_cell", "_law_mixed"] ["_law_deck_here", "_law_many"] (defScope s_draw) := ⟨rfl, rfl, rfl, by decide +kernel, rfl, by decide +kernel, by decide +kernel⟩
abbrev N_draw : List Str := ["_law_deck_here", "_law_many", "_law_found", "_law_cell", "_law_mixed"]
abbrev s_one : Stmt := topS 6
theorem sc_one : FnScope ["_law_deck_here", "_law_items"] ["_law_deck_here", "_law_items"] (defScope s_one) := ⟨rfl, rfl, rfl, by decide +kernel, rfl, by decide +kernel, by decide +kernel⟩
abbrev N_one : List Str := ["_law_deck_here", "_law_items"]
abbrev s_sheet : Stmt := topS 7
theorem sc_sheet : FnScope ["_law_deck_here", "_law_most", "_law_top"] ["_law_deck_here", "_law_most"] (defScope s_sheet) := ⟨rfl, rfl, rfl, by decide +kernel, rfl, by decide +kernel, by decide +kernel⟩
abbrev N_sheet : List Str := ["_law_deck_here", "_law_most", "_law_top"]
abbrev s_ends : Stmt := topS 8
theorem sc_ends : FnScope ["_law_sheet_here", "_law_bar", "_law_r", "_law_c"] ["_law_sheet_here", "_law_bar"] (defScope s_ends) := ⟨rfl, rfl, rfl, by decide +kernel, rfl, by decide +kernel, by decide +kernel⟩
abbrev N_ends : List Str := ["_law_sheet_here", "_law_bar", "_law_r", "_law_c"]
abbrev s_knots : Stmt := topS 9
theorem sc_knots : FnScope ["_law_sheet_here", "_law_found", "_law_r", "_law_c"] ["_law_sheet_here"] (defScope s_knots) := ⟨rfl, rfl, rfl, by decide +kernel, rfl, by decide +kernel, by decide +kernel⟩
abbrev N_knots : List Str := ["_law_sheet_here", "_law_found", "_law_r", "_law_c"]
abbrev s_at : Stmt := topS 10
theorem sc_at : FnScope ["_law_sheet_here", "_law_knot", "_law_found", "_law_r", "_law_c"] ["_law_sheet_here", "_law_knot"] (defScope s_at) := ⟨rfl, rfl, rfl, by decide +kernel, rfl, by decide +kernel, by decide +kernel⟩
abbrev N_at : List Str := ["_law_sheet_here", "_law_knot", "_law_found", "_law_r", "_law_c"]
abbrev s_pairs : Stmt := topS 11
theorem sc_pairs : FnScope ["_law_items", "_law_found", "_law_one_here", "_law_other"] ["_law_items"] (defScope s_pairs) := ⟨rfl, rfl, rfl, by decide +kernel, rfl, by decide +kernel, by decide +kernel⟩
abbrev N_pairs : List Str := ["_law_items", "_law_found", "_law_one_here", "_law_other"]
abbrev s_are_opposite : Stmt := topS 12
theorem sc_are_opposite : FnScope ["_law_sheet_here", "_law_one_here", "_law_other", "_law_knot", "_law_far", "_law_end", "_law_bar"] ["_law_sheet_here", "_law_one_here", "_law_other"] (defScope s_are_opposite) := ⟨rfl, rfl, rfl, by decide +kernel, rfl, by decide +kernel, by decide +kernel⟩
abbrev N_are_opposite : List Str := ["_law_sheet_here", "_law_one_here", "_law_other", "_law_knot", "_law_far", "_law_end", "_law_bar"]
abbrev s_law : Stmt := topS 13
theorem sc_law : FnScope ["_law_script", "_law_deck_here", "_law_turn", "_law_sheet_here", "_law_many", "_law_pairs_here", "_law_k", "_law_knot", "_law_one_here", "_law_other", "_law_due"] ["_law_script"] (defScope s_law) := ⟨rfl, rfl, rfl, by decide +kernel, rfl, by decide +kernel, by decide +kernel⟩
abbrev N_law : List Str := ["_law_script", "_law_deck_here", "_law_turn", "_law_sheet_here", "_law_many", "_law_pairs_here", "_law_k", "_law_knot", "_law_one_here", "_law_other", "_law_due"]
section
variable {P : Program} {w : World} {K : PySem.W.Frag} {mg : Str → Option Value} {base : Heap}
theorem c_deck (T : Def K mg "_law_deck" s_deck) (B : Bl mg) : Cal P w K mg base 1 "_law_deck" (spDeck K) := by
  refine cal_via (k := 0) (sp0 := spDeck0 K) T sc_deck (fun F => deck_up rfl F) (fun _ _ _ _ _ _ us hl => match us, hl with | [_], _ => rfl) (fun vs H Q E h => ?_) (fun f cdv A outer s H vs Q E hr h => ?_)
  · obtain ⟨a, ns, rfl, _⟩ := h
    rfl
  obtain ⟨a, ns, rfl, hs, sm, q⟩ := h
  have nd := sc_deck.nd
  refine ⟨_, (pss_one (ps_ret (pe_lst (pa_cons (pe_callTy (fr_lstK (K := K) rfl) (by rfl) B.b_list (by decide +kernel) (pa_cons (pe_slice (sl_listK (K := K) rfl) (pv 0) po_none (po_some pe_int)) pa_nil)) (pa_cons pe_int (pa_cons pe_int (pa_cons pe_int pa_nil))))))), ?_⟩
  refine ⟨.ref a, rfl, 63, rfl, a, _, rfl, hs, fun p np => ?_⟩
  refine ⟨p, _, rfl, Or.inl (SqL.of upd_same), fun l nl => ⟨by show 4 ≤ sizeLine; decide, fun d nd => ?_⟩⟩
  have lp : l ≠ p := fun e => by
    rw [e, upd_same] at nl
    cases nl
  have e1 : Ex H (upd H p (.lst (cutV (ns.map V.int) none (some 63)))) := Ex.new np
  have e2 : Ex (upd H p (.lst (cutV (ns.map V.int) none (some 63)))) (upd (upd H p (.lst (cutV (ns.map V.int) none (some 63)))) l (.lst (cutV (ns.map V.int) none (some 63)))) := Ex.new nl
  have ld : l ≠ d := fun e => by
    rw [← e, upd_same] at nd
    cases nd
  have cut : cutV (ns.map V.int) none (some 63) = ns.map V.int := cut63 (by rw [List.length_map]; exact sm)
  refine q d l _ (e1.trans (e2.trans (Ex.new nd))) (fresh_back (e1.trans e2) nd) upd_same ?_ ld
  rw [upd_ne ld, upd_same, cut]

theorem c_draw (T : Def K mg "_law_draw" s_draw) (B : Bl mg) : Cal P w K mg base 1 "_law_draw" spDraw := by
  refine cal_via (k := 0) (sp0 := spDraw0) T sc_draw (fun F => draw_up rfl F) (fun _ _ _ _ _ _ us hl => match us, hl with | [_, _], _ => rfl) (fun vs H Q E h => ?_) (fun f cdv A outer s H vs Q E hr h => ?_)
  · obtain ⟨D, L, ns, b, many, i, r, n, rfl, _⟩ := h
    rfl
  obtain ⟨D, L, ns, b, many, i, r, n, rfl, hD, hL, sm, kn, hb, h1, h2, q⟩ := h
  obtain ⟨k1, k2, k3, k4, k5⟩ := kn
  have nd := sc_draw.nd
  refine ⟨_, (pss_cons (ps_asg (pe_op op_add (pe_ix (ixK (K := K) rfl) (pv 0) pe_int (fun _ _ => rfl)) pe_int) (pg_sub (pv 0) pe_int set_list))
    (pss_cons (ps_if (pt_cmpR op_gt (pe_ix (ixK (K := K) rfl) (pv 0) pe_int (fun _ _ => rfl)) pe_int (nomark _))
    (pss_cons (ps_set (i := 2) nd rfl (.inl rfl) (pe_op op_mod (pe_callTy fr_int (by rfl) B.b_int (by decide +kernel) (pa_cons (pe_ix (ixK (K := K) rfl) (pv 0) pe_int (fun _ _ => rfl)) pa_nil)) (pv 1)))
    (pss_cons (ps_asg (pe_op op_fdiv (pe_ix (ixK (K := K) rfl) (pv 0) pe_int (fun _ _ => rfl)) (pv 1)) (pg_sub (pv 0) pe_int set_list))
    (pss_one (ps_ret (pv 2)))))
    pss_nil)
    (pss_cons (ps_set (i := 3) nd rfl (.inl rfl) pe_int)
    (Evl.pss_cut (ps_if (pt_cmpR (op_neK (K := K) rfl hr.units) (pe_ix (ixK (K := K) rfl) (pv 0) pe_int (fun _ _ => rfl)) (pe_lst pa_nil) (nomark _))
    (pss_one (ps_set (i := 3) nd rfl (.inl rfl) (pe_ix (ixK (K := K) rfl) (pe_ix (ixK (K := K) rfl) (pv 0) pe_int (fun _ _ => rfl)) (pe_op op_mod (pe_callTy fr_int (by rfl) B.b_int (by decide +kernel) (pa_cons (pe_ix (ixK (K := K) rfl) (pv 0) pe_int (fun _ _ => rfl)) pa_nil)) (pe_callB (fr_lenK (K := K) rfl) (by rfl) B.b_len PySem.boot_len (pa_cons (pe_ix (ixK (K := K) rfl) (pv 0) pe_int (fun _ _ => rfl)) pa_nil))) (fun _ _ => rfl))))
    pss_nil)
    (pss_cons (ps_asg (pe_op op_add (pe_ix (ixK (K := K) rfl) (pv 0) pe_int (fun _ _ => rfl)) pe_int) (pg_sub (pv 0) pe_int set_list))
    (pss_cons (ps_if (PW.pt (pw_and (pt_cmpR op_ge (pe_callB fr_abs (by rfl) B.b_abs (by decide +kernel) (pa_cons (pv 3) pa_nil)) (pe_op op_pow pe_int pe_int) (nomark _)) (pw_and1 (pt_cmpR op_le (pe_ix (ixK (K := K) rfl) (pv 0) pe_int (fun _ _ => rfl)) (pe_callB (fr_lenK (K := K) rfl) (by rfl) B.b_len PySem.boot_len (pa_cons (pe_ix (ixK (K := K) rfl) (pv 0) pe_int (fun _ _ => rfl)) pa_nil)) (nomark _)))))
    (pss_cons (ps_asg (pe_op op_fdiv (pe_callB fr_abs (by rfl) B.b_abs (by decide +kernel) (pa_cons (pv 3) pa_nil)) (pv 1)) (pg_sub (pv 0) pe_int set_list))
    (pss_one (ps_ret (pe_op op_mod (pe_callTy fr_int (by rfl) B.b_int (by decide +kernel) (pa_cons (pe_callB fr_abs (by rfl) B.b_abs (by decide +kernel) (pa_cons (pv 3) pa_nil)) pa_nil)) (pv 1)))))
    pss_nil)
    (pss_cons (ps_set (i := 4) nd rfl (.inl rfl) (pe_op op_mod (pe_op op_pow (pe_callTy fr_int (by rfl) B.b_int (by decide +kernel) (pa_cons (pe_op op_add (pe_op op_mod (pe_callTy fr_int (by rfl) B.b_int (by decide +kernel) (pa_cons (pv 3) pa_nil)) pe_int) (pe_op op_mul pe_int (pe_ix (ixK (K := K) rfl) (pv 0) pe_int (fun _ _ => rfl)))) pa_nil)) pe_int) pe_int))
    (pss_cons (ps_set (i := 4) nd rfl (.inl rfl) (pe_op op_mod (pe_op op_pow (pe_callTy fr_int (by rfl) B.b_int (by decide +kernel) (pa_cons (pe_op op_add (pe_op op_mul (pv 4) (pe_op op_add (pe_op op_mul pe_int (pe_ix (ixK (K := K) rfl) (pv 0) pe_int (fun _ _ => rfl))) pe_int)) pe_int) pa_nil)) pe_int) pe_int))
    (pss_one (ps_ret (pe_op op_mod (pe_op op_fdiv (pv 4) pe_int) (pv 1)))))))))))), ?_⟩
  by_cases LD : L = D
  · exact (dk_self LD hD hL).elim
  -- the count
  refine qd_setL (K := K) (j := 3) rfl hD (by show 3 < 4; decide) (ed_op (ed_op (ed_var rfl (dk_dp hD hL)) ed_int (opD_ixL (d := .int n) rfl)) ed_int opD_I0) fun v H1 e1 dv => ?_
  cases dp_intI dv
  have st1 : ∀ a o, a ≠ D → H a = some o → upd H1 D (.lst ((dkv L i r n).set 3 (.int (n + 1)))) a = some o := fun a o z y => by
    rw [upd_ne z]
    exact e1 a o y
  have hD1 : upd H1 D (.lst ((dkv L i r n).set 3 (.int (n + 1)))) D = some (.lst (dkv L i r (n + 1))) := upd_same
  generalize upd H1 D (.lst ((dkv L i r n).set 3 (.int (n + 1)))) = G at st1 hD1 ⊢
  have hL1 := st1 L _ LD hL
  -- what is left of a great number
  refine q_when (eq_test (K := K) (ed_op (ed_op (ed_var rfl (dk_dp hD1 hL1)) ed_int (opD_ixL (d := .int r) rfl)) ed_int opD_B0)) (fun _ H2 e2 => ?_) (fun _ H2 e2 => ?_)
  · have hD2 := e2 _ _ hD1
    have hL2 := e2 _ _ hL1
    refine qd_asg (K := K) (ed_op (ed_cb (ds_cons (ed_op (ed_var rfl (dk_dp hD2 hL2)) ed_int (opD_ixL (d := .int r) rfl)) ds_nil) cd_int) (ed_var rfl (.int many)) (opD_I (show (0 : Int) < many by omega))) fun v H3 e3 dv => ?_
    cases dp_intI dv
    have hD3 := e3 _ _ hD2
    have hL3 := e3 _ _ hL2
    refine qd_setL (K := K) (j := 2) rfl hD3 (by show 2 < 4; decide) (ed_op (ed_op (ed_var rfl (dk_dp hD3 hL3)) ed_int (opD_ixL (d := .int r) rfl)) (ed_var rfl (.int many)) (opD_I (show CDiv r many from ⟨by omega, by omega⟩))) fun v H4 e4 dv => ?_
    cases dp_intI dv
    refine ⟨.int (r % many), rfl, q _ i (r / many) (n + 1) _ (fun a o z y => ?_) upd_same ⟨k1, by omega, Int.ediv_nonneg k3 (by omega), by omega, by omega⟩ (Int.emod_nonneg _ (by omega)) (Int.emod_lt_of_pos _ (by omega))⟩
    rw [upd_ne z]
    exact e4 _ _ (e3 _ _ (e2 _ _ (st1 a o z y)))
  have st2 : ∀ a o, a ≠ D → H a = some o → H2 a = some o := fun a o z y => e2 _ _ (st1 a o z y)
  have hD2 := e2 _ _ hD1
  have hL2 := e2 _ _ hL1
  refine qd_asg (K := K) ed_int fun v H3 e3 dv => ?_
  cases dp_intI dv
  have st3 : ∀ a o, a ≠ D → H a = some o → H3 a = some o := fun a o z y => e3 _ _ (st2 a o z y)
  have hD3 := e3 _ _ hD2
  have hL3 := e3 _ _ hL2
  refine q_cut (M := fun σ' H' => ∃ c : Int, σ' = [some (.ref D), some (.int many), none, some (.int c), none] ∧ (∀ a o, a ≠ D → H a = some o → H' a = some o) ∧ H' D = some (.lst (dkv L i r (n + 1)))) ?_ ?_
  · refine s_when (eq_test (K := K) (ed_op (ed_op (ed_var rfl (dk_dp hD3 hL3)) ed_int (opD_ixL (d := .list (ns.map .int)) rfl)) (ed_lst ds_nil) (opD_neInts ns))) (fun ne H4 e4 => ?_) (fun _ H4 e4 => ⟨83, rfl, fun a o z y => e4 _ _ (st3 a o z y), e4 _ _ hD3⟩)
    have hD4 := e4 _ _ hD3
    have hL4 := e4 _ _ hL3
    have pos : 0 < ns.length := by
      cases ns with
      | nil => cases ne
      | cons x xs =>
        rw [List.length_cons]
        omega
    obtain ⟨j, hj⟩ : ∃ j : Nat, i % (ns.length : Int) = (j : Int) := ⟨(i % (ns.length : Int)).toNat, (Int.toNat_of_nonneg (Int.emod_nonneg _ (by omega))).symm⟩
    have jl : j < ns.length := by
      have := Int.emod_lt_of_pos i (show (0 : Int) < (ns.length : Int) by omega)
      omega
    have look : atI (ns.map PyData.int) (i % (ns.length : Int)) = some (.int ns[j]) := by
      rw [hj]
      refine atI_nat ?_
      rw [List.getElem?_map, List.getElem?_eq_getElem jl]
      rfl
    refine sd_asg (K := K) (ed_op (ed_op (ed_var rfl (dk_dp hD4 hL4)) ed_int (opD_ixL (d := .list (ns.map .int)) rfl)) (ed_op (ed_cb (ds_cons (ed_op (ed_var rfl (dk_dp hD4 hL4)) ed_int (opD_ixL (d := .int i) rfl)) ds_nil) cd_int)
      (ed_cb (ds_cons (ed_op (ed_var rfl (dk_dp hD4 hL4)) ed_int (opD_ixL (d := .list (ns.map .int)) rfl)) ds_nil) cd_lenL) (opD_I (show (0 : Int) < (((ns.map PyData.int).length : Nat) : Int) by rw [List.length_map]; omega)))
      (opD_ixL (d := .int ns[j]) (by rw [List.length_map]; exact look))) fun v H5 e5 dv => ?_
    cases dp_intI dv
    exact ⟨ns[j], rfl, fun a o z y => e5 _ _ (e4 _ _ (st3 a o z y)), e5 _ _ hD4⟩
  rintro σ' H4 ⟨c, rfl, st4, hD4⟩
  have hL4 := st4 L _ LD hL
  refine qd_setL (K := K) (j := 1) rfl hD4 (by show 1 < 4; decide) (ed_op (ed_op (ed_var rfl (dk_dp hD4 hL4)) ed_int (opD_ixL (d := .int i) rfl)) ed_int opD_I0) fun v H5 e5 dv => ?_
  cases dp_intI dv
  have st5 : ∀ a o, a ≠ D → H a = some o → upd H5 D (.lst ((dkv L i r (n + 1)).set 1 (.int (i + 1)))) a = some o := fun a o z y => by
    rw [upd_ne z]
    exact e5 a o (st4 a o z y)
  have hD5 : upd H5 D (.lst ((dkv L i r (n + 1)).set 1 (.int (i + 1)))) D = some (.lst (dkv L (i + 1) r (n + 1))) := upd_same
  generalize upd H5 D (.lst ((dkv L i r (n + 1)).set 1 (.int (i + 1)))) = G2 at st5 hD5 ⊢
  have hL5 := st5 L _ LD hL
  have ab : (0 : Int) ≤ (if c < 0 then -c else c) := by
    split <;> omega
  refine q_when (et_and (eq_test (K := K) (ed_op (ed_cb (ds_cons (ed_var rfl (.int c)) ds_nil) cd_abs) (ed_op ed_int ed_int (opD_I (show CPow 10 18 from ⟨by decide, by decide, by decide⟩))) opD_B0))
    (fun _ => eq_test (ed_op (ed_op (ed_var rfl (dk_dp hD5 hL5)) ed_int (opD_ixL (d := .int (i + 1)) rfl)) (ed_cb (ds_cons (ed_op (ed_var rfl (dk_dp hD5 hL5)) ed_int (opD_ixL (d := .list (ns.map .int)) rfl)) ds_nil) cd_lenL) opD_B0))) (fun _ H6 e6 => ?_) (fun _ H6 e6 => ?_)
  · have hD6 := e6 _ _ hD5
    refine qd_setL (K := K) (j := 2) rfl hD6 (by show 2 < 4; decide) (ed_op (ed_cb (ds_cons (ed_var rfl (.int c)) ds_nil) cd_abs) (ed_var rfl (.int many)) (opD_I (show CDiv _ many from ⟨by omega, by omega⟩))) fun v H7 e7 dv => ?_
    cases dp_intI dv
    refine sd_ret (K := K) (ed_op (ed_cb (ds_cons (ed_cb (ds_cons (ed_var rfl (.int c)) ds_nil) cd_abs) ds_nil) cd_int) (ed_var rfl (.int many)) (opD_I (show (0 : Int) < many by omega))) fun v H8 e8 dv => ?_
    cases dp_intI dv
    refine q _ (i + 1) _ (n + 1) _ (fun a o z y => e8 _ _ ?_) (e8 _ _ upd_same) ⟨by omega, by omega, Int.ediv_nonneg ab (by omega), by omega, by omega⟩ (Int.emod_nonneg _ (by omega)) (Int.emod_lt_of_pos _ (by omega))
    rw [upd_ne z]
    exact e7 _ _ (e6 _ _ (st5 a o z y))
  have hD6 := e6 _ _ hD5
  have hL6 := e6 _ _ hL5
  have m1 := Int.emod_nonneg c (show (2147483563 : Int) ≠ 0 by decide)
  have m2 := Int.emod_lt_of_pos c (show (0 : Int) < 2147483563 by decide)
  refine qd_asg (K := K) (ed_op (ed_op (ed_cb (ds_cons (ed_op (ed_op (ed_cb (ds_cons (ed_var rfl (.int c)) ds_nil) cd_int) ed_int (opD_I (show (0 : Int) < 2147483563 by decide)))
    (ed_op ed_int (ed_op (ed_var rfl (dk_dp hD6 hL6)) ed_int (opD_ixL (d := .int (n + 1)) rfl)) (opD_I (show CMul 77232917 (n + 1) from Or.inl ⟨by decide, by decide⟩))) opD_I0) ds_nil) cd_int) ed_int
    (opD_I (show CPow (c % 2147483563 + 77232917 * (n + 1)) 5 from ⟨by decide, by decide, by omega⟩))) ed_int (opD_I (show (0 : Int) < 2147483399 by decide))) fun v H7 e7 dv => ?_
  cases dp_intI dv
  have hD7 := e7 _ _ hD6
  have hL7 := e7 _ _ hL6
  generalize (c % 2147483563 + 77232917 * (n + 1)) ^ (5 : Int).toNat = x1
  have p1 := Int.emod_nonneg x1 (show (2147483399 : Int) ≠ 0 by decide)
  have p2 := Int.emod_lt_of_pos x1 (show (0 : Int) < 2147483399 by decide)
  generalize x1 % 2147483399 = y1 at p1 p2 ⊢
  have w2 : (y1 * (2 * (n + 1) + 7) + 6449).natAbs < 2 ^ 64 := by
    have u1 : (0 : Int) ≤ y1 * (2 * (n + 1) + 7) := Int.mul_nonneg p1 (by omega)
    have u2 : y1 * (2 * (n + 1) + 7) ≤ 2147483399 * (2 * 1000000001 + 7) := Int.mul_le_mul (by omega) (by omega) (by omega) (by decide)
    omega
  refine qd_asg (K := K) (ed_op (ed_op (ed_cb (ds_cons (ed_op (ed_op (ed_var rfl (.int y1)) (ed_op (ed_op ed_int (ed_op (ed_var rfl (dk_dp hD7 hL7)) ed_int (opD_ixL (d := .int (n + 1)) rfl)) (opD_I (show CMul 2 (n + 1) from Or.inl ⟨by decide, by decide⟩))) ed_int opD_I0)
    (opD_I (show CMul y1 (2 * (n + 1) + 7) from Or.inl ⟨by omega, by omega⟩))) ed_int opD_I0) ds_nil) cd_int) ed_int (opD_I (show CPow (y1 * (2 * (n + 1) + 7) + 6449) 3 from ⟨by decide, by decide, w2⟩))) ed_int (opD_I (show (0 : Int) < 2147483647 by decide))) fun v H8 e8 dv => ?_
  cases dp_intI dv
  have hD8 := e8 _ _ hD7
  refine sd_ret (K := K) (ed_op (ed_op (ed_var rfl (.int _)) ed_int (opD_I (show CDiv _ 32 from ⟨by decide, by decide⟩))) (ed_var rfl (.int many)) (opD_I (show (0 : Int) < many by omega))) fun v H9 e9 dv => ?_
  cases dp_intI dv
  exact q _ (i + 1) r (n + 1) _ (fun a o z y => e9 _ _ (e8 _ _ (e7 _ _ (e6 _ _ (st5 a o z y))))) (e9 _ _ hD8) ⟨by omega, by omega, k3, by omega, by omega⟩ (Int.emod_nonneg _ (by omega)) (Int.emod_lt_of_pos _ (by omega))

theorem c_one (T : Def K mg "_law_one" s_one) (B : Bl mg) (C_draw : Cal P w K mg base 1 "_law_draw" spDr) : Cal P w K mg base 2 "_law_one" (spOne K) := by
  refine cal_of (k := 1) T sc_one (fun _ _ _ _ _ _ us hl => match us, hl with | [_, _], _ => rfl) (fun vs H Q E h => ?_) (fun f cdv A outer s H vs Q E hr h => ?_)
  · obtain ⟨D, L, ns, b, v, d, ds, rfl, _⟩ := h
    rfl
  obtain ⟨D, L, ns, b, v, d, ds, rfl, dk, hb, dv, it, l1, l2, q⟩ := h
  have nd := sc_one.nd
  refine ⟨_, (pss_one (ps_ret (pe_ix (ixK (K := K) rfl) (pv 1) (pe_c C_draw hr (by decide) (by rfl) (pa_cons (pv 0) (pa_cons (pe_callB (fr_lenK (K := K) rfl) (by rfl) B.b_len PySem.boot_len (pa_cons (pv 1) pa_nil)) pa_nil))) (fun _ _ => rfl)))), ?_⟩
  refine ⟨v, rfl, .ref D, rfl, ?_⟩
  have hlen : EvD K (tCB (fLen K) (tCons (tVar 1) tNil)) [some (.ref D), some v] H (.int ds.length) := by
    cases it with
    | lst => exact ed_cb (ds_cons (ed_var rfl dv) ds_nil) cd_lenL
    | tup => exact ed_cb (ds_cons (ed_var rfl dv) ds_nil) cd_lenT
  refine hlen H (Ex.refl H) _ fun x H1 e1 dx => ?_
  cases dp_intI dx
  refine ⟨D, L, ns, b, ds.length, rfl, dk_ex e1 dk, hb, by omega, by omega, fun n H2 ey dk2 n0 n1 => ?_⟩
  obtain ⟨j, rfl⟩ := Int.eq_ofNat_of_zero_le n0
  have jl : j < ds.length := by omega
  have hd : ds[j]? = some ds[j] := List.getElem?_eq_getElem jl
  have dv2 := dpy ey (dpm e1 dv)
  have mem := List.mem_of_getElem? hd
  cases it with
  | lst =>
    obtain ⟨a, xs, rfl, hx, hA⟩ := dp_lstI dv2
    obtain ⟨y, hy, dy⟩ := atI_dp hA (atI_nat hd)
    exact Or.inl ⟨a, xs, (j : Int), y, rfl, rfl, hx, hy, q y ds[j] H2 ((Ey.of e1).trans ey) dk2 mem dy⟩
  | tup =>
    obtain ⟨a, xs, rfl, hx, hA⟩ := dp_tupI dv2
    obtain ⟨y, hy, dy⟩ := atI_dp hA (atI_nat hd)
    exact Or.inr ⟨a, xs, (j : Int), y, rfl, rfl, hx, hy, q y ds[j] H2 ((Ey.of e1).trans ey) dk2 mem dy⟩

theorem c_sheet (T : Def K mg "_law_sheet" s_sheet) (B : Bl mg) (C_draw : Cal P w K mg base 1 "_law_draw" spDr) (C_one : Cal P w K mg base 2 "_law_one" (spOne K)) : Cal P w K mg base 3 "_law_sheet" (spSheet K) := by
  refine cal_of (k := 2) T sc_sheet (fun _ _ _ _ _ _ us hl => match us, hl with | [_, _], _ => rfl) (fun vs H Q E h => ?_) (fun f cdv A outer s H vs Q E hr h => ?_)
  · obtain ⟨D, L, ns, b, m, rfl, _⟩ := h
    rfl
  obtain ⟨D, L, ns, b, m, rfl, dk, hb, m1, m8, q⟩ := h
  have nd := sc_sheet.nd
  refine ⟨_, (pss_cons (ps_set (i := 2) nd rfl (.inl rfl) (pe_c C_one hr (by decide) (by rfl) (pa_cons (pv 0) (pa_cons (pe_lst (pa_cons (pv 1) (pa_cons (pv 1) (pa_cons (pe_callB (fr_min rfl) (by rfl) B.b_min (by decide +kernel) (pa_cons (pv 1) (pa_cons pe_int pa_nil))) (pa_cons (pe_callB (fr_min rfl) (by rfl) B.b_min (by decide +kernel) (pa_cons (pv 1) (pa_cons pe_int pa_nil))) pa_nil))))) pa_nil))))
    (pss_one (ps_ret (pe_tup (pa_cons (pe_op op_add pe_int (pe_c C_draw hr (by decide) (by rfl) (pa_cons (pv 0) (pa_cons (pv 2) pa_nil)))) (pa_cons (pe_op op_add pe_int (pe_c C_draw hr (by decide) (by rfl) (pa_cons (pv 0) (pa_cons (pv 2) pa_nil)))) pa_nil)))))), ?_⟩
  refine ⟨.ref D, rfl, use_ed (K := K) (d := .list [.int m, .int m, .int (if 4 < m then 4 else m), .int (if 3 < m then 3 else m)])
    (ed_lst (ds_cons (ed_var rfl (.int m)) (ds_cons (ed_var rfl (.int m)) (ds_cons (ed_cb (ds_cons (ed_var rfl (.int m)) (ds_cons ed_int ds_nil)) cd_min) (ds_cons (ed_cb (ds_cons (ed_var rfl (.int m)) (ds_cons ed_int ds_nil)) cd_min) ds_nil))))) fun v H1 e1 dv => ?_⟩
  refine ⟨D, L, ns, b, v, _, _, rfl, dk_ex e1 dk, by omega, dv, .lst _, by show 1 ≤ 4; decide, by show 4 ≤ 100000; decide, fun x d H2 ey dk2 mem dx => ?_⟩
  obtain ⟨t, rfl, t1, t8⟩ : ∃ t, d = .int t ∧ 1 ≤ t ∧ t ≤ m := by
    rcases List.mem_cons.mp mem with e | mem
    · exact ⟨_, e, m1, Int.le_refl _⟩
    rcases List.mem_cons.mp mem with e | mem
    · exact ⟨_, e, m1, Int.le_refl _⟩
    rcases List.mem_cons.mp mem with e | mem
    · refine ⟨_, e, ?_, ?_⟩ <;> split <;> omega
    rcases List.mem_cons.mp mem with e | mem
    · refine ⟨_, e, ?_, ?_⟩ <;> split <;> omega
    cases mem
  cases dp_intI dx
  refine ⟨.ref D, rfl, .int t, rfl, D, L, ns, b + 1, t, rfl, dk2, by omega, t1, by omega, fun u1 H3 ey3 dk3 u10 u11 => ⟨1, u1, rfl, rfl, ?_⟩⟩
  refine ⟨.ref D, rfl, .int t, rfl, D, L, ns, b + 2, t, rfl, dk3, by omega, t1, by omega, fun u2 H4 ey4 dk4 u20 u21 => ⟨1, u2, rfl, rfl, by show 2 ≤ sizeLine; decide, fun p hp => ?_⟩⟩
  refine q _ (1 + u1) (1 + u2) _ ((((Ey.of e1).trans ey).trans (ey3.trans ey4)).trans (Ey.of (Ex.new hp))) (dk_ex (Ex.new hp) dk4) ⟨by omega, by omega, by omega, by omega⟩ (by omega) (by omega) (.tup (SqT.of upd_same) (.cons (.int _) (.cons (.int _) .nil)))

theorem c_knots (T : Def K mg "_law_knots" s_knots) (B : Bl mg) : Cal P w K mg base 1 "_law_knots" (SpN K RKnotsN) := by
  refine cal_of (k := 0) T sc_knots (fun _ _ _ _ _ _ us hl => match us, hl with | [_], _ => rfl) (fun vs H Q E h => ?_) (fun f cdv A outer s H vs Q E hr h => ?_)
  · obtain ⟨ds, d, hd, ⟨a, b, sh, rfl, _⟩, _⟩ := h
    exact dps_len hd
  obtain ⟨ds, d, hd, ⟨a, b, sh, rfl, rfl⟩, q⟩ := h
  have nd := sc_knots.nd
  cases hd with
  | cons h1 t =>
    cases t
    rename_i v
    refine ⟨_, (pss_cons (ps_set (i := 1) nd rfl (.inl rfl) (pe_lst pa_nil))
    (pss_cons (ps_for PassesOwn.never rfl (pi_range1 (by rfl) B.b_range (pa_cons (pe_op op_add (pe_ix (ixK (K := K) rfl) (pv 0) pe_int (fun _ _ => rfl)) pe_int) pa_nil)) (pg_name (i := 2) nd rfl (.inr rfl))
    (pss_one (ps_expr (pe_bm PySem.F.plainAttrs_list PySem.F.slot_list_extend PySem.F.type_list_extend mt_extend (pv 1) (pa_cons (pe_lc (own := [("_law_c", 3)]) rfl nd (pi_range1 (by rfl) B.b_range (pa_cons (pe_op op_add (pe_ix (ixK (K := K) rfl) (pv 0) pe_int (fun _ _ => rfl)) pe_int) pa_nil)) (blkOk_by (N := N_knots) (sc := defScope s_knots) (by decide +kernel)) (fun _ _ _ _ _ => (pg_name (i := 3) nd rfl (Or.inl rfl))) (fun _ _ _ _ _ => (pts_one (pt_cmpR (op_eqK (K := K) rfl hr.units) (pe_op op_mod (pe_callTy fr_int (by rfl) B.b_int (by decide +kernel) (pa_cons (pe_op op_add (pv 2) (pv 3)) pa_nil)) pe_int) pe_int (nomark _)))) (fun _ _ _ _ _ => (pe_tup (pa_cons (pv 2) (pa_cons (pv 3) pa_nil))))) pa_nil)))))
    (pss_one (ps_ret (pv 1))))), ?_⟩
    have s1 := sh.d1
    have s2 := sh.d8
    have s3 := sh.w1
    have s4 := sh.w8
    refine ⟨Nat.zero_le _, fun l nl => ?_⟩
    have h1l : Da K (upd H l (.lst [])) v (shd a b) := dpm (Ex.new nl) h1
    refine qd_rng (K := K) (ds_cons (ed_op (ed_op (ed_var rfl h1l) ed_int (opD_ixT (d := .int a) rfl)) ed_int opD_I0) ds_nil) ⟨by omega, by omega⟩
      (fun i σ' H' => ∃ y2 y3 xs, σ' = [some v, some (.ref l), y2, y3] ∧ Ex H H' ∧ H' l = some (.lst xs) ∧ DaAll K H' xs (knotsTo b i)) (fun H1 e1 => ⟨none, none, [], rfl, (Ex.new nl).trans e1, e1 _ _ upd_same, .nil⟩)
      (fun i σ' H' hi hw => ?_) (fun σ' H' hw => ?_)
    · obtain ⟨y2, y3, xs, rfl, ex, hl, hx⟩ := hw
      have h1' := dpm ex h1
      have len := dps_len hx
      have lk := knotsTo_len b i (by omega)
      refine sd_extV (K := K) (ds := (upto (b + 1).toNat).filter (fun d => decide (((i : Int) + intOf d) % 2 = 0)) |>.map fun d => .tuple [.int (i : Int), d]) rfl hl ?_ ?_ (fun vs H1 e1 dvs => ?_)
      · refine en_lcR (fun d => decide (((i : Int) + intOf d) % 2 = 0)) (fun d => .tuple [.int (i : Int), d]) (ds_cons (ed_op (ed_op (ed_var rfl h1') ed_int (opD_ixT (d := .int b) rfl)) ed_int opD_I0) ds_nil) ⟨by omega, by omega⟩ (fun j hj => ?_) (fun j hj _ => by simp [flat, flats])
        refine turn_name (fun x => rfl) (fun x H1 e1 dx => ?_) (fun x H1 e1 dx _ => ?_)
        · cases dp_intI dx
          exact eq_test (K := K) (ed_op (ed_op (ed_cb (ds_cons (ed_op (ed_var rfl (.int (i : Int))) (ed_var rfl (.int (j : Int))) opD_I0) ds_nil) cd_int) ed_int (opD_I (show (0 : Int) < 2 by decide))) ed_int opD_eqI)
        · cases dp_intI dx
          exact ed_tup (ds_cons (ed_var rfl (.int (i : Int))) (ds_cons (ed_var rfl (.int (j : Int))) ds_nil))
      · rw [len, List.length_map]
        have := List.length_filter_le (fun d => decide (((i : Int) + intOf d) % 2 = 0)) (upto (b + 1).toNat)
        rw [upto_len] at this
        have : i * (b + 1).toNat ≤ 9 * 9 := Nat.mul_le_mul (by omega) (by omega)
        omega
      · have hl1 := e1 _ _ hl
        refine ⟨some (.int (i : Int)), y3, xs ++ vs, rfl, Ex.mut (ex.trans e1) nl, upd_same, ?_⟩
        have fl : flats (knotsTo b (i + 1)) = true := knotsTo_flat b (i + 1)
        refine dpst (Et.upd hl1) fl ?_
        exact dps_app (dpsm e1 hx) dvs
    · obtain ⟨y2, y3, xs, rfl, ex, hl, hx⟩ := hw
      exact ⟨.ref l, rfl, q l _ H' nl ex hl hx⟩

theorem c_ends (T : Def K mg "_law_ends" s_ends) (B : Bl mg) : Cal P w K mg base 1 "_law_ends" (SpD K REnds) := by
  refine cal_of (k := 0) T sc_ends (fun _ _ _ _ _ _ us hl => match us, hl with | [_, _], _ => rfl) (fun vs H Q E h => ?_) (fun f cdv A outer s H vs Q E hr h => ?_)
  · obtain ⟨ds, d, hd, ⟨a, b, bar, sh, rfl, _⟩, _⟩ := h
    exact dps_len hd
  obtain ⟨ds, d, hd, ⟨a, b, bar, sh, rfl, rfl⟩, q⟩ := h
  have nd := sc_ends.nd
  cases hd with
  | cons h1 t =>
    cases t with
    | cons h2 t =>
      cases t
      rename_i v1 v2
      refine ⟨_, (pss_cons (ps_par (i := 2) (j := 3) rfl nd rfl rfl (by decide) rfl rfl (pa_cons (pe_op op_fdiv (pv 1) (pe_ix (ixK (K := K) rfl) (pv 0) pe_int (fun _ _ => rfl))) (pa_cons (pe_op op_mod (pe_callTy fr_int (by rfl) B.b_int (by decide +kernel) (pa_cons (pv 1) pa_nil)) (pe_ix (ixK (K := K) rfl) (pv 0) pe_int (fun _ _ => rfl))) pa_nil)) rfl)
    (pss_cons (ps_if (pt_cmpR (op_eqK (K := K) rfl hr.units) (pe_op op_mod (pe_callTy fr_int (by rfl) B.b_int (by decide +kernel) (pa_cons (pe_op op_add (pv 2) (pv 3)) pa_nil)) pe_int) pe_int (nomark _))
    (pss_one (ps_ret (pe_tup (pa_cons (pe_tup (pa_cons (pv 2) (pa_cons (pv 3) pa_nil))) (pa_cons (pe_tup (pa_cons (pe_op op_add (pv 2) pe_int) (pa_cons (pe_op op_add (pv 3) pe_int) pa_nil))) pa_nil)))))
    pss_nil)
    (pss_one (ps_ret (pe_tup (pa_cons (pe_tup (pa_cons (pv 2) (pa_cons (pe_op op_add (pv 3) pe_int) pa_nil))) (pa_cons (pe_tup (pa_cons (pe_op op_add (pv 2) pe_int) (pa_cons (pv 3) pa_nil))) pa_nil))))))), ?_⟩
      have w1 := sh.w1
      have w8 := sh.w8
      have hb : EvD K _ (start N_ends [v1, v2]) H (.int b) := ed_op (ed_var (k := 0) rfl h1) (ed_int (i := 1)) (opD_ixT (d := .int b) rfl)
      refine qd_par (K := K) (ds_cons (ed_op (ed_var rfl h2) hb (opD_I (show CDiv bar b from ⟨by omega, by omega⟩))) (ds_cons (ed_op (ed_cb (ds_cons (ed_var rfl h2) ds_nil) cd_int) hb (opD_I (show (0 : Int) < b by omega))) ds_nil)) fun x y H1 e1 dx dy => ?_
      cases dp_intI dx
      cases dp_intI dy
      refine q_when (eq_test (K := K) (ed_op (ed_op (ed_cb (ds_cons (ed_op (ed_var rfl (.int _)) (ed_var rfl (.int _)) opD_I0) ds_nil) cd_int) ed_int (opD_I (show (0 : Int) < 2 by decide))) ed_int opD_eqI)) (fun c H2 e2 => ?_) (fun c H2 e2 => ?_)
      · refine sd_ret (K := K) (ed_tup (ds_cons (ed_tup (ds_cons (ed_var rfl (.int _)) (ds_cons (ed_var rfl (.int _)) ds_nil))) (ds_cons (ed_tup (ds_cons (ed_op (ed_var rfl (.int _)) ed_int opD_I0) (ds_cons (ed_op (ed_var rfl (.int _)) ed_int opD_I0) ds_nil))) ds_nil))) fun v H3 e3 dv => q v H3 ((e1.trans e2).trans e3) ?_
        unfold endsD
        rw [if_pos c]
        exact dv
      · refine sd_ret (K := K) (ed_tup (ds_cons (ed_tup (ds_cons (ed_var rfl (.int _)) (ds_cons (ed_op (ed_var rfl (.int _)) ed_int opD_I0) ds_nil))) (ds_cons (ed_tup (ds_cons (ed_op (ed_var rfl (.int _)) ed_int opD_I0) (ds_cons (ed_var rfl (.int _)) ds_nil))) ds_nil))) fun v H3 e3 dv => q v H3 ((e1.trans e2).trans e3) ?_
        unfold endsD
        rw [if_neg (by rw [c]; decide)]
        exact dv

theorem c_at (T : Def K mg "_law_at" s_at) (B : Bl mg) : Cal P w K mg base 1 "_law_at" (SpN K RBarsN) := by
  refine cal_of (k := 0) T sc_at (fun _ _ _ _ _ _ us hl => match us, hl with | [_, _], _ => rfl) (fun vs H Q E h => ?_) (fun f cdv A outer s H vs Q E hr h => ?_)
  · obtain ⟨ds, d, hd, ⟨a, b, r, c, sh, rfl, _⟩, _⟩ := h
    exact dps_len hd
  obtain ⟨ds, d, hd, ⟨a, b, r, c, sh, rfl, rfl⟩, q⟩ := h
  have nd := sc_at.nd
  cases hd with
  | cons h1 t =>
    cases t with
    | cons h2 t =>
      cases t
      rename_i v1 v2
      refine ⟨_, (pss_cons (ps_set (i := 2) nd rfl (.inl rfl) (pe_lst pa_nil))
    (pss_cons (ps_for PassesOwn.never rfl (pi_seqK (K := K) rfl (pe_tup (pa_cons (pe_op op_sub (pe_ix (ixK (K := K) rfl) (pv 1) pe_int (fun _ _ => rfl)) pe_int) (pa_cons (pe_ix (ixK (K := K) rfl) (pv 1) pe_int (fun _ _ => rfl)) pa_nil)))) (pg_name (i := 3) nd rfl (.inl rfl))
    (pss_one (ps_for PassesOwn.never rfl (pi_seqK (K := K) rfl (pe_tup (pa_cons (pe_op op_sub (pe_ix (ixK (K := K) rfl) (pv 1) pe_int (fun _ _ => rfl)) pe_int) (pa_cons (pe_ix (ixK (K := K) rfl) (pv 1) pe_int (fun _ _ => rfl)) pa_nil)))) (pg_name (i := 4) nd rfl (.inl rfl))
    (pss_one (ps_if (PW.pt (pw_and (pt_chain op_le op_lt pe_int (pv 3) (pe_ix (ixK (K := K) rfl) (pv 0) pe_int (fun _ _ => rfl))) (pw_and1 (pt_chain op_le op_lt pe_int (pv 4) (pe_ix (ixK (K := K) rfl) (pv 0) pe_int (fun _ _ => rfl))))))
    (pss_one (ps_expr (pe_bm PySem.F.plainAttrs_list PySem.F.slot_list_append PySem.F.type_list_append mt_append (pv 2) (pa_cons (pe_op op_add (pe_op op_mul (pv 3) (pe_ix (ixK (K := K) rfl) (pv 0) pe_int (fun _ _ => rfl))) (pv 4)) pa_nil))))
    pss_nil)))))
    (pss_one (ps_ret (pv 2))))), ?_⟩
      have s3 := sh.w1
      have s4 := sh.w8
      refine ⟨Nat.zero_le _, fun l nl => ?_⟩
      have n1 : Ex H (upd H l (.lst [])) := Ex.new nl
      refine qd_seq (K := K) (d := .tuple [.int (r - 1), .int r]) (ed_tup (ds_cons (ed_op (ed_op (ed_var rfl (dpm n1 h2)) ed_int (opD_ixT (d := .int r) rfl)) ed_int opD_I0) (ds_cons (ed_op (ed_var rfl (dpm n1 h2)) ed_int (opD_ixT (d := .int r) rfl)) ds_nil))) (.tup _)
        (fun v i σ' H' => ∃ y3 y4 xs, σ' = [some v1, some v2, some (.ref l), y3, y4] ∧ Ex H H' ∧ H' l = some (.lst xs) ∧ DaAll K H' xs (([.int (r - 1), .int r].take i).flatMap fun y => rowD a b (intOf y) c) ∧ Da K H' v (.tuple [.int (r - 1), .int r]))
        (fun v H1 e1 dv => ⟨none, none, [], rfl, n1.trans e1, e1 _ _ upd_same, .nil, dv⟩) (fun v i σ' H' hw => ?_) (fun v i e x σ' H' he hw dx => ?_) (fun v σ' H' hw => ?_)
      · obtain ⟨_, _, _, _, _, _, _, dv⟩ := hw
        exact dv
      · obtain ⟨y3, y4, xs, rfl, ex, hl, hx, dv⟩ := hw
        obtain ⟨y, rfl⟩ : ∃ y, e = .int y := by
          have := List.mem_of_getElem? he
          simp only [List.mem_cons, List.mem_nil_iff, or_false] at this
          rcases this with rfl | rfl <;> exact ⟨_, rfl⟩
        cases dp_intI dx
        have lx : xs.length ≤ 4 := by
          rw [dps_len hx]
          have k1 := cell_len a b (r - 1) (c - 1)
          have k2 := cell_len a b (r - 1) c
          have k3 := cell_len a b r (c - 1)
          have k4 := cell_len a b r c
          rcases i with _ | _ | i <;> simp [rowD, intOf] <;> omega
        rw [fm_take _ he]
        have fl0 : flats (([PyData.int (r - 1), .int r].take i).flatMap fun y => rowD a b (intOf y) c) = true := flats_all fun d hd => by
          obtain ⟨z, _, hz⟩ := List.mem_flatMap.mp hd
          unfold rowD at hz
          rcases List.mem_append.mp hz with h | h <;> rw [(cell_mem h).1] <;> simp [flat]
        generalize (([PyData.int (r - 1), .int r].take i).flatMap fun y => rowD a b (intOf y) c) = es at hx fl0 ⊢
        have h1' := dpm ex h1
        have h2' := dpm ex h2
        refine sd_seq (K := K) (d := .tuple [.int (c - 1), .int c]) (ed_tup (ds_cons (ed_op (ed_op (ed_var rfl h2') ed_int (opD_ixT (d := .int c) rfl)) ed_int opD_I0) (ds_cons (ed_op (ed_var rfl h2') ed_int (opD_ixT (d := .int c) rfl)) ds_nil))) (.tup _)
          (fun v' j σ' H5 => ∃ y4 xs, σ' = [some v1, some v2, some (.ref l), some (.int y), y4] ∧ Ex H H5 ∧ Et H' H5 ∧ H5 l = some (.lst xs) ∧ DaAll K H5 xs (es ++ (([.int (c - 1), .int c].take j).flatMap fun x => cellD a b y (intOf x))) ∧ xs.length ≤ 4 + j ∧ Da K H5 v' (.tuple [.int (c - 1), .int c]))
          (fun v' H5 e5 dv' => ⟨y4, xs, rfl, ex.trans e5, Et.ex e5, e5 _ _ hl, by simpa using dpsm e5 hx, by omega, dv'⟩) (fun v' j σ' H5 hw => ?_) (fun v' j e' x' σ' H5 he' hw dx' => ?_) (fun v' σ' H5 hw => ?_)
        · obtain ⟨_, _, _, _, _, _, _, _, dv'⟩ := hw
          exact dv'
        · obtain ⟨z4, xs5, rfl, ex5, et5, hl5, hx5, lx5, dv'⟩ := hw
          obtain ⟨x, rfl⟩ : ∃ x, e' = .int x := by
            have := List.mem_of_getElem? he'
            simp only [List.mem_cons, List.mem_nil_iff, or_false] at this
            rcases this with rfl | rfl <;> exact ⟨_, rfl⟩
          cases dp_intI dx'
          have jl : j < 2 := (List.getElem?_eq_some_iff.mp he').1
          have h15 := dpm ex5 h1
          have tail : (es ++ (([PyData.int (c - 1), .int c].take (j + 1)).flatMap fun x => cellD a b y (intOf x))) = (es ++ (([PyData.int (c - 1), .int c].take j).flatMap fun x => cellD a b y (intOf x))) ++ cellD a b y x := by
            rw [fm_take _ he', List.append_assoc]
            rfl
          have fl5 : flats (es ++ (([PyData.int (c - 1), .int c].take j).flatMap fun x => cellD a b y (intOf x))) = true := by
            rw [flats_app, fl0, Bool.true_and]
            refine flats_all fun d hd => ?_
            obtain ⟨z, _, hz⟩ := List.mem_flatMap.mp hd
            rw [(cell_mem hz).1]
            simp [flat]
          refine s_when (et_and (eq_test (K := K) (ed_chain ed_int (ed_var rfl (.int y)) opD_B0 (fun _ => ed_op (ed_var rfl h15) ed_int (opD_ixT (d := .int a) rfl)) (fun _ => opD_B0))) (fun _ => eq_test (K := K) (ed_chain ed_int (ed_var rfl (.int x)) opD_B0 (fun _ => ed_op (ed_var rfl h15) ed_int (opD_ixT (d := .int b) rfl)) (fun _ => opD_B0)))) (fun k H6 e6 => ?_) (fun k H6 e6 => ?_)
          · have h16 := dpm e6 h15
            refine sd_appV (K := K) rfl (e6 _ _ hl5) (ed_op (ed_op (ed_var rfl (.int y)) (ed_op (ed_var rfl h16) ed_int (opD_ixT (d := .int b) rfl)) (opD_I (show CMul y b from Or.inr ⟨by omega, by omega⟩))) (ed_var rfl (.int x)) opD_I0) (by omega) fun v7 H7 e7 dv7 => ?_
            have hl7 := e7 _ _ (e6 _ _ hl5)
            have t7 := Et.upd (o := .lst (xs5 ++ [v7])) hl7
            refine ⟨_, _, rfl, Ex.mut ((ex5.trans e6).trans e7) nl, (et5.trans (Et.ex (e6.trans e7))).trans t7, upd_same, ?_, by simp; omega, dpt t7 (by simp [flat, flats]) (dpm (e6.trans e7) dv')⟩
            rw [tail]
            have : cellD a b y x = [.int (y * b + x)] := by
              unfold cellD fieldIn
              rw [if_pos k]
            rw [this]
            exact dps_app (dpst t7 fl5 (dpsm (e6.trans e7) hx5)) (.cons (dpt t7 (by simp [flat]) dv7) .nil)
          · refine ⟨_, _, rfl, ex5.trans e6, et5.trans (Et.ex e6), e6 _ _ hl5, ?_, by omega, dpm e6 dv'⟩
            rw [tail]
            have : cellD a b y x = [] := by
              unfold cellD fieldIn
              rw [if_neg (by rw [k]; decide)]
            rw [this, List.append_nil]
            exact dpsm e6 hx5
        · obtain ⟨z4, xs5, rfl, ex5, et5, hl5, hx5, lx5, dv'⟩ := hw
          refine ⟨_, _, _, rfl, ex5, hl5, ?_, dpt et5 (by simp [flat, flats]) dv⟩
          have : (([PyData.int (c - 1), .int c].take [PyData.int (c - 1), .int c].length).flatMap fun x => cellD a b y (intOf x)) = rowD a b (intOf (.int y)) c := by
            simp [rowD, intOf]
          rw [this] at hx5
          exact hx5
      · obtain ⟨y3, y4, xs, rfl, ex, hl, hx, dv⟩ := hw
        have : (([PyData.int (r - 1), .int r].take [PyData.int (r - 1), .int r].length).flatMap fun y => rowD a b (intOf y) c) = atD a b r c := by
          simp [atD, intOf]
        rw [this] at hx
        exact ⟨.ref l, rfl, q l _ H' nl ex hl hx⟩

theorem c_pairs (T : Def K mg "_law_pairs" s_pairs) (B : Bl mg) : Cal P w K mg base 1 "_law_pairs" (SpN K RPairs) := by
  refine cal_of (k := 0) T sc_pairs (fun _ _ _ _ _ _ us hl => match us, hl with | [_], _ => rfl) (fun vs H Q E h => ?_) (fun f cdv A outer s H vs Q E hr h => ?_)
  · obtain ⟨ds, es, hd, ⟨d, xs, it, fl, len, rfl, _⟩, _⟩ := h
    exact dps_len hd
  obtain ⟨ds, es, hd, ⟨d, its, it, fl, len, rfl, rfl⟩, q⟩ := h
  have nd := sc_pairs.nd
  cases hd with
  | cons h1 t =>
    cases t
    rename_i v1
    refine ⟨_, (pss_cons (ps_set (i := 1) nd rfl (.inl rfl) (pe_lst pa_nil))
    (pss_cons (ps_for PassesOwn.never rfl (pi_seqK (K := K) rfl (pv 0)) (pg_name (i := 2) nd rfl (.inr rfl))
    (pss_one (ps_expr (pe_bm PySem.F.plainAttrs_list PySem.F.slot_list_extend PySem.F.type_list_extend mt_extend (pv 1) (pa_cons (pe_lc (own := [("_law_other", 3)]) rfl nd (pi_seqK (K := K) rfl (pv 0)) (blkOk_by (N := N_pairs) (sc := defScope s_pairs) (by decide +kernel)) (fun _ _ _ _ _ => (pg_name (i := 3) nd rfl (Or.inl rfl))) (fun _ _ _ _ _ => pts_nil) (fun _ _ _ _ _ => (pe_tup (pa_cons (pv 2) (pa_cons (pv 3) pa_nil))))) pa_nil)))))
    (pss_one (ps_ret (pv 1))))), ?_⟩
    refine ⟨Nat.zero_le _, fun l nl => ?_⟩
    have n1 : Ex H (upd H l (.lst [])) := Ex.new nl
    have pl : ∀ i, (pairsOf' its (its.take i)).length = (its.take i).length * its.length := fun i => pairs_len its _
    refine qd_seqV (K := K) rfl (dpm n1 h1) it (fun i σ' H' => ∃ y2 y3 xs, σ' = [some v1, some (.ref l), y2, y3] ∧ Ex H H' ∧ H' l = some (.lst xs) ∧ DaAll K H' xs (pairsOf' its (its.take i)))
      ⟨none, none, [], rfl, n1, upd_same, .nil⟩ (fun i σ' H' hw => ?_) (fun i e x σ' H' he hw dx => ?_) (fun σ' H' hw => ?_)
    · obtain ⟨_, _, _, _, ex, _⟩ := hw
      exact dpm ex h1
    · obtain ⟨y2, y3, xs, rfl, ex, hl, hx⟩ := hw
      have il : i < its.length := (List.getElem?_eq_some_iff.mp he).1
      have h1' := dpm ex h1
      have fe := flats_mem fl (List.mem_of_getElem? he)
      have lx := dps_len hx
      rw [pl, List.length_take] at lx
      have b1 : (min i its.length) * its.length ≤ 100 * 100 := Nat.mul_le_mul (by omega) len
      rw [pairs_take its he]
      refine sd_extV (K := K) rfl hl (en_lcI (fun _ => true) (fun y => .tuple [e, y]) (it_seq (ed_var rfl h1') it) (by omega) (fun z hz => ?_) (fun z hz _ => ?_)) ?_ (fun vs H1 e1 dvs => ?_)
      · exact turn_name (fun x => rfl) (fun _ _ _ _ => et_yes) (fun y H4 e4 dy _ => ed_tup (ds_cons (ed_var rfl (dpm e4 dx)) (ds_cons (ed_var rfl dy) ds_nil)))
      · simp [flat, flats, fe, flats_mem fl hz]
      · have := picked_le (fun _ => true) (fun y => .tuple [e, y]) its its.length
        rw [List.take_length] at this
        omega
      · rw [picked_true] at dvs
        have hl1 := e1 _ _ hl
        refine ⟨_, _, _, rfl, Ex.mut (ex.trans e1) nl, upd_same, dpst (Et.upd hl1) ?_ (dps_app (dpsm e1 hx) dvs)⟩
        refine flats_all fun d hd => ?_
        rcases List.mem_append.mp hd with h | h
        · obtain ⟨x0, hx0, h⟩ := List.mem_flatMap.mp h
          obtain ⟨y0, hy0, rfl⟩ := List.mem_map.mp h
          simp [flat, flats, flats_mem fl (List.mem_of_mem_take hx0), flats_mem fl hy0]
        · obtain ⟨y0, hy0, rfl⟩ := List.mem_map.mp h
          simp [flat, flats, fe, flats_mem fl hy0]
    · obtain ⟨y2, y3, xs, rfl, ex, hl, hx⟩ := hw
      rw [List.take_length] at hx
      exact ⟨.ref l, rfl, q l _ H' nl ex hl hx⟩

theorem c_p_ends_of (T : Def K mg "ends_of" s_p_ends_of) (B : Bl mg) : Cal P w K mg base 1 "ends_of" (SpD K REnds) := by
  refine cal_of (k := 0) T sc_p_ends_of (fun _ _ _ _ _ _ us hl => match us, hl with | [_, _], _ => rfl) (fun vs H Q E h => ?_) (fun f cdv A outer s H vs Q E hr h => ?_)
  · obtain ⟨ds, d, hd, ⟨a, b, bar, sh, rfl, _⟩, _⟩ := h
    exact dps_len hd
  obtain ⟨ds, d, hd, ⟨a, b, bar, sh, rfl, rfl⟩, q⟩ := h
  have nd := sc_p_ends_of.nd
  cases hd with
  | cons h1 t =>
    cases t with
    | cons h2 t =>
      cases t
      rename_i v1 v2
      refine ⟨_, (pss_cons (ps_asg (pe_callB fr_divmod (by rfl) B.b_divmod (by decide +kernel) (pa_cons (pv 1) (pa_cons (pe_ix (ixK (K := K) rfl) (pv 0) pe_int (fun _ _ => rfl)) pa_nil))) (pg_tupK (K := K) (n := 2) rfl rfl (pgs_cons (pg_name (i := 2) nd rfl (.inl rfl)) (pgs_cons (pg_name (i := 3) nd rfl (.inl rfl)) pgs_nil))))
    (pss_cons (ps_if (pt_cmpR (op_eqK (K := K) rfl hr.units) (pe_op op_mod (pe_op op_add (pv 2) (pv 3)) pe_int) pe_int (nomark _))
    (pss_one (ps_ret (pe_tup (pa_cons (pe_tup (pa_cons (pv 2) (pa_cons (pv 3) pa_nil))) (pa_cons (pe_tup (pa_cons (pe_op op_add (pv 2) pe_int) (pa_cons (pe_op op_add (pv 3) pe_int) pa_nil))) pa_nil)))))
    pss_nil)
    (pss_one (ps_ret (pe_tup (pa_cons (pe_tup (pa_cons (pv 2) (pa_cons (pe_op op_add (pv 3) pe_int) pa_nil))) (pa_cons (pe_tup (pa_cons (pe_op op_add (pv 2) pe_int) (pa_cons (pv 3) pa_nil))) pa_nil))))))), ?_⟩
      have w1 := sh.w1
      have w8 := sh.w8
      have hb : EvD K _ (start N_p_ends_of [v1, v2]) H (.int b) := ed_op (ed_var (k := 0) rfl h1) (ed_int (i := 1)) (opD_ixT (d := .int b) rfl)
      refine qd_un2 (K := K) (ed_cb (ds_cons (ed_var rfl h2) (ds_cons hb ds_nil)) (cd_divmod (show CDiv bar b from ⟨by omega, by omega⟩))) rfl fun x y H1 e1 dx dy => ?_
      cases dp_intI dx
      cases dp_intI dy
      refine q_when (eq_test (K := K) (ed_op (ed_op (ed_op (ed_var rfl (.int _)) (ed_var rfl (.int _)) opD_I0) ed_int (opD_I (show (0 : Int) < 2 by decide))) ed_int opD_eqI)) (fun c H2 e2 => ?_) (fun c H2 e2 => ?_)
      · refine sd_ret (K := K) (ed_tup (ds_cons (ed_tup (ds_cons (ed_var rfl (.int _)) (ds_cons (ed_var rfl (.int _)) ds_nil))) (ds_cons (ed_tup (ds_cons (ed_op (ed_var rfl (.int _)) ed_int opD_I0) (ds_cons (ed_op (ed_var rfl (.int _)) ed_int opD_I0) ds_nil))) ds_nil))) fun v H3 e3 dv => q v H3 ((e1.trans e2).trans e3) ?_
        unfold endsD
        rw [if_pos c]
        exact dv
      · refine sd_ret (K := K) (ed_tup (ds_cons (ed_tup (ds_cons (ed_var rfl (.int _)) (ds_cons (ed_op (ed_var rfl (.int _)) ed_int opD_I0) ds_nil))) (ds_cons (ed_tup (ds_cons (ed_op (ed_var rfl (.int _)) ed_int opD_I0) (ds_cons (ed_var rfl (.int _)) ds_nil))) ds_nil))) fun v H3 e3 dv => q v H3 ((e1.trans e2).trans e3) ?_
        unfold endsD
        rw [if_neg (by rw [c]; decide)]
        exact dv

theorem c_p_are_opposite (T : Def K mg "are_opposite" s_p_are_opposite) (B : Bl mg) (C_p_ends_of : Cal P w K mg base 1 "ends_of" (SpD K REnds)) : Cal P w K mg base 2 "are_opposite" (SpD K ROppP) := by
  refine cal_of (k := 1) T sc_p_are_opposite (fun _ _ _ _ _ _ us hl => match us, hl with | [_, _, _], _ => rfl) (fun vs H Q E h => ?_) (fun f cdv A outer s H vs Q E hr h => ?_)
  · obtain ⟨ds, d, hd, ⟨a, b, x, y, sh, h0, h1, h2, h3, rfl, _⟩, _⟩ := h
    exact dps_len hd
  obtain ⟨ds, d, hd, ⟨a, b, x, y, sh, h0, h1, h2, h3, rfl, rfl⟩, q⟩ := h
  have nd := sc_p_are_opposite.nd
  cases hd with
  | cons k1 t =>
    cases t with
    | cons k2 t =>
      cases t with
      | cons k3 t =>
        cases t
        rename_i v1 v2 v3
        cases dp_intI k2
        cases dp_intI k3
        refine ⟨_, (pss_cons (ps_asg (pe_c C_p_ends_of hr (by decide) (by rfl) (pa_cons (pv 0) (pa_cons (pe_callB (fr_min rfl) (by rfl) B.b_min (by decide +kernel) (pa_cons (pv 1) (pa_cons (pv 2) pa_nil))) pa_nil))) (pg_tupK (K := K) (n := 2) rfl rfl (pgs_cons (pg_name (i := 3) nd rfl (.inl rfl)) (pgs_cons (pg_name (i := 4) nd rfl (.inl rfl)) pgs_nil))))
    (pss_cons (ps_asg (pe_c C_p_ends_of hr (by decide) (by rfl) (pa_cons (pv 0) (pa_cons (pe_callB (fr_max rfl) (by rfl) B.b_max (by decide +kernel) (pa_cons (pv 1) (pa_cons (pv 2) pa_nil))) pa_nil))) (pg_tupK (K := K) (n := 2) rfl rfl (pgs_cons (pg_name (i := 5) nd rfl (.inl rfl)) (pgs_cons (pg_name (i := 6) nd rfl (.inl rfl)) pgs_nil))))
    (pss_one (ps_ret (pe_and (pe_cmpR (op_eqK (K := K) rfl hr.units) (pv 4) (pv 5) (nomark _)) (pe_one (pe_cmpR (op_eqK (K := K) rfl hr.units) (pe_op op_sub (pe_ix (ixK (K := K) rfl) (pv 4) pe_int (fun _ _ => rfl)) (pe_ix (ixK (K := K) rfl) (pv 3) pe_int (fun _ _ => rfl))) (pe_op op_sub (pe_ix (ixK (K := K) rfl) (pv 6) pe_int (fun _ _ => rfl)) (pe_ix (ixK (K := K) rfl) (pv 5) pe_int (fun _ _ => rfl))) (nomark _)))))))), ?_⟩
        obtain ⟨n0, n1⟩ := imin_in (lo := 0) (hi := a * b - 1) ⟨h0, by omega⟩ ⟨h2, by omega⟩
        obtain ⟨m0, m1⟩ := imax_in (lo := 0) (hi := a * b - 1) ⟨h0, by omega⟩ ⟨h2, by omega⟩
        refine qd_un2 (K := K) (ed_is (ed_call (ds_cons (ed_var rfl k1) (ds_cons (ed_cb (ds_cons (ed_var rfl (.int x)) (ds_cons (ed_var rfl (.int y)) ds_nil)) cd_min) ds_nil)) ⟨a, b, imin x y, sh, rfl, rfl⟩) (endsD_P _ _)) rfl fun t m H1 e1 dt dm => ?_
        refine qd_un2 (K := K) (ed_is (ed_call (ds_cons (ed_var rfl (dpm e1 k1)) (ds_cons (ed_cb (ds_cons (ed_var rfl (.int x)) (ds_cons (ed_var rfl (.int y)) ds_nil)) cd_max) ds_nil)) ⟨a, b, imax x y, sh, rfl, rfl⟩) (endsD_P _ _)) rfl fun j o H2 e2 dj dn => ?_
        have dt2 := dpm e2 dt
        have dm2 := dpm e2 dm
        have tp : ∀ z : Int, 0 ≤ z → z ≤ a * b - 1 → Tame 1 50 (pk (endsB b z).1) ∧ Tame 1 50 (pk (endsB b z).2) := fun z z0 z1 => tame_endsB sh z0 (by omega)
        refine sd_ret (K := K) (ed_and (ed_op (ed_var rfl dm2) (ed_var rfl dj) (opD_eq (tp _ n0 n1).2 (tp _ m0 m1).1 (by decide) (by decide))) (fun _ => ed_op (ed_op (ed_op (ed_var rfl dm2) ed_int (opD_ixT (d := .int (endsB b (imin x y)).2.2) rfl)) (ed_op (ed_var rfl dt2) ed_int (opD_ixT (d := .int (endsB b (imin x y)).1.2) rfl)) opD_I0)
          (ed_op (ed_op (ed_var rfl dn) ed_int (opD_ixT (d := .int (endsB b (imax x y)).2.2) rfl)) (ed_op (ed_var rfl dj) ed_int (opD_ixT (d := .int (endsB b (imax x y)).1.2) rfl)) opD_I0) opD_eqI)) fun v H3 e3 dv => q v H3 ((e1.trans e2).trans e3) ?_
        rw [eqv_pk] at dv
        exact dv

theorem c_are_opposite (T : Def K mg "_law_are_opposite" s_are_opposite) (B : Bl mg) (C_ends : Cal P w K mg base 1 "_law_ends" (SpD K REnds)) : Cal P w K mg base 2 "_law_are_opposite" (SpD K ROppL) := by
  refine cal_of (k := 1) T sc_are_opposite (fun _ _ _ _ _ _ us hl => match us, hl with | [_, _, _], _ => rfl) (fun vs H Q E h => ?_) (fun f cdv A outer s H vs Q E hr h => ?_)
  · obtain ⟨ds, d, hd, ⟨a, b, x, y, sh, h0, h1, h2, h3, rfl, _⟩, _⟩ := h
    exact dps_len hd
  obtain ⟨ds, d, hd, ⟨a, b, x, y, sh, h0, h1, h2, h3, rfl, rfl⟩, q⟩ := h
  have nd := sc_are_opposite.nd
  cases hd with
  | cons k1 t =>
    cases t with
    | cons k2 t =>
      cases t with
      | cons k3 t =>
        cases t
        rename_i v1 v2 v3
        cases dp_intI k2
        cases dp_intI k3
        refine ⟨_, (pss_cons (ps_for PassesOwn.never rfl (pi_seqK (K := K) rfl (pe_c C_ends hr (by decide) (by rfl) (pa_cons (pv 0) (pa_cons (pv 1) pa_nil)))) (pg_name (i := 3) nd rfl (.inr rfl))
    (pss_one (ps_if (pt_cmpR (op_inA (K := K) rfl hr) (pv 3) (pe_c C_ends hr (by decide) (by rfl) (pa_cons (pv 0) (pa_cons (pv 2) pa_nil))) (by with_unfolding_all rfl))
    (pss_cons (ps_setLc (i := 4) (own := [("_law_bar", 6)]) rfl nd rfl rfl (sw_true rfl rfl rfl (by decide +kernel)) (pi_seqK (K := K) rfl (pe_tup (pa_cons (pv 1) (pa_cons (pv 2) pa_nil)))) (blkOk_by (N := N_are_opposite) (sc := defScope s_are_opposite) (by decide +kernel)) (fun _ _ _ _ _ => (pg_name (i := 6) nd rfl (Or.inl rfl))) (fun _ _ _ _ _ => pts_nil) (fun _ _ _ _ _ => (pe_ix (ixK (K := K) rfl) (pe_lc (own := [("_law_end", 5)]) rfl nd (pi_seqK (K := K) rfl (pe_c C_ends hr (by decide) (by rfl) (pa_cons (pv 0) (pa_cons (pv 6) pa_nil)))) (by dsimp only [Cx.blk, compEnvC]; exact blkOk_by (N := N_are_opposite) (by rfl)) (fun _ _ _ _ _ => (pg_name (i := 5) nd rfl (Or.inl rfl))) (fun _ _ _ _ _ => (pts_one (pt_cmpR (op_neK (K := K) rfl hr.units) (pv 5) (pv 3) (nomark _)))) (fun _ _ _ _ _ => (pv 5))) pe_int (fun _ _ => rfl))))
    (pss_one (ps_if (PW.pt (pw_and (pt_cmpR (op_eqK (K := K) rfl hr.units) (pe_op op_add (pe_ix (ixK (K := K) rfl) (pe_ix (ixK (K := K) rfl) (pv 4) pe_int (fun _ _ => rfl)) pe_int (fun _ _ => rfl)) (pe_ix (ixK (K := K) rfl) (pe_ix (ixK (K := K) rfl) (pv 4) pe_int (fun _ _ => rfl)) pe_int (fun _ _ => rfl))) (pe_op op_mul pe_int (pe_ix (ixK (K := K) rfl) (pv 3) pe_int (fun _ _ => rfl))) (nomark _)) (pw_and1 (pt_cmpR (op_eqK (K := K) rfl hr.units) (pe_op op_add (pe_ix (ixK (K := K) rfl) (pe_ix (ixK (K := K) rfl) (pv 4) pe_int (fun _ _ => rfl)) pe_int (fun _ _ => rfl)) (pe_ix (ixK (K := K) rfl) (pe_ix (ixK (K := K) rfl) (pv 4) pe_int (fun _ _ => rfl)) pe_int (fun _ _ => rfl))) (pe_op op_mul pe_int (pe_ix (ixK (K := K) rfl) (pv 3) pe_int (fun _ _ => rfl))) (nomark _)))))
    (pss_one (ps_ret pe_bl))
    pss_nil)))
    pss_nil)))
    (pss_one (ps_ret pe_bl))), ?_⟩
        obtain ⟨te1, te2⟩ := tame_endsB sh h0 h1
        obtain ⟨tf1, tf2⟩ := tame_endsB sh h2 h3
        refine qd_seq (K := K) (d := .tuple [pk (endsB b x).1, pk (endsB b x).2]) (ed_is (ed_call (ds_cons (ed_var rfl k1) (ds_cons (ed_var rfl (.int x)) ds_nil)) ⟨a, b, x, sh, rfl, rfl⟩) (endsD_P _ _)) (.tup _)
          (fun v i σ' H' => ∃ y3 y4 y5 y6, σ' = [some v1, some (.int x), some (.int y), y3, y4, y5, y6] ∧ Ex H H' ∧ Da K H' v (.tuple [pk (endsB b x).1, pk (endsB b x).2]) ∧ (1 ≤ i → hitP (endsB b x).1 (endsB b x) (endsB b y) = false) ∧ (2 ≤ i → hitP (endsB b x).2 (endsB b x) (endsB b y) = false))
          (fun v H1 e1 dv => ⟨none, none, none, none, rfl, e1, dv, fun z => by omega, fun z => by omega⟩) (fun v i σ' H' hw => ?_) (fun v i e0 z σ' H' he hw dz => ?_) (fun v σ' H' hw => ?_)
        · obtain ⟨_, _, _, _, _, _, dv, _⟩ := hw
          exact dv
        · obtain ⟨y3, y4, y5, y6, rfl, ex, dv, w1, w2⟩ := hw
          obtain ⟨k, rfl, tk, hk⟩ : ∃ k, e0 = pk k ∧ Tame 1 50 (pk k) ∧ ((i = 0 ∧ k = (endsB b x).1) ∨ (i = 1 ∧ k = (endsB b x).2)) := by
            rcases i with _ | _ | i
            · exact ⟨_, (Option.some.inj he).symm, te1, Or.inl ⟨rfl, rfl⟩⟩
            · exact ⟨_, (Option.some.inj he).symm, te2, Or.inr ⟨rfl, rfl⟩⟩
            · simp at he
          have goOn : ∀ {σ2 : L2.St} {H2 : Hp}, hitP k (endsB b x) (endsB b y) = false → (∃ y3 y4 y5 y6, σ2 = [some v1, some (.int x), some (.int y), y3, y4, y5, y6]) → Ex H H2 → Da K H2 v (.tuple [pk (endsB b x).1, pk (endsB b x).2]) →
              (∃ y3 y4 y5 y6, σ2 = [some v1, some (.int x), some (.int y), y3, y4, y5, y6] ∧ Ex H H2 ∧ Da K H2 v (.tuple [pk (endsB b x).1, pk (endsB b x).2]) ∧ (1 ≤ i + 1 → hitP (endsB b x).1 (endsB b x) (endsB b y) = false) ∧ (2 ≤ i + 1 → hitP (endsB b x).2 (endsB b x) (endsB b y) = false)) := by
            rintro σ2 H2 hh ⟨u3, u4, u5, u6, rfl⟩ e2 d2
            refine ⟨_, _, _, _, rfl, e2, d2, fun le => ?_, fun le => ?_⟩
            · rcases hk with ⟨rfl, rfl⟩ | ⟨rfl, rfl⟩
              · exact hh
              · exact w1 (by omega)
            · rcases hk with ⟨rfl, rfl⟩ | ⟨rfl, rfl⟩
              · omega
              · exact hh
          have inn : ∀ p q : Pt, ([pk p, pk q].any fun z => PyData.eqv z (pk k)) = decide (p = k ∨ q = k) := fun p q => by
            simp only [List.any_cons, List.any_nil, Bool.or_false, eqv_pk, Bool.decide_or]
          have k1' := dpm ex k1
          refine s_when (eq_test (K := K) (ed_op (ed_var rfl dz) (ed_is (ed_call (ds_cons (ed_var rfl k1') (ds_cons (ed_var rfl (.int y)) ds_nil)) ⟨a, b, y, sh, rfl, rfl⟩) (endsD_P _ _)) (opD_in (.tup _) tk (tameL_cons tf1 (tameL_cons tf2 (tameL_nil (n := 1) (w := 0)))) (by decide)))) (fun c H2 e2 => ?_) (fun c H2 e2 => ?_)
          · have hin : decide ((endsB b y).1 = k ∨ (endsB b y).2 = k) = true := (inn _ _).symm.trans c
            have k12 := dpm e2 k1'
            have dz2 := dpm e2 dz
            refine qd_asg (K := K) (d := .list [pk (farP k (endsB b x)), pk (farP k (endsB b y))]) (evn_d (en_lcI (fun _ => true) (fun d => pk (farP k (endsB b (intOf d)))) (it_seq (ed_tup (ds_cons (ed_var rfl (.int x)) (ds_cons (ed_var rfl (.int y)) ds_nil))) (.tup _)) (by simp) (fun e he => ?_) (fun _ _ _ => flat_knd))) fun fv H3 e3 dfar => ?_
            · obtain ⟨g, rfl, tg⟩ : ∃ g, e = .int g ∧ Tame 1 50 (pk (endsB b g).1) ∧ Tame 1 50 (pk (endsB b g).2) := by
                simp only [List.mem_cons, List.mem_nil_iff, or_false] at he
                rcases he with rfl | rfl
                · exact ⟨_, rfl, te1, te2⟩
                · exact ⟨_, rfl, tf1, tf2⟩
              refine turn_name (fun x => rfl) (fun _ _ _ _ => et_yes) (fun gv H3 e3 dg _ => ?_)
              refine ed_op (evn_d (en_lcI (fun d => !PyData.eqv d (pk k)) (fun d => d) (it_seq (ed_is (ed_call (ds_cons (ed_var rfl (dpm e3 k12)) (ds_cons (ed_var rfl dg) ds_nil)) ⟨a, b, g, sh, rfl, rfl⟩) (endsD_P _ _)) (.tup _)) (by simp) (fun e he => ?_) (fun e he _ => ?_))) ed_int (opD_ixL ?_)
              · have te : Tame 1 50 e := by
                  simp only [List.mem_cons, List.mem_nil_iff, or_false] at he
                  rcases he with rfl | rfl
                  · exact tg.1
                  · exact tg.2
                exact turn_name (fun x => rfl) (fun u H4 e4 du => eq_test (K := K) (ed_op (ed_var rfl du) (ed_var rfl (dpm (e3.trans e4) dz2)) (opD_ne te tk (by decide) (by decide)))) (fun u H4 e4 du _ => ed_var rfl du)
              · simp only [List.mem_cons, List.mem_nil_iff, or_false] at he
                rcases he with rfl | rfl <;> exact flat_knd
              · refine atI_nat (j := 0) ?_
                show (picked (fun d => !PyData.eqv d (pk k)) (fun d => d) [pk (endsB b g).1, pk (endsB b g).2])[0]? = some (pk (farP k (endsB b g)))
                rw [picked_cons, picked_cons, eqv_pk, eqv_pk]
                unfold farP
                by_cases z : (endsB b g).1 = k
                · have z2 : (endsB b g).2 ≠ k := fun z2 => ends_ne _ _ (show (endsB b g).1 = (endsB b g).2 by rw [z, z2])
                  rw [decide_eq_true z, decide_eq_false z2, if_pos z]
                  rfl
                · rw [decide_eq_false z, if_neg z]
                  rfl
            have ix : ∀ {H' : Hp} {j : Nat} {p : Pt} {i : Int} {n : Int}, Da K H' fv (.list [pk (farP k (endsB b x)), pk (farP k (endsB b y))]) → atI [pk (farP k (endsB b x)), pk (farP k (endsB b y))] (j : Int) = some (pk p) → atI [PyData.int p.1, PyData.int p.2] i = some (.int n) →
                EvD K (tOp (rIxA K) (tOp (rIxA K) (tVar 4) (tC (.int (j : Int)))) (tC (.int i))) [some v1, some (.int x), some (.int y), some z, some fv, y5, y6] H' (.int n) := fun d e e' => ed_op (ed_op (ed_var rfl d) ed_int (opD_ixL e)) ed_int (opD_ixT e')
            have dz3 := dpm e3 dz2
            refine s_when (et_and (eq_test (K := K) (ed_op (ed_op (ix (j := 0) (i := 0) dfar rfl rfl) (ix (j := 1) (i := 0) dfar rfl rfl) opD_I0) (ed_op ed_int (ed_op (ed_var rfl dz3) ed_int (opD_ixT (d := .int k.1) rfl)) (opD_I (show CMul 2 k.1 from Or.inl ⟨by decide, by decide⟩))) opD_eqI))
              (fun _ => eq_test (K := K) (ed_op (ed_op (ix (j := 0) (i := 1) dfar rfl rfl) (ix (j := 1) (i := 1) dfar rfl rfl) opD_I0) (ed_op ed_int (ed_op (ed_var rfl dz3) ed_int (opD_ixT (d := .int k.2) rfl)) (opD_I (show CMul 2 k.2 from Or.inl ⟨by decide, by decide⟩))) opD_eqI))) (fun c2 H4 e4 => ?_) (fun c2 H4 e4 => ?_)
            · refine sd_ret (K := K) ed_bl fun v5 H5 e5 dv5 => q v5 H5 ((((ex.trans e2).trans e3).trans e4).trans e5) ?_
              have hh : hitP k (endsB b x) (endsB b y) = true := by
                unfold hitP
                rw [hin, c2]
                rfl
              have : oppL (endsB b x) (endsB b y) = true := by
                unfold oppL
                rcases hk with ⟨_, rfl⟩ | ⟨_, rfl⟩
                · rw [hh]
                  rfl
                · rw [hh, Bool.or_true]
              rw [this]
              exact dv5
            · have hh : hitP k (endsB b x) (endsB b y) = false := by
                unfold hitP
                rw [hin, c2]
                rfl
              exact goOn hh ⟨_, _, _, _, rfl⟩ (((ex.trans e2).trans e3).trans e4) (dpm ((e2.trans e3).trans e4) dv)
          · have hin : decide ((endsB b y).1 = k ∨ (endsB b y).2 = k) = false := (inn _ _).symm.trans c
            have hh : hitP k (endsB b x) (endsB b y) = false := by
              unfold hitP
              rw [hin]
              rfl
            exact goOn hh ⟨_, _, _, _, rfl⟩ (ex.trans e2) (dpm e2 dv)
        · obtain ⟨y3, y4, y5, y6, rfl, ex, dv, w1, w2⟩ := hw
          refine sd_ret (K := K) ed_bl fun v5 H5 e5 dv5 => q v5 H5 (ex.trans e5) ?_
          have : oppL (endsB b x) (endsB b y) = false := by
            unfold oppL
            rw [w1 (by simp), w2 (by simp)]
            rfl
          rw [this]
          exact dv5

def spLaw (K : PySem.W.Frag) : Sp := fun vs H Q _ => ∃ (a : Addr) (ns : List Int), vs = [.ref a] ∧ SqL K H a (ns.map V.int) ∧ ns.length ≤ 63 ∧ ∀ H', Q (.bl true) H'
theorem ok_law {f : Addr} {fd : FuncData} (F : Fun K "law" "law" s_law f fd) (sysm : ∃ mm, base.Ns sysModules mm) (B : Bl mg) (C_deck : Cal P w K mg base 1 "_law_deck" (spDeck K)) (C_draw : Cal P w K mg base 1 "_law_draw" spDr) (C_sheet : Cal P w K mg base 3 "_law_sheet" (spSheet K))
    (C_knots : Cal P w K mg base 1 "_law_knots" (SpN K RKnotsN)) (C_at : Cal P w K mg base 1 "_law_at" (SpN K RBarsN)) (C_pairs : Cal P w K mg base 1 "_law_pairs" (SpN K RPairs)) (C_are_opposite : Cal P w K mg base 2 "_law_are_opposite" (SpD K ROppL))
    (C_p_are_opposite : Cal P w K mg base 2 "are_opposite" (SpD K ROppP)) : FnG P w K mg base 4 f fd ["_law_script"] (spLaw K) := by
  have C_at' := bars_d C_at
  refine Fun_okG (k := 3) F sc_law (fun vs H Q E h => ?_) (fun cdv A outer s H vs Q E hr gu0 h => ?_)
  · obtain ⟨a, ns, rfl, _⟩ := h
    rfl
  obtain ⟨a, ns, rfl, hs, sm, q⟩ := h
  have nd := sc_law.nd
  have gu : ∀ e : Env, (A.deeper e).guards = some [] := fun e => gu0
  refine ⟨_, (pss_cons (ps_set (i := 1) nd rfl (.inr rfl) (pe_c C_deck hr (by decide) (by rfl) (pa_cons (pv 0) pa_nil)))
    (pss_cons (ps_for PassesOwn.never rfl (pi_range1 (by rfl) B.b_range (pa_cons pe_int pa_nil)) (pg_name (i := 2) nd rfl (.inl rfl))
    (pss_cons (ps_set (i := 3) nd rfl (.inl rfl) (pe_c C_sheet hr (by decide) (by rfl) (pa_cons (pv 1) (pa_cons pe_int pa_nil))))
    (pss_cons (ps_set (i := 4) nd rfl (.inr rfl) (pe_op op_mul (pe_ix (ixK (K := K) rfl) (pv 3) pe_int (fun _ _ => rfl)) (pe_ix (ixK (K := K) rfl) (pv 3) pe_int (fun _ _ => rfl))))
    (pss_cons (ps_setLc (i := 5) (own := [("_law_k", 6)]) rfl nd rfl rfl (sw_true rfl rfl rfl (by decide +kernel)) (pi_range1 (by rfl) B.b_range (pa_cons pe_int pa_nil)) (blkOk_by (N := N_law) (sc := defScope s_law) (by decide +kernel)) (fun _ _ _ _ _ => (pg_name (i := 6) nd rfl (Or.inl rfl))) (fun _ _ _ _ _ => pts_nil) (fun _ _ _ _ _ => (pe_tup (pa_cons (pe_c C_draw hr (by decide) (by rfl) (pa_cons (pv 1) (pa_cons (pv 4) pa_nil))) (pa_cons (pe_c C_draw hr (by decide) (by rfl) (pa_cons (pv 1) (pa_cons (pv 4) pa_nil))) pa_nil)))))
    (pss_cons (ps_for PassesOwn.never rfl (pi_seqK (K := K) rfl (pe_c C_knots hr (by decide) (by rfl) (pa_cons (pv 3) pa_nil))) (pg_name (i := 7) nd rfl (.inl rfl))
    (pss_one (ps_expr (pe_bm PySem.F.plainAttrs_list PySem.F.slot_list_extend PySem.F.type_list_extend mt_extend (pv 5) (pa_cons (pe_c C_pairs hr (by decide) (by rfl) (pa_cons (pe_c C_at hr (by decide) (by rfl) (pa_cons (pv 3) (pa_cons (pv 7) pa_nil))) pa_nil)) pa_nil)))))
    (pss_one (ps_for PassesOwn.never rfl (pi_seqK (K := K) rfl (pv 5)) (pg_tupK (K := K) (n := 2) rfl rfl (pgs_cons (pg_name (i := 8) nd rfl (.inl rfl)) (pgs_cons (pg_name (i := 9) nd rfl (.inl rfl)) pgs_nil)))
    (pss_cons (ps_set (i := 10) nd rfl (.inl rfl) (pe_c C_are_opposite hr (by decide) (by rfl) (pa_cons (pv 3) (pa_cons (pv 8) (pa_cons (pv 9) pa_nil)))))
    (pss_one (ps_if (PW.pt (pw_and (pt_cmpR (op_neK (K := K) rfl hr.units) (pv 8) (pv 9) (nomark _)) (pw_and1 (pt_cmpR (op_neK (K := K) rfl hr.units) (pe_callB (fr_reprK (K := K) rfl (gu _) sysm hr) (by rfl) B.b_repr (by decide +kernel) (pa_cons (pe_c C_p_are_opposite hr (by decide) (by rfl) (pa_cons (pv 3) (pa_cons (pv 8) (pa_cons (pv 9) pa_nil)))) pa_nil)) (pe_callB (fr_reprK (K := K) rfl (gu _) sysm hr) (by rfl) B.b_repr (by decide +kernel) (pa_cons (pv 10) pa_nil)) (nomark _)))))
    (pss_one (ps_ret pe_bl))
    pss_nil))))))))))
    (pss_one (ps_ret pe_bl)))), ?_⟩
  refine ⟨.ref a, rfl, a, ns, rfl, hs, sm, fun D L H0 e0 dk0 => ?_⟩
  refine qd_rng (K := K) (ds_cons ed_int ds_nil) ⟨by decide, by decide⟩ (fun i σ' H' => ∃ y2 y3 y4 y5 y6 y7 y8 y9 y10, σ' = [some (.ref a), some (.ref D), y2, y3, y4, y5, y6, y7, y8, y9, y10] ∧ Dk H' D L ns (100 * i))
    (fun H1 e1 => ⟨none, none, none, none, none, none, none, none, none, rfl, dk_ex e1 ⟨0, Nat.le_refl _, dk0⟩⟩) (fun i σ' H1 hi hw => ?_) (fun σ' H1 hw => q H1)
  obtain ⟨y2, y3, y4, y5, y6, y7, y8, y9, y10, rfl, dk⟩ := hw
  refine ⟨.ref D, rfl, D, L, ns, _, 8, rfl, dk, by omega, by decide, by decide, fun x1 sa sb H2 ey2 dk2 sh _ _ dsh => ?_⟩
  have s1 := sh.d1
  have s2 := sh.d8
  have s3 := sh.w1
  have s4 := sh.w8
  have ab : 1 ≤ sa * sb ∧ sa * sb ≤ 64 := ⟨by
    have := Int.mul_le_mul s1 s3 (by decide) (by omega)
    omega, by
    have m3 : sa * sb ≤ 8 * 8 := Int.mul_le_mul s2 s4 (by omega) (by decide)
    omega⟩
  have kl := knots_len sh
  refine qd_asg (K := K) (ed_op (ed_op (ed_var rfl dsh) ed_int (opD_ixT (d := .int sa) rfl)) (ed_op (ed_var rfl dsh) ed_int (opD_ixT (d := .int sb) rfl)) (opD_I (show CMul sa sb from Or.inr ⟨by omega, by omega⟩))) fun v4 H3 e3 d4 => ?_
  cases dp_intI d4
  have dk3 := dk_ex e3 dk2
  have dsh3 := dpm e3 dsh
  -- drawn pairs
  refine qy_asg (ey_lcN (K := K) (c := 2) (fun d => ∃ x y, d = .tuple [.int x, .int y] ∧ 0 ≤ x ∧ x < sa * sb ∧ 0 ≤ y ∧ y < sa * sb) (ds_cons ed_int ds_nil) ⟨by decide, by decide⟩ dk3 (fun x => rfl) (fun j H4 hj ey4 dk4 => ?_)) fun v5 H4 r => ?_
  · intro Q2 q2
    refine ⟨.ref D, rfl, .int (sa * sb), rfl, D, L, ns, _, _, rfl, dk4, by omega, ab.1, by omega, fun u1 H5 ey5 dk5 u10 u11 => ?_⟩
    refine ⟨.ref D, rfl, .int (sa * sb), rfl, D, L, ns, _, _, rfl, dk5, by omega, ab.1, by omega, fun u2 H6 ey6 dk6 u20 u21 => ⟨by show 2 ≤ sizeLine; decide, fun p hp => ?_⟩⟩
    exact q2 _ _ ⟨(ey5.trans ey6).trans (Ey.of (Ex.new hp)), dk_ex (Ex.new hp) dk6, _, .tup (SqT.of upd_same) (.cons (.int _) (.cons (.int _) .nil)), by simp [flat, flats], _, _, rfl, u10, u11, u20, u21⟩
  obtain ⟨l5, xs5, ds5, rfl, n5, hl5, hx5, ey4, dk4, len5, all5⟩ := r
  have dsh4 := dpy ey4 dsh3
  have neL : l5 ≠ L := fun z => by
    obtain ⟨b0, _, dk0⟩ := dk3
    have := dk0.ls
    rw [← z, n5] at this
    cases this
  -- the pairs at each knot
  refine qd_seqY (evy_n (en_call (ds_cons (ed_var rfl dsh4) ds_nil) ⟨sa, sb, sh, rfl, rfl⟩)) ?_
  rintro vk H5 ⟨lk, xk, rfl, nk, e5, hk, hxk⟩
  have nelk : lk ≠ l5 := fun z => by
    rw [z, hl5] at nk
    cases nk
  refine lst_loop (ds := knotsD sa sb) (.lst (SqL.of hk) hxk) (fun j σ' H' => ∃ y6 y7 y8 y9 y10 xs ds, σ' = [some (.ref a), some (.ref D), some (.int (i : Int)), some x1, some (.int (sa * sb)), some (.ref l5), y6, y7, y8, y9, y10] ∧ Et H5 H' ∧ H' lk = some (.lst xk) ∧ DaAll K H' xk (knotsD sa sb) ∧
      H' l5 = some (.lst xs) ∧ DaAll K H' xs ds ∧ (∀ d ∈ ds, flat d = true ∧ ∃ x y, d = .tuple [.int x, .int y] ∧ 0 ≤ x ∧ x < sa * sb ∧ 0 ≤ y ∧ y < sa * sb) ∧ ds.length ≤ 20 + 16 * j ∧ Dk H' D L ns (100 * (i + 1)))
    ⟨y6, y7, y8, y9, y10, xs5, ds5, rfl, Et.refl _, hk, hxk, e5 _ _ hl5, dpsm e5 hx5, all5, by rw [len5]; decide, dk_le (dk_ex e5 dk4) (by simp; omega)⟩ (fun j σ' H' hw => ?_) (fun j e x σ' H' he hw dx => ?_) (fun σ' H' hw => ?_)
  · obtain ⟨_, _, _, _, _, _, _, _, _, hk', hxk', _⟩ := hw
    exact .lst (SqL.of hk') hxk'
  · obtain ⟨z6, z7, z8, z9, z10, xs, ds, rfl, et, hk', hxk', hl', hx', all', len', dk'⟩ := hw
    obtain ⟨r, c, rfl, _, _, _⟩ := knots_mem sh (List.mem_of_getElem? he)
    have jl : j < (knotsD sa sb).length := (List.getElem?_eq_some_iff.mp he).1
    have dsh5 : Da K H' x1 (shd sa sb) := dpt et flat_knd (dpm e5 dsh4)
    have al := at_len sa sb (r : Int) (c : Int)
    have pl : (pairsOf' (atD sa sb (r : Int) (c : Int)) (atD sa sb (r : Int) (c : Int))).length ≤ 16 := by
      rw [Mm.pairs_len]
      exact Nat.mul_le_mul al al
    have lx := dps_len hx'
    refine sd_extV (K := K) rfl hl' (en_call (ds_cons (evn_d (en_call (ds_cons (ed_var rfl dsh5) (ds_cons (ed_var rfl dx) ds_nil)) ⟨sa, sb, r, c, sh, rfl, rfl⟩)) ds_nil) ⟨_, _, .lst _, flats_at _ _ _ _, by omega, rfl, rfl⟩) (show xs.length + (pairsOf' (atD sa sb (r : Int) (c : Int)) (atD sa sb (r : Int) (c : Int))).length ≤ 100000 by omega) fun vs H6 e6 dvs => ?_
    have hl6 := e6 _ _ hl'
    have t6 := Et.upd (o := .lst (xs ++ vs)) hl6
    have f1 : flats (knotsD sa sb) = true := knotsTo_flat _ _
    have new : ∀ d ∈ pairsOf' (atD sa sb (r : Int) (c : Int)) (atD sa sb (r : Int) (c : Int)), flat d = true ∧ ∃ x y, d = .tuple [.int x, .int y] ∧ 0 ≤ x ∧ x < sa * sb ∧ 0 ≤ y ∧ y < sa * sb := by
      intro d hd
      obtain ⟨u, hu, hd⟩ := List.mem_flatMap.mp hd
      obtain ⟨w, hw, rfl⟩ := List.mem_map.mp hd
      obtain ⟨y1, x1, rfl, k1⟩ := at_mem hu
      obtain ⟨y2, x2, rfl, k2⟩ := at_mem hw
      obtain ⟨p1, p2, _⟩ := bar_in sh k1
      obtain ⟨q1, q2, _⟩ := bar_in sh k2
      exact ⟨by simp [flat, flats], _, _, rfl, p1, p2, q1, q2⟩
    have both : ∀ d ∈ ds ++ pairsOf' (atD sa sb (r : Int) (c : Int)) (atD sa sb (r : Int) (c : Int)), flat d = true ∧ ∃ x y, d = .tuple [.int x, .int y] ∧ 0 ≤ x ∧ x < sa * sb ∧ 0 ≤ y ∧ y < sa * sb := fun d hd => by
      rcases List.mem_append.mp hd with h | h
      · exact all' d h
      · exact new d h
    refine ⟨_, _, _, _, _, _, ds ++ pairsOf' (atD sa sb (r : Int) (c : Int)) (atD sa sb (r : Int) (c : Int)), rfl, (et.trans (Et.ex e6)).trans t6, ?_, dpst t6 f1 (dpsm e6 hxk'), upd_same, ?_, both, by rw [List.length_append]; omega, dk_upd (dk_ex e6 dk') hl6 neL⟩
    · rw [upd_ne nelk]
      exact e6 _ _ hk'
    · exact dpst t6 (flats_all fun d hd => (both d hd).1) (dps_app (dpsm e6 hx') dvs)
  -- each pair is judged
  · obtain ⟨z6, z7, z8, z9, z10, xs, ds, rfl, et, hk', hxk', hl', hx', all', len', dk'⟩ := hw
    have dsh5 : Da K H' x1 (shd sa sb) := dpt et flat_knd (dpm e5 dsh4)
    refine sd_seqV (K := K) (k := 5) rfl (.lst (SqL.of hl') hx') (.lst _) (fun j σ' H6 => ∃ y8 y9 y10, σ' = [some (.ref a), some (.ref D), some (.int (i : Int)), some x1, some (.int (sa * sb)), some (.ref l5), z6, z7, y8, y9, y10] ∧ Ex H' H6) ⟨_, _, _, rfl, Ex.refl _⟩ (fun j σ' H6 hw => ?_) (fun j e x σ' H6 he hw dx => ?_) (fun σ' H6 hw => ?_)
    · obtain ⟨_, _, _, _, ex⟩ := hw
      exact dpm ex (.lst (SqL.of hl') hx')
    · obtain ⟨w8, w9, w10, rfl, ex⟩ := hw
      obtain ⟨_, x, y, rfl, x0, x1', y0, y1'⟩ := all' e (List.mem_of_getElem? he)
      refine gt_pair rfl dx fun vx vy dvx dvy => ?_
      cases dp_intI dvx
      cases dp_intI dvy
      have dsh6 := dpm ex dsh5
      refine qd_asg (K := K) (ed_call (ds_cons (ed_var rfl dsh6) (ds_cons (ed_var rfl (.int x)) (ds_cons (ed_var rfl (.int y)) ds_nil))) ⟨sa, sb, x, y, sh, x0, x1', y0, y1', rfl, rfl⟩) fun v10 H7 e7 d10 => ?_
      have dsh7 := dpm e7 dsh6
      refine s_skip (et_and (eq_test (K := K) (ed_op (ed_var rfl (.int x)) (ed_var rfl (.int y)) opD_neI)) (fun _ => eq_test (K := K) (ed_op (ed_cb (ds_cons (ed_call (ds_cons (ed_var rfl dsh7) (ds_cons (ed_var rfl (.int x)) (ds_cons (ed_var rfl (.int y)) ds_nil))) ⟨sa, sb, x, y, sh, x0, x1', y0, y1', rfl, rfl⟩) ds_nil) (cd_repr tame_bool))
        (ed_cb (ds_cons (ed_var rfl d10) ds_nil) (cd_repr tame_bool)) opD_neS))) ?_ fun H8 e8 => ⟨_, _, _, rfl, (ex.trans e7).trans e8⟩
      by_cases z : x = y
      · rw [decide_eq_true z]
        rfl
      · rw [opp_bars sh x0 x1' y0 y1' z, neS_same rfl, Bool.and_false]
    · obtain ⟨w8, w9, w10, rfl, ex⟩ := hw
      exact ⟨_, _, _, _, _, _, _, _, _, rfl, dk_ex ex dk'⟩

theorem def_mk {h : Heap} {x : Str} {st : Stmt} {f : Addr} {oc : Value} {od an : Option Addr} {osl : Array (Option Value)} {kV doc pm cdv ct : Value} (X : K.In h) (G : h.Ns mainGlobals mg) (a : PySem.W.nsIn K mainGlobals x = some (some (.ref f)))
    (l : K.lookup f = some ⟨oc, od, .func (PySem.W.fnOf x x (defArgs st) (defBody st) (defScope st) .none kV doc pm an cdv ct), osl⟩) (c : PySem.W.codeIn K cdv x = true) (k : PySem.W.keepIn K (.ref f) = true) : Def K mg x st :=
  ⟨f, _, fun_mk l c k, PySem.W.mg_of X G a⟩
end
theorem all_mk {l : PySem.W.OpenLaw} {w : World} {K : PySem.W.Frag} {h : Heap} {mg : Str → Option Value} {fa fL : Addr} (X : K.In h) (G : h.Ns mainGlobals mg) (hfa : mg "law" = some (.ref fa))
    {f0 f1 f2 f3 f4 f5 f6 f7 f8 f9 f10 : Addr}
    {od0 an0 od1 an1 od2 an2 od3 an3 od4 an4 od5 an5 od6 an6 od7 an7 od8 an8 od9 an9 od10 an10 od11 an11 : Option Addr} {sl0 sl1 sl2 sl3 sl4 sl5 sl6 sl7 sl8 sl9 sl10 sl11 : Array (Option Value)}
    {oc0 kV0 dc0 pm0 cd0 ct0 oc1 kV1 dc1 pm1 cd1 ct1 oc2 kV2 dc2 pm2 cd2 ct2 oc3 kV3 dc3 pm3 cd3 ct3 oc4 kV4 dc4 pm4 cd4 ct4 oc5 kV5 dc5 pm5 cd5 ct5 oc6 kV6 dc6 pm6 cd6 ct6 oc7 kV7 dc7 pm7 cd7 ct7 oc8 kV8 dc8 pm8 cd8 ct8 oc9 kV9 dc9 pm9 cd9 ct9 oc10 kV10 dc10 pm10 cd10 ct10 oc11 kV11 dc11 pm11 cd11 ct11 : Value}
    (a0 : PySem.W.nsIn K mainGlobals "ends_of" = some (some (.ref f0))) (l0 : K.lookup f0 = some ⟨oc0, od0, .func (PySem.W.fnOf "ends_of" "ends_of" (defArgs s_p_ends_of) (defBody s_p_ends_of) (defScope s_p_ends_of) .none kV0 dc0 pm0 an0 cd0 ct0), sl0⟩) (c0 : PySem.W.codeIn K cd0 "ends_of" = true) (k0 : PySem.W.keepIn K (.ref f0) = true)
    (a1 : PySem.W.nsIn K mainGlobals "are_opposite" = some (some (.ref f1))) (l1 : K.lookup f1 = some ⟨oc1, od1, .func (PySem.W.fnOf "are_opposite" "are_opposite" (defArgs s_p_are_opposite) (defBody s_p_are_opposite) (defScope s_p_are_opposite) .none kV1 dc1 pm1 an1 cd1 ct1), sl1⟩) (c1 : PySem.W.codeIn K cd1 "are_opposite" = true) (k1 : PySem.W.keepIn K (.ref f1) = true)
    (a2 : PySem.W.nsIn K mainGlobals "_law_deck" = some (some (.ref f2))) (l2 : K.lookup f2 = some ⟨oc2, od2, .func (PySem.W.fnOf "_law_deck" "_law_deck" (defArgs s_deck) (defBody s_deck) (defScope s_deck) .none kV2 dc2 pm2 an2 cd2 ct2), sl2⟩) (c2 : PySem.W.codeIn K cd2 "_law_deck" = true) (k2 : PySem.W.keepIn K (.ref f2) = true)
    (a3 : PySem.W.nsIn K mainGlobals "_law_draw" = some (some (.ref f3))) (l3 : K.lookup f3 = some ⟨oc3, od3, .func (PySem.W.fnOf "_law_draw" "_law_draw" (defArgs s_draw) (defBody s_draw) (defScope s_draw) .none kV3 dc3 pm3 an3 cd3 ct3), sl3⟩) (c3 : PySem.W.codeIn K cd3 "_law_draw" = true) (k3 : PySem.W.keepIn K (.ref f3) = true)
    (a4 : PySem.W.nsIn K mainGlobals "_law_one" = some (some (.ref f4))) (l4 : K.lookup f4 = some ⟨oc4, od4, .func (PySem.W.fnOf "_law_one" "_law_one" (defArgs s_one) (defBody s_one) (defScope s_one) .none kV4 dc4 pm4 an4 cd4 ct4), sl4⟩) (c4 : PySem.W.codeIn K cd4 "_law_one" = true) (k4 : PySem.W.keepIn K (.ref f4) = true)
    (a5 : PySem.W.nsIn K mainGlobals "_law_sheet" = some (some (.ref f5))) (l5 : K.lookup f5 = some ⟨oc5, od5, .func (PySem.W.fnOf "_law_sheet" "_law_sheet" (defArgs s_sheet) (defBody s_sheet) (defScope s_sheet) .none kV5 dc5 pm5 an5 cd5 ct5), sl5⟩) (c5 : PySem.W.codeIn K cd5 "_law_sheet" = true) (k5 : PySem.W.keepIn K (.ref f5) = true)
    (a6 : PySem.W.nsIn K mainGlobals "_law_ends" = some (some (.ref f6))) (l6 : K.lookup f6 = some ⟨oc6, od6, .func (PySem.W.fnOf "_law_ends" "_law_ends" (defArgs s_ends) (defBody s_ends) (defScope s_ends) .none kV6 dc6 pm6 an6 cd6 ct6), sl6⟩) (c6 : PySem.W.codeIn K cd6 "_law_ends" = true) (k6 : PySem.W.keepIn K (.ref f6) = true)
    (a7 : PySem.W.nsIn K mainGlobals "_law_knots" = some (some (.ref f7))) (l7 : K.lookup f7 = some ⟨oc7, od7, .func (PySem.W.fnOf "_law_knots" "_law_knots" (defArgs s_knots) (defBody s_knots) (defScope s_knots) .none kV7 dc7 pm7 an7 cd7 ct7), sl7⟩) (c7 : PySem.W.codeIn K cd7 "_law_knots" = true) (k7 : PySem.W.keepIn K (.ref f7) = true)
    (a8 : PySem.W.nsIn K mainGlobals "_law_at" = some (some (.ref f8))) (l8 : K.lookup f8 = some ⟨oc8, od8, .func (PySem.W.fnOf "_law_at" "_law_at" (defArgs s_at) (defBody s_at) (defScope s_at) .none kV8 dc8 pm8 an8 cd8 ct8), sl8⟩) (c8 : PySem.W.codeIn K cd8 "_law_at" = true) (k8 : PySem.W.keepIn K (.ref f8) = true)
    (a9 : PySem.W.nsIn K mainGlobals "_law_pairs" = some (some (.ref f9))) (l9 : K.lookup f9 = some ⟨oc9, od9, .func (PySem.W.fnOf "_law_pairs" "_law_pairs" (defArgs s_pairs) (defBody s_pairs) (defScope s_pairs) .none kV9 dc9 pm9 an9 cd9 ct9), sl9⟩) (c9 : PySem.W.codeIn K cd9 "_law_pairs" = true) (k9 : PySem.W.keepIn K (.ref f9) = true)
    (a10 : PySem.W.nsIn K mainGlobals "_law_are_opposite" = some (some (.ref f10))) (l10 : K.lookup f10 = some ⟨oc10, od10, .func (PySem.W.fnOf "_law_are_opposite" "_law_are_opposite" (defArgs s_are_opposite) (defBody s_are_opposite) (defScope s_are_opposite) .none kV10 dc10 pm10 an10 cd10 ct10), sl10⟩) (c10 : PySem.W.codeIn K cd10 "_law_are_opposite" = true) (k10 : PySem.W.keepIn K (.ref f10) = true)
    (a11 : PySem.W.nsIn K mainGlobals "law" = some (some (.ref fL))) (l11 : K.lookup fL = some ⟨oc11, od11, .func (PySem.W.fnOf "law" "law" (defArgs s_law) (defBody s_law) (defScope s_law) .none kV11 dc11 pm11 an11 cd11 ct11), sl11⟩) (c11 : PySem.W.codeIn K cd11 "law" = true) (k11 : PySem.W.keepIn K (.ref fL) = true)
    (z_len : PySem.W.nsIn K mainGlobals "len" = some none)
    (z_abs : PySem.W.nsIn K mainGlobals "abs" = some none)
    (z_min : PySem.W.nsIn K mainGlobals "min" = some none)
    (z_max : PySem.W.nsIn K mainGlobals "max" = some none)
    (z_range : PySem.W.nsIn K mainGlobals "range" = some none)
    (z_list : PySem.W.nsIn K mainGlobals "list" = some none)
    (z_tuple : PySem.W.nsIn K mainGlobals "tuple" = some none)
    (z_int : PySem.W.nsIn K mainGlobals "int" = some none)
    (z_bool : PySem.W.nsIn K mainGlobals "bool" = some none)
    (z_repr : PySem.W.nsIn K mainGlobals "repr" = some none)
    (z_isinstance : PySem.W.nsIn K mainGlobals "isinstance" = some none)
    (z_dict : PySem.W.nsIn K mainGlobals "dict" = some none)
    (z_sorted : PySem.W.nsIn K mainGlobals "sorted" = some none)
    (z_set : PySem.W.nsIn K mainGlobals "set" = some none)
    (z_divmod : PySem.W.nsIn K mainGlobals "divmod" = some none)
    (z_sum : PySem.W.nsIn K mainGlobals "sum" = some none)
    (z_any : PySem.W.nsIn K mainGlobals "any" = some none)
    (z_all : PySem.W.nsIn K mainGlobals "all" = some none)
    (z_str : PySem.W.nsIn K mainGlobals "str" = some none)
    (z_enumerate : PySem.W.nsIn K mainGlobals "enumerate" = some none)
    (z_zip : PySem.W.nsIn K mainGlobals "zip" = some none)
    (z_ValueError : PySem.W.nsIn K mainGlobals "ValueError" = some none)
    (z_Exception : PySem.W.nsIn K mainGlobals "Exception" = some none)
    (z_super : PySem.W.nsIn K mainGlobals "super" = some none)
    (z_issubclass : PySem.W.nsIn K mainGlobals "issubclass" = some none)
    (z_type : PySem.W.nsIn K mainGlobals "type" = some none) :
    ∃ fd : FuncData, (∀ (s : Shared) (v : Value), BindsTo s fd ⟨[v], []⟩ [("_law_script", v)]) ∧ ∀ base : Heap, K.In base → base.Ns mainGlobals mg → (∃ mm, base.Ns sysModules mm) → FnG l.prog w K mg base 4 fa fd ["_law_script"] (spLaw K) := by
  have e := hfa.symm.trans (PySem.W.mg_of X G a11)
  cases e
  have F := fun_mk (st := s_law) l11 c11 k11
  have B : Bl mg := ⟨PySem.W.mg_none_of X G z_len, PySem.W.mg_none_of X G z_abs, PySem.W.mg_none_of X G z_min, PySem.W.mg_none_of X G z_max, PySem.W.mg_none_of X G z_range, PySem.W.mg_none_of X G z_list, PySem.W.mg_none_of X G z_tuple, PySem.W.mg_none_of X G z_int, PySem.W.mg_none_of X G z_bool, PySem.W.mg_none_of X G z_repr, PySem.W.mg_none_of X G z_isinstance, PySem.W.mg_none_of X G z_dict, PySem.W.mg_none_of X G z_sorted, PySem.W.mg_none_of X G z_set, PySem.W.mg_none_of X G z_divmod, PySem.W.mg_none_of X G z_sum, PySem.W.mg_none_of X G z_any, PySem.W.mg_none_of X G z_all, PySem.W.mg_none_of X G z_str, PySem.W.mg_none_of X G z_enumerate, PySem.W.mg_none_of X G z_zip, PySem.W.mg_none_of X G z_ValueError, PySem.W.mg_none_of X G z_Exception, PySem.W.mg_none_of X G z_super, PySem.W.mg_none_of X G z_issubclass, PySem.W.mg_none_of X G z_type⟩
  have T_p_ends_of : Def K mg "ends_of" s_p_ends_of := def_mk X G a0 l0 c0 k0
  have T_p_are_opposite : Def K mg "are_opposite" s_p_are_opposite := def_mk X G a1 l1 c1 k1
  have T_deck : Def K mg "_law_deck" s_deck := def_mk X G a2 l2 c2 k2
  have T_draw : Def K mg "_law_draw" s_draw := def_mk X G a3 l3 c3 k3
  have T_one : Def K mg "_law_one" s_one := def_mk X G a4 l4 c4 k4
  have T_sheet : Def K mg "_law_sheet" s_sheet := def_mk X G a5 l5 c5 k5
  have T_ends : Def K mg "_law_ends" s_ends := def_mk X G a6 l6 c6 k6
  have T_knots : Def K mg "_law_knots" s_knots := def_mk X G a7 l7 c7 k7
  have T_at : Def K mg "_law_at" s_at := def_mk X G a8 l8 c8 k8
  have T_pairs : Def K mg "_law_pairs" s_pairs := def_mk X G a9 l9 c9 k9
  have T_are_opposite : Def K mg "_law_are_opposite" s_are_opposite := def_mk X G a10 l10 c10 k10
  refine ⟨PySem.W.fnOf "law" "law" (defArgs s_law) (defBody s_law) (defScope s_law) .none kV11 dc11 pm11 an11 cd11 ct11, fun s v => .of_eq rfl, fun base _ _ sm => ?_⟩
  have C_deck : Cal l.prog w K mg base 1 "_law_deck" (spDeck K) := c_deck T_deck B
  have C_draw : Cal l.prog w K mg base 1 "_law_draw" spDr := dr_of (c_draw T_draw B)
  have C_one : Cal l.prog w K mg base 2 "_law_one" (spOne K) := c_one T_one B C_draw
  have C_ends := c_ends (P := l.prog) (w := w) (base := base) T_ends B
  have C_p_ends_of := c_p_ends_of (P := l.prog) (w := w) (base := base) T_p_ends_of B
  exact ok_law F sm B C_deck C_draw (c_sheet T_sheet B C_draw C_one) (c_knots T_knots B) (c_at T_at B) (c_pairs T_pairs B) (c_are_opposite T_are_opposite B C_ends) (c_p_are_opposite T_p_are_opposite B C_p_ends_of)
end K04
open PySem PySem.W PyProof.Rows
set_option maxHeartbeats 0 in
theorem PySem.Challenge.cw_meshmend_k04_opposite_bars_holds : PySem.Challenge.rw_meshmend_k04_opposite_bars.Holds := by
  w_on; o_law; k_head; (case hw => w_witness2)
  k_fill
  refine Mm.walkG (l := PySem.Challenge.rw_meshmend_k04_opposite_bars) (n := 63) (k := 4) (x := "_law_script") (sp := K04.spLaw) (by decide +kernel) rfl (by decide) rfl ⟨rfl, by decide, by decide⟩ (fun w h Y => PySem.W.kIn_of Y) ?F (fun _ _ a ns hl _ hS => ⟨a, ns, rfl, hS, hl, fun _ => rfl⟩)
  case F =>
    intro w mg fa h KX G hmg
    refine' K04.all_mk KX G hmg ?a0 ?l0 ?c0 ?k0 ?a1 ?l1 ?c1 ?k1 ?a2 ?l2 ?c2 ?k2 ?a3 ?l3 ?c3 ?k3 ?a4 ?l4 ?c4 ?k4 ?a5 ?l5 ?c5 ?k5 ?a6 ?l6 ?c6 ?k6 ?a7 ?l7 ?c7 ?k7 ?a8 ?l8 ?c8 ?k8 ?a9 ?l9 ?c9 ?k9 ?a10 ?l10 ?c10 ?k10 ?a11 ?l11 ?c11 ?k11 ?z_len ?z_abs ?z_min ?z_max ?z_range ?z_list ?z_tuple ?z_int ?z_bool ?z_repr ?z_isinstance ?z_dict ?z_sorted ?z_set ?z_divmod ?z_sum ?z_any ?z_all ?z_str ?z_enumerate ?z_zip ?z_ValueError ?z_Exception ?z_super ?z_issubclass ?z_type
    (case a0 => k_is); (case l0 => k_is); (case c0 => k_is); (case k0 => k_is)
    (case a1 => k_is); (case l1 => k_is); (case c1 => k_is); (case k1 => k_is)
    (case a2 => k_is); (case l2 => k_is); (case c2 => k_is); (case k2 => k_is)
    (case a3 => k_is); (case l3 => k_is); (case c3 => k_is); (case k3 => k_is)
    (case a4 => k_is); (case l4 => k_is); (case c4 => k_is); (case k4 => k_is)
    (case a5 => k_is); (case l5 => k_is); (case c5 => k_is); (case k5 => k_is)
    (case a6 => k_is); (case l6 => k_is); (case c6 => k_is); (case k6 => k_is)
    (case a7 => k_is); (case l7 => k_is); (case c7 => k_is); (case k7 => k_is)
    (case a8 => k_is); (case l8 => k_is); (case c8 => k_is); (case k8 => k_is)
    (case a9 => k_is); (case l9 => k_is); (case c9 => k_is); (case k9 => k_is)
    (case a10 => k_is); (case l10 => k_is); (case c10 => k_is); (case k10 => k_is)
    (case a11 => k_is); (case l11 => k_is); (case c11 => k_is); (case k11 => k_is)
    (case z_len => k_is); (case z_abs => k_is); (case z_min => k_is); (case z_max => k_is)
    (case z_range => k_is); (case z_list => k_is); (case z_tuple => k_is); (case z_int => k_is)
    (case z_bool => k_is); (case z_repr => k_is); (case z_isinstance => k_is); (case z_dict => k_is)
    (case z_sorted => k_is); (case z_set => k_is); (case z_divmod => k_is); (case z_sum => k_is)
    (case z_any => k_is); (case z_all => k_is); (case z_str => k_is); (case z_enumerate => k_is)
    (case z_zip => k_is); (case z_ValueError => k_is); (case z_Exception => k_is); (case z_super => k_is)
    (case z_issubclass => k_is); (case z_type => k_is)

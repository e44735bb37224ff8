import PyProof.Rows.All
import Wide.All
import OpenK.AllK
import Wide.FinOn
import HandS.ForExc
import HandS.ForMost
import HandS.Conv
import HandS.ExcInit
import HandS.ExcField
import HandS.TryMany
import HandS.MakeKw
import HandS.MakeKwOnly
import HandS.Property
import HandS.IsInst
import HandS.Codes
import HandS.TupAny
import HandS.Wide
import HandS.SortInts
import HandS.Walk
import PySem.Challenge.RW_oneforall_k02_numbers_refused
set_option Elab.async false
set_option linter.all false
set_option maxRecDepth 100000
set_option maxHeartbeats 4000000
/-! Ob1: calls that know that nothing is being shown (so that repr can be told), repr of data, powers, several named except clauses. -/
namespace Ob
open PySem PySem.Spec PyProof.Rows L2

/-! ### nothing is being shown -/
/-- room for k calls, and no repr runs around -/
structure Gd (k : Nat) (A : Around) : Prop where
  room : Room k A
  gs : A.guards = some []
theorem Gd.mono {j k : Nat} {A : Around} (g : Gd k A) (h : j ≤ k) : Gd j A := ⟨g.room.mono h, g.gs⟩
theorem Gd.deeper {k : Nat} {A : Around} (g : Gd (k + 1) A) (env : Env) : Gd k (A.deeper env) := ⟨g.room.deeper env, g.gs⟩

/-- a def's promise where nothing is being shown -/
structure FnG (P : Program) (w : World) (K : PySem.W.Frag) (mg : Str → Option Value) (base : Heap) (CX : CXT) (k : Nat) (f : Addr) (fd : FuncData) (ps : List Str) (sp : Sp) : Prop where
  many : ∀ vs H Q E, sp vs H Q E → vs.length = ps.length
  goes : ∀ (A : Around) (out : List Env) (s : Shared) (H : Hp) (ar : Args) (us : List Value) (vs : List V) (Q : VK) (E : XK), Gd k A → Env0 P w K mg base A out s H → BindsTo s fd ar (ps.zip us) →
    Vals vs us → sp vs H Q E → codeAny (model P w) A (.call (.ref f) ar) (CR CX out P w H s Q E) s

section
variable {P : Program} {w : World} {K : PySem.W.Frag} {mg : Str → Option Value} {base : Heap} {CX : CXT} {k : Nat} {f : Addr} {fd : FuncData} {ps : List Str} {sp : Sp}
theorem FnG.of (F : FnOk P w K mg base CX k f fd ps sp) : FnG P w K mg base CX k f fd ps sp :=
  ⟨F.len, fun A out s H ar us vs Q E g => F.run A out s H ar us vs Q E g.room⟩
theorem FnG.mono {j : Nat} (F : FnG P w K mg base CX j f fd ps sp) (h : j ≤ k) : FnG P w K mg base CX k f fd ps sp :=
  ⟨F.many, fun A out s H ar us vs Q E g => F.goes A out s H ar us vs Q E (g.mono h)⟩

/-- a def by its body, where nothing is being shown -/
theorem fnG_of {x qual : Str} {st : Stmt} {N : List Str} (F : Fun K x qual st f fd) (S : FnScope N ps (defScope st)) (many : ∀ vs H Q E, sp vs H Q E → vs.length = ps.length)
    (body : ∀ (cdv : Value) (A : Around) (out : List Env) (s : Shared) (H : Hp) (vs : List V) (Q : VK) (E : XK), Gd k (A.deeper (envOfC qual (defScope st) s.heap.objs.size f cdv)) → sp vs H Q E →
      ∃ t, PSs (cxOf CX P w K mg base N qual (defScope st) f cdv A out s H E) (defBody st) t ∧ t { nx := fun _ H' => Q .non H', rt := Q } (start N vs) H) :
    FnG P w K mg base CX (k + 1) f fd ps sp := by
  obtain ⟨oc, od, kV, doc, pm, an, cdv, ct, osl, rfl, lk, hcd⟩ := F.ex
  refine ⟨many, fun A out s H ar us vs Q E g e0 bd rv want => ?_⟩
  have cnt := many _ _ _ _ want
  have inK : K.In s.heap := e0.mod.kin.keeps fun b o e => (e0.bs b o e).1
  have nl : s.heap.NoLimit := e0.mod.nolimit.keeps fun b o e => (e0.bs b o e).1
  have kinds : ∀ y ∈ ps.zip us, (defScope st).names.lookup y.1 = some .local ∨ ((defScope st).names.lookup y.1 = some .cell ∧ ((cellsFrom (s.heap.objs.size + 1) (defScope st).names []).lookup y.1).isSome = true) := by
    rintro ⟨n, v⟩ hy
    cases S.par n (List.of_mem_zip hy).1 with
    | inl q => exact .inl q
    | inr q => exact .inr ⟨q, PySem.W.cellsFrom_some _ _ _ (.inl q)⟩
  refine codeAny_call_function g.room.depth (inK _ _ lk) rfl S.co S.gen rfl (PySem.W.codeRec_of inK hcd) (bd _ _ _ _ ?_)
  refine wpAny_newFunctionEnv_cells S.kind kinds fun ev hev st1 ic => ?_
  subst hev
  refine ⟨nl.keeps ic.toInCall.keep, codeAny_func ?_⟩
  obtain ⟨t, pt, rd⟩ := body cdv A out s H vs Q E (g.deeper _) want
  have J0 : Inv (cxOf CX P w K mg base N qual (defScope st) f cdv A out s H E) [] (start N vs) H st1 := inv_start S g.room.hd e0 cnt rv ic
  refine wpAny_mono (pt.run [] st1 (start N vs) H _ J0 rd) (fun fl s2 hs => ?_) fun e s2 hs => hs
  cases fl with
  | ret u =>
    obtain ⟨v, σ2, H2, J, rv2, q⟩ := hs
    exact ⟨v, H2, J.os, J.bare, J.base, J.hok, rv2, q⟩
  | next =>
    obtain ⟨σ2, H2, J, q⟩ := hs
    exact ⟨V.non, H2, J.os, J.bare, J.base, J.hok, rfl, q⟩
  | brk =>
    obtain ⟨_, _, _, no⟩ := hs
    exact False.elim no
  | cont =>
    obtain ⟨_, _, _, no⟩ := hs
    exact False.elim no
/-- .. and nothing that is raised leaves it -/
theorem fnG_ok {x qual : Str} {st : Stmt} {N : List Str} (F : Fun K x qual st f fd) (S : FnScope N ps (defScope st)) (many : ∀ vs H Q E, sp vs H Q E → vs.length = ps.length)
    (body : ∀ (cdv : Value) (A : Around) (out : List Env) (s : Shared) (H : Hp) (vs : List V) (Q : VK) (E : XK), Gd k (A.deeper (envOfC qual (defScope st) s.heap.objs.size f cdv)) → sp vs H Q E →
      ∃ t, PSs (cxOf CX0 P w K mg base N qual (defScope st) f cdv A out s H E).nox (defBody st) t ∧ t { nx := fun _ H' => Q .non H', rt := Q } (start N vs) H) :
    FnG P w K mg base CX0 (k + 1) f fd ps sp := by
  refine fnG_of F S many fun cdv A out s H vs Q E g want => ?_
  obtain ⟨t, h, q⟩ := body cdv A out s H vs Q E g want
  exact ⟨t, h.nox, q⟩
end

section
variable {X : Cx} {CX : CXT} {k : Nat} {f : Addr} {fd : FuncData} {ps : List Str} {sp : Sp} {dvs : List V} {ds : List Value} {E : XK} {x : Str} {p pos : Pos} {e : Expr} {es : List Expr} {t : TA}
theorem goG {pins : List (Addr × Obj)} {σ : L2.St} {H : Hp} {s : Shared} {Q : VK} {us : List Value} {vs : List V} (F : FnG X.prog X.w X.K X.mg X.base CX k f fd ps sp) (g : Gd k X.A) (bd : Binds X.K fd ps ds) (dv : Vals dvs ds) (px : Passes CX X E)
    (J : Inv X pins σ H s) (rv : Vals vs us) (want : sp (vs ++ dvs) H Q E) : wpAny (model X.prog X.w) X.A (call (.ref f) us) (EP X pins σ Q) X.xe s := by
  have rv2 : Vals (vs ++ dvs) (us ++ ds) := rv.append dv
  have cnt : (us ++ ds).length = ps.length := rv2.length.symm.trans (F.many _ _ _ _ want)
  refine wpAny_call (codeAny_mono (F.goes X.A X.stack s H ⟨us, []⟩ (us ++ ds) (vs ++ dvs) Q E g J.env0 (bd s us J.kIn cnt) rv2 want) ?_)
  intro r s2 hq
  match r, hq with
  | .error er, hq => exact px pins σ H s er s2 J hq
  | .ok (.ret u), hq => exact J.after hq
  | .ok .next, hq => exact False.elim hq
  | .ok .brk, hq => exact False.elim hq
  | .ok .cont, hq => exact False.elim hq
/-- f(e, ..) -/
theorem pe_callG (F : FnG X.prog X.w X.K X.mg X.base CX k f fd ps sp) (g : Gd k X.A) (hg : Gl X x) (hm : X.mg x = some (.ref f)) (hk : PySem.W.keepIn X.K (.ref f) = true) (bd : Binds X.K fd ps ds) (dv : Vals dvs ds) (px : Passes CX X E)
    (pa : PA X (e :: es) t) (hdb : (x == ("__debug__" : Str)) = false := by decide) (st : starEach (e :: es) X.env = (false, eval e X.env) :: starEach es X.env := by rfl)
    (pl : (backTo pos (starEach es X.env)).any (·.1) = false := by rfl) : PE X (.Call (.Name x p) (e :: es) [] pos) (tCall sp dvs E t) := by
  refine ⟨fun pins s σ H Q J h => wpAny_Call_Name_kw (ld_glob J hg hm ?_ hdb)⟩
  refine PySem.W.callWith_K (h₀ := X.base) J.ok.mod.kin hk (thn (pa.run pos pins s σ H _ J h) ?_) st pl
  rintro us s1 ⟨vs, H1, J1, rv, q⟩
  exact ⟨J1.kIn, goG F g bd dv px J1 rv q⟩
end

/-! ### the end of a law -/
theorem lawG_call {P : Program} {w : World} {K : PySem.W.Frag} {mg mb : Str → Option Value} {k : Nat} {fa a : Addr} {fd : FuncData} {x : Str} {sp : Sp} {s₁ : Shared} {vs : List Value} {ns : List Int}
    (inK : K.In s₁.heap) (gl : s₁.heap.Ns mainGlobals mg) (bl : s₁.heap.Ns builtinsNs mb) (bb : ∀ x : Str, x ≠ "__name__" → mb x = bootBuiltins x) (nl : s₁.heap.NoLimit) (gn : s₁.gens = #[])
    (la : s₁.heap.get? a = some { cls := .type "list", data := .seq vs.toArray }) (ia : IntsAre vs ns) (few : ns.length ≤ sizeLine) (g : Gd k callerA)
    (F : ∀ base : Heap, K.In base → base.Ns mainGlobals mg → FnG P w K mg base CX0 k fa fd [x] sp) (bd : ∀ (s : Shared) (u : Value), BindsTo s fd ⟨[u], []⟩ [(x, u)])
    (want : ∀ H : Hp, Only H → SqL K H a (ns.map V.int) → sp [.ref a] H (fun v _ => v = .bl true) fun _ _ _ => False) :
    codeAny (model P w) callerA (.call (.ref fa) ⟨[.ref a], []⟩) (fun r s' => r = .ok (.ret (.bool true)) ∧ OldK s₁.heap s'.heap ∧ s'.os = s₁.os ∧ AllBare s'.gens) s₁ := by
  have rv := vals_ints ia
  have cnt := ia.length
  have go : ∀ H : Hp, Only H → SqL K H a (ns.map V.int) → HOk P w H s₁.heap → (∀ b, H b ≠ none → b = a) → (H a ≠ none → K.lookup a = none) →
      codeAny (model P w) callerA (.call (.ref fa) ⟨[.ref a], []⟩) (fun r s' => r = .ok (.ret (.bool true)) ∧ OldK s₁.heap s'.heap ∧ s'.os = s₁.os ∧ AllBare s'.gens) s₁ := by
    intro H only sq hok onlyA notK
    have at_ : ∀ {b : Addr}, H b ≠ none → b = a := fun {b} h => onlyA b h
    have out : ∀ {b : Addr} {o : Obj} {es : Array DictEntry} {ep : Nat}, s₁.heap.get? b = some o → o.data = .dict es ep → H b = none := by
      intro b o es ep e d
      apply Classical.byContradiction
      intro h
      have eb := at_ h
      subst eb
      rw [la] at e
      cases e
      cases (show Data.seq vs.toArray _ = Data.dict es ep from d)
    have nsB : ∀ {b : Addr} {m : Str → Option Value}, s₁.heap.Ns b m → (hidT s₁.heap H).Ns b m := by
      rintro b m ⟨o, es, ep, e, d, r⟩
      exact ⟨o, es, ep, hidT_get e (out e d), d, r⟩
    have inB : K.In (hidT s₁.heap H) := by
      intro b o e
      refine hidT_get (inK b o e) ?_
      apply Classical.byContradiction
      intro h
      have eb := at_ h
      subst eb
      rw [notK h] at e
      cases e
    obtain ⟨mc, nl1, nl2⟩ := nl
    have M : Mod K mg (hidT s₁.heap H) := ⟨inB, nsB gl, ⟨mb, nsB bl, bb⟩, ⟨mc, nsB nl1, nl2⟩⟩
    have none_in : ∀ {b : Addr}, b ∉ frs ([] : List Env) := fun z => nomatch z
    have e0 : Env0 P w K mg (hidT s₁.heap H) callerA [] s₁ H :=
      ⟨rfl, M, fun b o e => of_hidT e, Nat.le_of_eq (hidT_size _ _), trivial, fun b hb => absurd hb none_in, hok, .of_eq gn⟩
    refine codeAny_mono ((F _ inB (nsB gl)).goes callerA [] s₁ H ⟨[.ref a], []⟩ [.ref a] [.ref a] _ _ g e0 (bd s₁ (.ref a)) (.cons rfl .nil) (want H only sq)) ?_
    intro r s2 h
    match r, h with
    | .error e, h => exact (show False from h).elim
    | .ok .next, h => exact False.elim h
    | .ok .brk, h => exact False.elim h
    | .ok .cont, h => exact False.elim h
    | .ok (.ret u), ⟨v, H2, os, bare, un, hok2, ru, q⟩ =>
      obtain rfl : v = .bl true := q
      obtain rfl : u = Value.bool true := ru
      refine ⟨rfl, OldK.of_keep fun b o e => ?_, os, bare⟩
      rcases only b with z | ⟨ob, xs, z⟩
      · exact un.keep b o e z none_in (fun y => nomatch y)
      · obtain ⟨e1, _⟩ := hok b _ z
        obtain ⟨e2, _⟩ := hok2 b _ (un.frzs b ob _ z)
        exact e2.trans (e1.symm.trans e)
  cases hk : K.lookup a with
  | some o =>
    have e := inK a o hk
    rw [la] at e
    cases e
    have nothing : ∀ b, (fun _ => none : Hp) b = none := fun _ => rfl
    exact go (fun _ => none) (fun _ => .inl rfl) (.inr ⟨_, vs.toArray, _, hk, rfl, rfl, rfl, by rw [List.size_toArray, cnt]; exact few, by simpa using rv⟩) (fun b u z => nomatch (show (none : Option HO) = some u from z)) (fun b z => absurd rfl z) fun z => absurd rfl z
  | none =>
    have hit : ∀ {b : Addr}, b = a → (fun b => if b = a then some (HO.frz { cls := .type "list", data := .seq vs.toArray } (.lst (ns.map V.int))) else none : Hp) b = some (HO.frz { cls := .type "list", data := .seq vs.toArray } (.lst (ns.map V.int))) := fun e => if_pos e
    have miss : ∀ {b : Addr}, b ≠ a → (fun b => if b = a then some (HO.frz { cls := .type "list", data := .seq vs.toArray } (.lst (ns.map V.int))) else none : Hp) b = none := fun e => if_neg e
    refine go (fun b => if b = a then some (.frz { cls := .type "list", data := .seq vs.toArray } (.lst (ns.map V.int))) else none) (fun b => ?_) (.inl (.inr ⟨_, hit rfl⟩)) (fun b u z => ?_) (fun b z => ?_) fun _ => hk
    · rcases Classical.em (b = a) with h | h
      · exact .inr ⟨_, _, hit h⟩
      · exact .inl (miss h)
    · rcases Classical.em (b = a) with h | h
      · have z2 := Option.some.inj ((hit h).symm.trans z)
        subst z2
        subst h
        exact ⟨la, by rw [List.length_map]; exact few, vs, _, rv, la⟩
      · exact nomatch ((miss h).symm.trans z)
    · rcases Classical.em (b = a) with h | h
      · exact h
      · exact absurd (miss h) z

/-- the goal that k_head leaves, from the law's promise -/
theorem walkG {l : PySem.W.OpenLaw} {n k : Nat} {q : Program} {loose : List Str} {XP : (Str → Option Value) → Heap → Prop} {YP : World → Heap → Prop} {d : DefRec} {K : Params → PySem.W.Frag} {sp : PySem.W.Frag → Sp} {x : Str}
    (most : l.most = some n) (few : n ≤ sizeLine) (nod : d.params.defaults = []) (g : Gd k callerA) (yk : ∀ (w : World) (h : Heap), YP w h → (K w.params).In h)
    (F : ∀ (w : World) (mg : Str → Option Value) (fa : Addr) (h : Heap), (K w.params).In h → h.Ns mainGlobals mg → mg d.name = some (.ref fa) →
      ∃ fd : FuncData, (∀ (s : Shared) (u : Value), BindsTo s fd ⟨[u], []⟩ [(x, u)]) ∧
        ∀ base : Heap, (K w.params).In base → base.Ns mainGlobals mg → FnG l.prog w (K w.params) mg base CX0 k fa fd [x] (sp (K w.params)))
    (want : ∀ (K : PySem.W.Frag) (H : Hp) (a : Addr) (ns : List Int), ns.length ≤ n → Only H → SqL K H a (ns.map V.int) → sp K [.ref a] H (fun v _ => v = .bl true) fun _ _ _ => False) :
    PySem.W.WalkO q loose XP YP l.row.toRowW d [] (fun f vs => PySem.call f vs) := by
  refine Att.attach_call most nod ?_
  intro w s0 s1 mg mb fa o pm cd doc a vs ns G Y ho hd hcd hmg hobj hints hlen hg
  have inK := yk w _ Y
  obtain ⟨fd, bd, hF⟩ := F w mg fa _ inK G.T.g hmg
  exact lawG_call inK G.T.g G.T.b G.T.builtins G.T.nolimit hg hobj hints (Nat.le_trans hlen few) g hF bd (fun H only sq => want _ H a ns hlen only sq)

end Ob
set_option Elab.async false
set_option linter.all false
set_option maxRecDepth 100000
set_option maxHeartbeats 4000000
namespace Ob
open PySem PySem.Spec PyProof.Rows L2
/-! ### repr of data -/
section
variable {X : Cx}
theorem noDict : ∀ (d : PyData) {K : PySem.W.Frag} {H : Hp} {x : V}, Dp K H x d → d.hasDict = false := by
  have main : ∀ (n : Nat) (d : PyData), sizeOf d ≤ n → ∀ {K : PySem.W.Frag} {H : Hp} {x : V}, Dp K H x d → d.hasDict = false := by
    intro n
    induction n with
    | zero => intro d hd; cases d <;> simp at hd
    | succ n ih =>
      intro d hd K H x h
      have all : ∀ (ds : List PyData), sizeOf ds ≤ n → ∀ {xs : List V}, DpAll K H xs ds → PyData.hasDictAll ds = false := by
        intro ds
        induction ds with
        | nil => intro _ xs _; simp only [PyData.hasDictAll]
        | cons y ys ihy =>
          intro hs xs hx
          cases hx with
          | cons h1 h2 =>
            have e1 : PyData.hasDict y = false := ih y (by simp at hs; omega) h1
            have e2 := ihy (by simp at hs; omega) h2
            simp only [PyData.hasDictAll, e1, e2, Bool.or_self]
      cases h with
      | non => simp only [PyData.hasDict]
      | bl b => simp only [PyData.hasDict]
      | int i => simp only [PyData.hasDict]
      | str z => simp only [PyData.hasDict]
      | lst h1 h2 => simp only [PyData.hasDict]; exact all _ (by simp at hd; omega) h2
      | tup h1 h2 => simp only [PyData.hasDict]; exact all _ (by simp at hd; omega) h2
  exact fun d => main _ d (Nat.le_refl _)
/-- repr(x), x data -/
def rRepr (K : PySem.W.Frag) : List V → Hp → VK → Prop := fun xs H Q => ∃ x d, xs = [x] ∧ Dp K H x d ∧ d.showable = true ∧ d.depth ≤ 50 ∧ d.shown.length ≤ sizeLine ∧ Q (.str d.shown) H
theorem call_repr {k : Nat} (g : Gd k X.A) : CallR X (.builtin "repr") (rRepr X.K) := by
  intro pins s σ H xs us Q I r h
  obtain ⟨x, d, rfl, hd, sh, dep, sz, q⟩ := h
  obtain ⟨u, rfl, ru⟩ : ∃ u, us = [u] ∧ RelV x u := by
    cases r with
    | cons a b => cases b; exact ⟨_, rfl, a⟩
  have nd := noDict d hd
  have un := g.room.un
  obtain ⟨as, rd⟩ := Dp.reads I d x u hd ru
  have fin : ∀ t : Nat, EP X pins σ Q (.str d.shown s.toks) { s with toks := t } := fun t => ⟨.str d.shown, H, I.tok t, ⟨_, rfl⟩, q⟩
  cases hd with
  | non =>
    cases ru
    exact PySem.P.repr_of_none ⟨.str "None", H, I.tok _, ⟨_, rfl⟩, by simpa only [PyData.shown] using q⟩
  | bl b =>
    cases ru
    exact PySem.P.repr_of_bool ⟨.str (if b then "True" else "False"), H, I.tok _, ⟨_, rfl⟩, by simpa only [PyData.shown] using q⟩
  | int i =>
    obtain ⟨t, rfl⟩ := ru
    exact PySem.P.repr_of_int (by simpa [PyData.showable] using sh) ⟨.str (toString i), H, I.tok _, ⟨_, rfl⟩, by simpa only [PyData.shown] using q⟩
  | str z =>
    obtain ⟨t, rfl⟩ := ru
    exact PySem.P.repr_of_str ⟨.str (reprText z), H, I.tok _, ⟨_, rfl⟩, by simpa only [PyData.shown] using q⟩ (by simpa only [PyData.shown] using sz)
  | lst h1 h2 =>
    cases ru
    refine repr_of_reads' rd sh (fun z => by rw [nd] at z; cases z) g.gs (by omega) (fun _ _ e => e) (fun h2 u tk kp => ?_) sz
    exact ⟨.str _, H, I.kept (t' := tk) kp, ⟨_, rfl⟩, q⟩
  | tup h1 h2 =>
    cases ru
    refine repr_of_reads' rd sh (fun z => by rw [nd] at z; cases z) g.gs (by omega) (fun _ _ e => e) (fun h2 u tk kp => ?_) sz
    exact ⟨.str _, H, I.kept (t' := tk) kp, ⟨_, rfl⟩, q⟩

/-! ### powers of ints of up to a thousand bits -/
def CPowW (i j : Int) : Prop := 0 ≤ j ∧ j ≤ 1000 ∧ i.natAbs.log2 < 1000
theorem op_powW : OpR X (binaryOp .Pow) (rI CPowW fun i j => .int (i ^ j.toNat)) := opI fun i j _ _ _ _ _ hc q => by
  obtain ⟨h0, h1, h2⟩ := hc
  refine pow_int h0 ?_ q
  have b : Builtin.Int.intBits i ≤ i.natAbs.log2 + 1 := by
    unfold Builtin.Int.intBits
    split <;> omega
  have c : (Builtin.Int.intBits i : Int) * j ≤ 1000 * 1000 := Int.mul_le_mul (by omega) h1 h0 (by decide)
  omega
theorem log2_lt {i : Int} {k : Nat} (hk : 0 < k) (h : i.natAbs < 2 ^ k) : i.natAbs.log2 < k := PySem.Flt.log2_lt_of hk h
end
end Ob
set_option Elab.async false
set_option linter.all false
set_option maxRecDepth 100000
set_option maxHeartbeats 4000000
namespace Ob
open PySem PySem.Spec PyProof.Rows L2
/-! ### try: .. except A as e: .. except B as e: .. -/
/-- one named clause: the class, the slot of the name, the suite's reading -/
structure Cl where
  cls : Value
  slot : Nat
  read : Addr → Value → Option Addr → TS
/-- the ends of a suite: the name goes -/
def unslot (i : Nat) (D : Ends) : Ends where
  nx := fun τ H => D.nx (τ.set i none) H
  rt := D.rt
  bk := fun τ H => D.bk (τ.set i none) H
  ct := fun τ H => D.ct (τ.set i none) H
/-- what the named clauses wish of an exception, one behind the other -/
def wCls (K : PySem.W.Frag) (Wo : WX) (D : Ends) : List Cl → WX
  | [] => Wo
  | c :: more => fun k d τ H => ∃ b, PySem.W.exmOne K k c.cls = some b ∧ (b = true → ∀ a, H a = none → c.read a k d (unslot c.slot D) (τ.set c.slot (some (.ref a))) H) ∧ (b = false → wCls K Wo D more k d τ H)
inductive ClsOk (X : Cx) : List ExceptHandler → List Cl → Prop
  | nil : ClsOk X [] []
  | cons {x n : Str} {c : Cl} {first : Stmt} {suite : List Stmt} {np hp : Pos} {hs : List ExceptHandler} {cs : List Cl} (nm : Names X x c.cls) (sl : X.N[c.slot]? = some n) (lc : X.env.kindOf n = some .local)
      (rd : ∀ (a : Addr) (oe : Obj) (k : Value) (d : Option Addr) (pn : List (Addr × Obj)), Zc k d oe → (∃ vs, oe.data = .fields vs) → PSs (X.suite a ((a, oe) :: pn)) (first :: suite) (c.read a k d)) (more : ClsOk X hs cs) :
      ClsOk X (.ExceptHandler (some (.Name x np)) (some n) (first :: suite) hp :: hs) (c :: cs)
section
variable {X : Cx} {body : List Stmt} {hd1 : ExceptHandler} {hds : List ExceptHandler} {cs : List Cl} {pos : Pos} {tb : WX → TS} {Wo : WX}
theorem ps_try_cls (stk : X.stack = X.env :: X.outer) (own : X.env.frame = some X.env.locals) (nd : X.N.Nodup) (out : Takes X Wo)
    (bd : ∀ (W : WX) (pn : List (Addr × Obj)) (xe : Value → Shared → Prop), Takes (X.tr pn xe) W → PassesOwn (model X.prog X.w) X.A X.env xe → PSs (X.tr pn xe) body (tb W))
    (ok : ClsOk X (hd1 :: hds) cs) : PS X (.Try body (hd1 :: hds) [] [] pos) (fun D τ H => tb (wCls X.K Wo D cs) D τ H) := by
  refine ⟨fun pins s τ H D I rd => ?_⟩
  have xok := I.ok
  have frm : X.A.frames = some (X.env :: X.outer) := by rw [xok.frames, stk]
  refine wpAny_Try_except ?_
  refine wpAny_mono ((bd (wCls X.K Wo D cs) (X.pn ++ pins) (fun e s1 => wpAny (model X.prog X.w) X.A (noteFrame e X.env) (fun _ s2 => wpAny (model X.prog X.w) X.A (setFlight e none) (fun _ s3 =>
    wpAny (model X.prog X.w) X.A (handleBy e X.env (hd1 :: hds)) (SP X pins D) X.xe s3) X.xe s2) X.xe s1) (fun u s' air => ?_) PassesOwn.looking).run [] s τ H D (I.toTry _) rd) (fun f s1 fin => ?_) (fun e s1 he => he)
  · obtain ⟨a, B, sI, pins2, τ2, H2, k, d, rfl, J0, bare, up, sky0, fresh, os, gens, wish⟩ := air
    have J : Inv X pins τ2 H2 sI := J0.ofTry xok
    have sky : Sky B (X.env :: X.outer) a (Zc k d) X.env.locals s'.heap := stk ▸ sky0
    show wpAny (model X.prog X.w) X.A (noteFrame (.ref a) X.env) _ _ _
    refine Sky.land Zc.steady frm own sky fun h3 fl3 up3 => ?_
    have J3 : Inv X pins τ2 H2 { s' with heap := h3 } := J.landed bare fl3.1 (up.trans up3) os gens
    obtain ⟨oe3, fv3, at3, z3, dat3⟩ := fl3.there
    have off : ∀ {h : Heap} {o : Obj} {fv : Array Value}, h.FunFrames B (X.env :: X.outer) → h.get? a = some o → o.data = .fields fv → a ∉ frs (X.env :: X.outer) := by
      intro h o fv ff at_ dat mem
      obtain ⟨_, o2, at2, no⟩ := ff.mem mem
      cases at_.symm.trans at2
      exact no _ dat
    have apart := off fl3.2.2.1 at3 dat3
    have notL : a ≠ X.env.locals := fun z => apart (List.mem_filterMap.mpr ⟨X.env, List.mem_cons_self, by rw [own, z]⟩)
    have notF : a ∉ X.fs := by
      intro mem
      obtain ⟨e, he, q⟩ := List.mem_filterMap.mp mem
      exact apart (List.mem_filterMap.mpr ⟨e, List.mem_cons_of_mem _ he, q⟩)
    have S3 := J3.suite at3 dat3 fresh notL notF
    have each : ∀ {hl : List ExceptHandler} {cl : List Cl}, ClsOk X hl cl → wCls X.K Wo D cl k d τ2 H2 → wpAny (model X.prog X.w) X.A (handleBy (.ref a) X.env hl) (SP X pins D) X.xe { s' with heap := h3 } := by
      intro hl cl good
      induction good with
      | nil =>
        intro wish
        refine wpAny_handleBy_nil ?_
        obtain ⟨k1, k2, k3, oe, fv, T, oT, ts', he, hz, hdat, h1, hr⟩ := id fl3
        unfold PySem.passOn
        refine wpAny_bind (wpAny_field he hdat h1 ?_)
        rw [if_neg (show ¬ ((Value.ref T == Value.none) = true) from by simp)]
        have gone : wpAny (model X.prog X.w) X.A (setFlight (.ref a) X.env.frame) (fun _ s4 => wpAny (model X.prog X.w) X.A (throw (.ref a) : Sem Flow) (SP X pins D) X.xe s4) X.xe { s' with heap := h3 } := by
          rw [own]
          refine HandSPX.setFlight_upZ fl3 fun h4 held up4 => wpAny_throw (out _ _ ?_)
          exact ⟨a, B, sI, pins, τ2, H2, k, d, rfl, J, bare, (up.trans up3).trans up4, .inr (.inr (stk ▸ held)), fresh, os, gens, wish⟩
        first
          | exact wpAny_bind (wpAny_pure (wpAny_bind gone))
          | exact wpAny_bind gone
      | @cons x n c first suite np hp hs2 cs2 nm sl lc rdS more ih =>
        intro wish
        obtain ⟨b, isB, yes, no⟩ := wish
        refine wpAny_handleBy_cons (codeAny_handlers_test ?_) (by intro q; cases q)
        have ty : PySem.W.Looks (model X.prog X.w) h3 (typeOf (.ref a)) k := fun A Q E s kp q => wpAny_typeOf_ref (kp _ _ at3) (by rw [z3.1]; exact q)
        have ask := PySem.W.exm_one (M := model X.prog X.w) (J3.kIn) ty isB
        have named : ∀ {Q : Value → Shared → Prop} {E : Value → Shared → Prop}, Q c.cls { s' with heap := h3 } → wpAny (model X.prog X.w) (X.A.mark (some (.ref a))) (eval (.Name x np) X.env) Q E { s' with heap := h3 } := by
          intro Q E q
          obtain ⟨hg, hdbg, hm | ⟨hm, hv, hnn⟩⟩ := nm
          · exact ld_glob (X := X.suite a ((a, oe3) :: (X.pn ++ pins))) S3 hg hm q hdbg
          · exact ld_blt (X := X.suite a ((a, oe3) :: (X.pn ++ pins))) S3 hg hm hv q hnn hdbg
        refine named (ask.here ?_)
        cases b with
        | false =>
          show wpAny _ X.A (handleBy (.ref a) X.env hs2) _ _ _
          exact ih (no rfl)
        | true =>
          refine codeAny_handlers_suite_as ?_
          refine HandSPX.lands_againZ fl3 fun h4 fl4 up4 => ?_
          have J4 : Inv X pins τ2 H2 { s' with heap := h4 } := J.landed bare fl4.1 ((up.trans up3).trans up4) os gens
          obtain ⟨oe4, fv4, at4, z4, dat4⟩ := fl4.there
          have S4 := J4.suite at4 dat4 fresh notL notF
          refine store_ok (X := X.suite a ((a, oe4) :: (X.pn ++ pins))) (v := .ref a) S4 nd sl (.inl lc) rfl (fun s5 S5 => ?_) (.inr lc)
          refine wpAny_mono ((rdS a oe4 k d (X.pn ++ pins) z4 ⟨_, dat4⟩).run [] s5 _ H2 _ S5 (yes rfl a fresh)) (fun f s6 fin => ?_) (fun _ _ z => False.elim z)
          have clear : ∀ {τ6 : L2.St} {H6 : Hp} {Q : Shared → Prop}, Inv (X.suite a ((a, oe4) :: (X.pn ++ pins))) [] τ6 H6 s6 → (∀ s7, Inv X pins (τ6.set c.slot none) H6 s7 → Q s7) →
              wpAny (model X.prog X.w) X.A (do bindName X.env n .none; unbindBehindTheSuite X.env n hp) (fun _ s7 => Q s7) X.xe s6 := fun {τ6 H6 Q} S6 q => gone_ok (S6.unsuite xok) nd sl lc q
          cases f with
          | next =>
            obtain ⟨τ6, H6, S6, q6⟩ := fin
            exact clear S6 fun s7 J7 => ⟨_, _, J7, q6⟩
          | brk =>
            obtain ⟨τ6, H6, S6, q6⟩ := fin
            exact clear S6 fun s7 J7 => ⟨_, _, J7, q6⟩
          | cont =>
            obtain ⟨τ6, H6, S6, q6⟩ := fin
            exact clear S6 fun s7 J7 => ⟨_, _, J7, q6⟩
          | ret u =>
            obtain ⟨v6, τ6, H6, S6, r6, q6⟩ := fin
            exact clear S6 fun s7 J7 => ⟨_, _, _, J7, r6, q6⟩
    exact each ok wish
  · cases f with
    | next =>
      obtain ⟨τ2, H2, J, q⟩ := fin
      exact wpAny_execs_nil ⟨τ2, H2, J.ofTry xok, q⟩
    | brk =>
      obtain ⟨τ2, H2, J, q⟩ := fin
      exact ⟨τ2, H2, J.ofTry xok, q⟩
    | cont =>
      obtain ⟨τ2, H2, J, q⟩ := fin
      exact ⟨τ2, H2, J.ofTry xok, q⟩
    | ret u =>
      obtain ⟨v, τ2, H2, J, r, q⟩ := fin
      exact ⟨v, τ2, H2, J.ofTry xok, r, q⟩
end
end Ob
set_option Elab.async false
set_option linter.all false
set_option maxRecDepth 100000
set_option maxHeartbeats 4000000
namespace Ob
open PySem PySem.Spec PyProof.Rows L2
/-! ### own errors that store one value -/
/-- the error's own dict -/
def erD (v : V) : HO := .xd [(("value" : Str), v)]
theorem del_made {H : Hp} {a d : Addr} {o u1 u2 : HO} {z : HO} (hn : H a = none) (hd : H d = none) (ne : d ≠ a) : upd (del (upd (upd (upd H a o) d u1) a u2) a) d z = upd H d z := by
  funext b
  by_cases h1 : b = d
  · rw [h1, upd_same, upd_same]
  · rw [upd_ne h1, upd_ne h1]
    by_cases h2 : b = a
    · rw [h2, del_same, hn]
    · rw [del_ne h2, upd_ne h2, upd_ne h1, upd_ne h2]
/-- the promise of such an __init__ -/
def spErr (K : PySem.W.Frag) : Sp := fun vs H Q _ => ∃ (a C : Addr) (v : V), vs = [.ref a, v] ∧ OexC K C ∧ PySem.W.findIn K (.ref C) "value" = some none ∧ H a = some (exo a C none) ∧
  ∀ dx, H dx = none → dx ≠ a → Q .non (upd (upd H dx (exd dx [(("value" : Str), v)])) a (exo a C (some dx)))
/-- what the text says of such a class and its __init__ -/
structure ErrK (K : PySem.W.Frag) (mg : Str → Option Value) (nm : Str) (C fI : Addr) (fd : FuncData) (qual : Str) (st : Stmt) : Prop where
  ox : OexC K C
  nv : PySem.W.findIn K (.ref C) "value" = some none
  xf : XfC K C
  gl : mg nm = some (.ref C)
  iC : PySem.W.findIn K (.ref C) "__init__" = some (some (.ref fI))
  tI : PySem.W.typeIn K (.ref fI) = some (.type "function")
  fn : Fun K "__init__" qual st fI fd
  bd : Binds K fd ["self", "value"] []
  sc : FnScope ["self", "value"] ["self", "value"] (defScope st)
  body : ∃ p1 p2 p3 p4, defBody st = [.Assign [.Attribute (.Name "self" p1) "value" p2] (.Name "value" p3) p4]
section
variable {P : Program} {w : World} {K : PySem.W.Frag} {mg : Str → Option Value} {base : Heap} {nm qual : Str} {C fI : Addr} {fd : FuncData} {st : Stmt}
theorem ok_err (T : ErrK K mg nm C fI fd qual st) : FnOk P w K mg base (L2.CX P w) 1 fI fd ["self", "value"] (spErr K) := by
  refine T.fn.okX (k := 0) T.sc (fun vs H Q E h => ?_) (fun cdv A outer s H vs Q E hr h => ?_)
  · obtain ⟨a, C, v, rfl, _⟩ := h
    rfl
  · obtain ⟨a, C', v, rfl, ox, nv, ha, q⟩ := h
    obtain ⟨p1, p2, p3, p4, eb⟩ := T.body
    rw [eb]
    refine ⟨_, pss_one (ps_ost (pe_var (i := 0) rfl ((T.sc.par "self" (List.Mem.head _)).elim (fun z => .inl z) fun z => .inr (.inl z))) (pe_var (i := 1) rfl ((T.sc.par "value" (List.Mem.tail _ (List.Mem.head _))).elim (fun z => .inl z) fun z => .inr (.inl z)))), ?_⟩
    exact ⟨_, rfl, _, rfl, a, C', rfl, ox, nv, .inl ⟨ha, fun dx h1 h2 => q dx h1 h2⟩⟩
end
/-- C(e), an own error: its class, its new dict -/
def tErr (C : Addr) (te : TE) : L2.St → Hp → XK → Prop := fun σ H Q => te σ H fun v H1 => ∀ d, H1 d = none → Q (.ref C) (some d) (upd H1 d (erD v))
section
variable {X : Cx} {nm qual : Str} {C fI : Addr} {fd : FuncData} {st : Stmt} {e : Expr} {te : TE} {p pos pos2 : Pos} {W : WX}
theorem PE.mono {t u : TE} (h : PE X e t) (m : ∀ σ H Q, u σ H Q → t σ H Q) : PE X e u := ⟨fun pins s σ H Q I q => h.run pins s σ H Q I (m σ H Q q)⟩
theorem pmk_err (T : ErrK X.K X.mg nm C fI fd qual st) (hr : Room 2 X.A) (hg : Gl X nm) (he : PE X e te) (mono : ∀ σ H Q Q', (∀ v H1, Q v H1 → Q' v H1) → te σ H Q → te σ H Q') (hdb : (nm == ("__debug__" : Str)) = false := by decide)
    (sE : starEach [e] X.env = (false, eval e X.env) :: starEach [] X.env := by rfl) (hpl : (backTo pos (starEach [] X.env)).any (·.1) = false := by rfl) : PMk X (.Call (.Name nm p) [e] [] pos) (tErr C te) := by
  intro pins s σ H Q I h
  refine pmk_oex (CX := L2.CX X.prog X.w) (dvs := []) (ds := []) T.ox T.iC T.tI (ok_err T) hr T.bd .nil passL hg T.gl (pa_cons he pa_nil sE) hdb sE hpl pins s σ H Q I ?_
  refine mono _ _ _ _ (fun v H1 q => ⟨(by decide : 1 ≤ 1000), fun a ha => ?_⟩) h
  refine ⟨a, C, v, rfl, T.ox, T.nv, upd_same, fun dx h1 h2 => ⟨rfl, dx, [(("value" : Str), v)], upd_same, ?_, ?_, ?_⟩⟩
  · rw [upd_ne h2, upd_same]
  · rw [upd_ne h2] at h1
    exact h1
  · have h1' : H1 dx = none := by rw [upd_ne h2] at h1; exact h1
    rw [del_made ha h1' h2]
    exact q dx h1'
/-- raise C(e) -/
theorem ps_err (hc : X.calm = true) (tk : Takes X W) (T : ErrK X.K X.mg nm C fI fd qual st) (hr : Room 2 X.A) (hg : Gl X nm) (he : PE X e te) (mono : ∀ σ H Q Q', (∀ v H1, Q v H1 → Q' v H1) → te σ H Q → te σ H Q') (hdb : (nm == ("__debug__" : Str)) = false := by decide)
    (sE : starEach [e] X.env = (false, eval e X.env) :: starEach [] X.env := by rfl) (hpl : (backTo pos (starEach [] X.env)).any (·.1) = false := by rfl) :
    PS X (.Raise (some (.Call (.Name nm p) [e] [] pos)) none pos2) (fun _ σ H => tErr C te σ H fun cls d H' => W cls d σ H') := ps_raise hc tk (pmk_err T hr hg he mono hdb sE hpl)
end
theorem mono_var {i : Nat} : ∀ σ H (Q Q' : VK), (∀ v H1, Q v H1 → Q' v H1) → tVar i σ H Q → tVar i σ H Q' := fun _ _ _ _ h ⟨v, e, q⟩ => ⟨v, e, h _ _ q⟩
theorem mono_c {c : V} : ∀ σ H (Q Q' : VK), (∀ v H1, Q v H1 → Q' v H1) → tC c σ H Q → tC c σ H Q' := fun _ _ _ _ h q => h _ _ q
/-- e.value in the suite of an except clause -/
theorem pe_val {X : Cx} {nm qual : Str} {C fI : Addr} {fd : FuncData} {st : Stmt} {a : Addr} {oe : Obj} {cls : Value} {d : Option Addr} {pn : List (Addr × Obj)} {e : Expr} {te : TE} {pos : Pos} (T : ErrK X.K X.mg nm C fI fd qual st)
    (hz : Zc cls d oe) (hf : ∃ vs, oe.data = .fields vs) (he : PE (X.suite a ((a, oe) :: pn)) e te) (hb : attributeBase e "value" X.env (eval e X.env) = eval e X.env := by rfl) :
    PE (X.suite a ((a, oe) :: pn)) (.Attribute e "value" pos) (tXf a cls d C "value" te) := pe_xf T.xf T.nv hz hf he hb

/-! ### C(..) within a try: what is raised is wished for at the caller's slots -/
def tMakeS (C : Addr) (sp : Sp) (E : L2.St → XK) (t : TA) : TE := fun σ H Q => t σ H fun vs H1 => ∀ x dx, H1 x = none → H1 dx = none → dx ≠ x →
  sp (.ref x :: vs) (upd (upd H1 dx (.own x)) x (.ins C dx [])) (fun v H2 => v = .non ∧ Q (.ref x) H2) (E σ)
def tMakeKS (C : Addr) (m : Nat) (sp : Sp) (gV : List V → List V → List V) (E : L2.St → XK) (tk : TA) : TE := fun σ H Q => tk σ H fun zs H2 => zs.length = m ∧ ∀ x dx, H2 x = none → H2 dx = none → dx ≠ x →
  sp (gV [.ref x] zs) (upd (upd H2 dx (.own x)) x (.ins C dx [])) (fun v H3 => v = .non ∧ Q (.ref x) H3) (E σ)
section
variable {X : Cx} {CX : CXT} {k : Nat} {f C : Addr} {fd : FuncData} {ps ks : List Str} {sp : Sp} {E : L2.St → XK} {x : Str} {p pos : Pos} {e : Expr} {es : List Expr} {kws : List Keyword} {t tk : TA} {g : List Value → List Value → List Value} {gV : List V → List V → List V}
theorem goMakeS {pins : List (Addr × Obj)} {σ : L2.St} {H : Hp} {s : Shared} {Q : VK} {kw : List (Str × Value)} {us bs : List Value} {bv : List V} (M : Mk X.K C f) (F : FnOk X.prog X.w X.K X.mg X.base CX k f fd ps sp) (hr : Room (k + 1) X.A) (px : PassesAt CX X σ (E σ))
    (I : Inv X pins σ H s) (bd : ∀ s2 : Shared, X.K.In s2.heap → BindsTo s2 fd ⟨Value.ref (s.heap.objs.size + 1) :: us, kw⟩ (ps.zip bs)) (rb : Vals bv bs)
    (want : sp bv (upd (upd H s.heap.objs.size (.own (s.heap.objs.size + 1))) (s.heap.objs.size + 1) (.ins C s.heap.objs.size [])) (fun v H2 => v = .non ∧ Q (.ref (s.heap.objs.size + 1)) H2) (E σ)) :
    wpAny (model X.prog X.w) X.A (call (.ref C) us kw) (EP X pins σ Q) X.xe s := by
  have J := Inv.made (C := C) I
  refine wpAny_call (make_map (f := f) I.kIn M.makes M.init (beq_iff_eq.mp M.fn) (codeAny_mono (F.run _ X.stack _ _ ⟨Value.ref (s.heap.objs.size + 1) :: us, kw⟩ bs bv _ (E σ) (hr.make C us kw) (J.env0.make C us kw) (bd _ J.kIn) rb want) ?_))
  intro r s2 hq
  match r, hq with
  | .error er, hq => exact px pins _ _ er s2 J hq
  | .ok (.ret u), hq =>
    obtain ⟨v, H2, J2, rv, ev, q⟩ := J.after hq
    subst ev
    exact ⟨rv, ⟨V.ref (s.heap.objs.size + 1), H2, J2, rfl, q⟩⟩
  | .ok .next, hq => exact False.elim hq
  | .ok .brk, hq => exact False.elim hq
  | .ok .cont, hq => exact False.elim hq
theorem pe_makeS (M : Mk X.K C f) (F : FnOk X.prog X.w X.K X.mg X.base CX k f fd ps sp) (hr : Room (k + 1) X.A) (hg : Gl X x) (hm : X.mg x = some (.ref C)) (bd : Binds X.K fd ps []) (px : ∀ σ, PassesAt CX X σ (E σ)) (pa : PA X (e :: es) t)
    (hdb : (x == ("__debug__" : Str)) = false := by decide) (st : starEach (e :: es) X.env = (false, eval e X.env) :: starEach es X.env := by rfl) (pl : (backTo pos (starEach es X.env)).any (·.1) = false := by rfl) :
    PE X (.Call (.Name x p) (e :: es) [] pos) (tMakeS C sp E t) := by
  refine ⟨fun pins s σ H Q I h => wpAny_Call_Name_kw (ld_glob I hg hm ?_ hdb)⟩
  refine PySem.W.callWith_K (h₀ := X.base) I.ok.mod.kin M.kp (thn (pa.run pos pins s σ H _ I h) ?_) st pl
  rintro us s1 ⟨vs, H1, J, rv, q⟩
  refine ⟨J.kIn, ?_⟩
  have want := q (s1.heap.objs.size + 1) s1.heap.objs.size (J.hok.fresh (Nat.le_succ _)) (J.hok.fresh (Nat.le_refl _)) (Nat.ne_of_lt (Nat.lt_succ_self _))
  have rb : Vals (V.ref (s1.heap.objs.size + 1) :: vs) (Value.ref (s1.heap.objs.size + 1) :: us) := .cons rfl rv
  show wpAny _ _ (call (.ref C) us) _ _ _
  refine goMakeS (bs := Value.ref (s1.heap.objs.size + 1) :: us) (bv := V.ref (s1.heap.objs.size + 1) :: vs) M F hr (px σ) J (fun s2 i2 => ?_) rb want
  have cnt : (Value.ref (s1.heap.objs.size + 1) :: us).length = ps.length := rb.length.symm.trans (F.len _ _ _ _ want)
  have b := bd s2 (Value.ref (s1.heap.objs.size + 1) :: us) i2 (by rw [List.append_nil]; exact cnt)
  rw [List.append_nil] at b
  exact b
theorem pe_makeKS (M : Mk X.K C f) (F : FnOk X.prog X.w X.K X.mg X.base CX k f fd ps sp) (hr : Room (k + 1) X.A) (hg : Gl X x) (hm : X.mg x = some (.ref C)) (bd : KBn X.K fd ps 1 ks g gV) (px : ∀ σ, PassesAt CX X σ (E σ)) (pk : PK X kws tk)
    (hall : (backToKw pos (keywordEach kws X.env)).all (·.1.isSome) = true := by rfl) (hks : (backToKw pos (keywordEach kws X.env)).filterMap (·.1) = ks := by rfl) (hdb : (x == ("__debug__" : Str)) = false := by decide)
    (pl : ((backTo pos (starEach [] X.env)).any (·.1) || (backToKw pos (keywordEach kws X.env)).any (·.1.isNone)) = false := by rfl) :
    PE X (.Call (.Name x p) [] kws pos) (tMakeKS C ks.length sp gV E tk) := by
  refine ⟨fun pins s σ H Q I h => wpAny_Call_Name_kw (ld_glob I hg hm ?_ hdb)⟩
  refine PySem.W.callWith_KW0 (h₀ := X.base) I.ok.mod.kin M.kp hall ?_ pl
  refine thn (pk.run pos pins s σ H _ I h) ?_
  rintro ws s1 ⟨zs, H1, J, rz, l2, q⟩
  refine ⟨J.kIn, ?_⟩
  rw [hks]
  have want := q (s1.heap.objs.size + 1) s1.heap.objs.size (J.hok.fresh (Nat.le_succ _)) (J.hok.fresh (Nat.le_refl _)) (Nat.ne_of_lt (Nat.lt_succ_self _))
  have one : Vals [V.ref (s1.heap.objs.size + 1)] [Value.ref (s1.heap.objs.size + 1)] := .cons rfl .nil
  show wpAny _ _ (call (.ref C) [] (ks.zip ws)) _ _ _
  exact goMakeS (us := []) M F hr (px σ) J (fun s2 i2 => bd.to s2 [Value.ref (s1.heap.objs.size + 1)] ws i2 rfl (rz.length.symm.trans l2)) (bd.rel one rz) want
end
end Ob
namespace Ob
open PySem PySem.Spec PyProof.Rows L2
/-- which except clause takes which error of the program -/
theorem exm_two {K : PySem.W.Frag} {N S : Addr} {b : Bool} (h1 : PySem.W.subIn K (.ref S) (.type "BaseException") = some true) (h2 : PySem.W.isClsIn K S = true) (h3 : PySem.W.typeIn K (.ref S) = some (.type "type")) (h4 : PySem.W.subIn K (.ref N) (.ref S) = some b) :
    PySem.W.exmOne K (.ref N) (.ref S) = some b := by
  have e1 : (PySem.W.subIn K (.ref S) (.type "BaseException") == some true) = true := by rw [h1] <;> rfl
  have e3 : (PySem.W.clsIn K S).isSome = true := h2
  have e2 : ((PySem.W.clsIn K S).isSome && PySem.W.typeIn K (.ref S) == some (.type "type")) = true := by rw [e3, h3] <;> rfl
  unfold PySem.W.exmOne
  rw [if_pos e1]
  show (if ((PySem.W.clsIn K S).isSome && PySem.W.typeIn K (.ref S) == some (.type "type")) = true then PySem.W.subIn K (.ref N) (.ref S) else none) = some b
  rw [if_pos e2]
  exact h4
theorem exm_same {K : PySem.W.Frag} {S : Addr} (h1 : PySem.W.subIn K (.ref S) (.type "BaseException") = some true) (h2 : PySem.W.isClsIn K S = true) (h3 : PySem.W.typeIn K (.ref S) = some (.type "type")) (h4 : PySem.W.subIn K (.ref S) (.ref S) = some true) :
    PySem.W.exmOne K (.ref S) (.ref S) = some true := exm_two h1 h2 h3 h4
end Ob
set_option Elab.async false
set_option linter.all false
set_option maxRecDepth 100000
set_option maxHeartbeats 4000000
namespace Ob
open PySem PySem.Spec PyProof.Rows L2
/-! ### data in the heap -/
section
variable {K : PySem.W.Frag} {H H' : Hp}
mutual
/-- data without lists -/
def flat : PyData → Bool
  | .none => true | .bool _ => true | .int _ => true | .str _ => true
  | .tuple xs => flatAll xs
  | _ => false
def flatAll : List PyData → Bool
  | [] => true
  | x :: xs => flat x && flatAll xs
end
/-- tuples, and what is locked, are as they were -/
def Tk (H H' : Hp) : Prop := (∀ b xs, H b = some (.tup xs) → H' b = some (.tup xs)) ∧ ∀ b o u, H b = some (.frz o u) → H' b = some (.frz o u)
theorem Tk.refl : Tk H H := ⟨fun _ _ h => h, fun _ _ _ h => h⟩
theorem Tk.trans {H2 : Hp} (a : Tk H H') (b : Tk H' H2) : Tk H H2 := ⟨fun c xs h => b.1 c xs (a.1 c xs h), fun c o u h => b.2 c o u (a.2 c o u h)⟩
theorem Tk.same (s : Same H H') : Tk H H' := ⟨fun b xs h => s b _ h, fun b o u h => s b _ h⟩
theorem Tk.but {p : Addr} {ys : List V} (hp : H p = some (.lst ys)) (k : ∀ b o, H b = some o → b ≠ p → H' b = some o) : Tk H H' :=
  ⟨fun b xs h => k b _ h (fun z => by rw [z, hp] at h; cases h), fun b o u h => k b _ h (fun z => by rw [z, hp] at h; cases h)⟩
theorem Tk.seq (t : Tk H H') {a : Addr} {xs : List V} (h : SqT K H a xs) : SqT K H' a xs := by
  rcases h with (h | ⟨o, h⟩) | h
  · exact .inl (.inl (t.1 _ _ h))
  · exact .inl (.inr ⟨o, t.2 _ _ _ h⟩)
  · exact .inr h
theorem Same.tup (e : Same H H') {a : Addr} {xs : List V} (h : SqT K H a xs) : SqT K H' a xs := (Tk.same e).seq h
theorem Same.upd {a : Addr} {o : HO} (h : H a = none) : Same H (upd H a o) := fun b u e => by rw [upd_ne (ne_of_none e h)]; exact e
theorem Same.then {a : Addr} {o : HO} (s : Same H H') (h : H' a = none) : Same H (L2.upd H' a o) := s.trans (Same.upd h)
theorem dpAll_length : ∀ {xs : List V} {ds : List PyData}, DpAll K H xs ds → xs.length = ds.length
  | _, _, .nil => rfl
  | _, _, .cons _ t => congrArg Nat.succ (dpAll_length t)
theorem dpAll_get : ∀ {xs : List V} {ds : List PyData} {i : Nat} {x : V}, DpAll K H xs ds → xs[i]? = some x → ∃ d, ds[i]? = some d ∧ Dp K H x d
  | _, _, _, _, .nil, e => by simp at e
  | _, _, 0, _, .cons h _, e => by simp at e; subst e; exact ⟨_, rfl, h⟩
  | _, _, i + 1, x, .cons _ t, e => by
    obtain ⟨d, h1, h2⟩ := dpAll_get (i := i) (x := x) t (by simpa using e)
    exact ⟨d, by simpa using h1, h2⟩
theorem dpAll_at : ∀ {xs : List V} {ds : List PyData} {i : Nat} {d : PyData}, DpAll K H xs ds → ds[i]? = some d → ∃ x, xs[i]? = some x ∧ Dp K H x d
  | _, _, _, _, .nil, e => by simp at e
  | _, _, 0, _, .cons h _, e => by simp at e; subst e; exact ⟨_, rfl, h⟩
  | _, _, i + 1, x, .cons _ t, e => by
    obtain ⟨d, h1, h2⟩ := dpAll_at (i := i) (d := x) t (by simpa using e)
    exact ⟨d, by simpa using h1, h2⟩
theorem dpAll_app : ∀ {xs ys : List V} {ds es : List PyData}, DpAll K H xs ds → DpAll K H ys es → DpAll K H (xs ++ ys) (ds ++ es)
  | _, _, _, _, .nil, h => h
  | _, _, _, _, .cons h t, h' => .cons h (dpAll_app t h')
theorem dpAll_set : ∀ {xs : List V} {ds : List PyData} {x : V} {d : PyData} (i : Nat), DpAll K H xs ds → Dp K H x d → DpAll K H (xs.set i x) (ds.set i d)
  | _, _, _, _, _, .nil, _ => .nil
  | _, _, _, _, 0, .cons _ t, h => .cons h t
  | _, _, _, _, i + 1, .cons a t, h => .cons a (dpAll_set i t h)
theorem dpAll_take : ∀ {xs : List V} {ds : List PyData} (i : Nat), DpAll K H xs ds → DpAll K H (xs.take i) (ds.take i)
  | _, _, 0, _ => .nil
  | _, _, _ + 1, .nil => .nil
  | _, _, i + 1, .cons a t => .cons a (dpAll_take i t)
theorem dpAll_ints : ∀ (ns : List Int), DpAll K H (ns.map V.int) (ns.map PyData.int)
  | [] => .nil
  | n :: ns => .cons (.int n) (dpAll_ints ns)
mutual
theorem dp_keep (s : Same H H') : ∀ {v : V} {d : PyData}, Dp K H v d → Dp K H' v d
  | _, _, .non => .non
  | _, _, .bl b => .bl b
  | _, _, .int i => .int i
  | _, _, .str x => .str x
  | _, _, .lst h t => .lst (s.seq h) (dpAll_keep s t)
  | _, _, .tup h t => .tup (Same.tup s h) (dpAll_keep s t)
theorem dpAll_keep (s : Same H H') : ∀ {vs : List V} {ds : List PyData}, DpAll K H vs ds → DpAll K H' vs ds
  | _, _, .nil => .nil
  | _, _, .cons h t => .cons (dp_keep s h) (dpAll_keep s t)
end
mutual
theorem dp_flat (t : Tk H H') : ∀ {v : V} {d : PyData}, Dp K H v d → flat d = true → Dp K H' v d
  | _, _, .non, _ => .non
  | _, _, .bl b, _ => .bl b
  | _, _, .int i, _ => .int i
  | _, _, .str x, _ => .str x
  | _, _, .lst h r, f => by simp [flat] at f
  | _, _, .tup h r, f => .tup (t.seq h) (dpAll_flat t r (by simpa [flat] using f))
theorem dpAll_flat (t : Tk H H') : ∀ {vs : List V} {ds : List PyData}, DpAll K H vs ds → flatAll ds = true → DpAll K H' vs ds
  | _, _, .nil, _ => .nil
  | _, _, .cons h r, f => by
    simp only [flatAll, Bool.and_eq_true] at f
    exact .cons (dp_flat t h f.1) (dpAll_flat t r f.2)
end
theorem dp_tup {v : V} {ds : List PyData} (h : Dp K H v (.tuple ds)) : ∃ a xs, v = .ref a ∧ SqT K H a xs ∧ DpAll K H xs ds := by
  cases h with
  | tup h t => exact ⟨_, _, rfl, h, t⟩
theorem dp_lst {v : V} {ds : List PyData} (h : Dp K H v (.list ds)) : ∃ a xs, v = .ref a ∧ SqL K H a xs ∧ DpAll K H xs ds := by
  cases h with
  | lst h t => exact ⟨_, _, rfl, h, t⟩
theorem dp_int {v : V} {i : Int} (h : Dp K H v (.int i)) : v = .int i := by cases h; rfl
theorem dp_bool {v : V} {b : Bool} (h : Dp K H v (.bool b)) : v = .bl b := by cases h; rfl
theorem dp_str {v : V} {b : Str} (h : Dp K H v (.str b)) : v = .str b := by cases h; rfl
theorem dpAll_ints_inv : ∀ {xs : List V} {ns : List Int}, DpAll K H xs (ns.map PyData.int) → xs = ns.map V.int := by
  intro xs ns
  induction ns generalizing xs with
  | nil => intro h; cases h; rfl
  | cons n ns ih =>
    intro h
    cases h with
    | cons h t => rw [dp_int h, ih t]; rfl
end

/-! ### rows of states -/
abbrev Row := Bool × List Int
def rowD (r : Row) : PyData := .tuple (.bool r.1 :: r.2.map .int)
def rowV (r : Row) : List V := .bl r.1 :: r.2.map .int
def rowsD (rs : List Row) : List PyData := rs.map rowD
theorem flat_ints : ∀ ns : List Int, flatAll (ns.map PyData.int) = true
  | [] => by simp only [List.map_nil, flatAll]
  | n :: ns => by simp only [List.map_cons, flatAll, flat, flat_ints ns, Bool.and_self]
theorem flat_row (r : Row) : flat (rowD r) = true := by simp only [rowD, flat, flatAll, flat_ints, Bool.and_self]
theorem flat_rows : ∀ rs : List Row, flatAll (rowsD rs) = true
  | [] => by simp only [rowsD, List.map_nil, flatAll]
  | r :: rs => by
    have h := flat_rows rs
    simp only [rowsD] at h
    simp only [rowsD, List.map_cons, flatAll, flat_row, h, Bool.and_self]
section
variable {K : PySem.W.Frag} {H H' : Hp}
theorem row_of {v : V} {r : Row} (h : Dp K H v (rowD r)) : ∃ t, v = .ref t ∧ SqT K H t (rowV r) := by
  obtain ⟨t, xs, rfl, h1, h2⟩ := dp_tup h
  refine ⟨t, rfl, ?_⟩
  cases h2 with
  | cons a b =>
    rw [dp_bool a, dpAll_ints_inv b] at h1
    exact h1
theorem row_dp {t : Addr} {r : Row} (h : SqT K H t (rowV r)) : Dp K H (.ref t) (rowD r) := .tup h (.cons (.bl _) (dpAll_ints _))
theorem rows_len {xs : List V} {rs : List Row} (h : DpAll K H xs (rowsD rs)) : xs.length = rs.length := by
  rw [dpAll_length h]; unfold rowsD; simp
theorem rows_get {xs : List V} {rs : List Row} {i : Nat} {r : Row} (h : DpAll K H xs (rowsD rs)) (e : rs[i]? = some r) : ∃ t, xs[i]? = some (.ref t) ∧ SqT K H t (rowV r) := by
  obtain ⟨x, e1, h1⟩ := dpAll_at (i := i) (d := rowD r) h (by unfold rowsD; rw [List.getElem?_map, e]; rfl)
  obtain ⟨t, rfl, h2⟩ := row_of h1
  exact ⟨t, e1, h2⟩
theorem rows_keep (t : Tk H H') {xs : List V} {rs : List Row} (h : DpAll K H xs (rowsD rs)) : DpAll K H' xs (rowsD rs) := dpAll_flat t h (flat_rows rs)
theorem rows_lst {l : Addr} {xs : List V} {rs : List Row} (h : H l = some (.lst xs)) (r : DpAll K H xs (rowsD rs)) : Dp K H (.ref l) (.list (rowsD rs)) := .lst (SqL.of h) r
end

/-! ### how long a repr is, how deep -/
/-- ints below 2 ^ 150 -/
def small (i : Int) : Prop := i.natAbs < 2 ^ 150
theorem small_shows {i : Int} (h : small i) : (PyData.int i).showable = true := by
  simp only [PyData.showable]
  exact decide_eq_true (Nat.lt_trans (log2_lt (by decide) h) (by decide))
theorem small_len {i : Int} (h : small i) : (PyData.shown (.int i)).length ≤ 151 := by
  have e := PySem.int_text_length_le (k := 150) (by decide) (log2_lt (by decide) h)
  show (Str.ofString (toString i)).length ≤ 151
  rw [PySem.ofString_length]
  exact e
mutual
/-- all ints within are small; no text but of short signs -/
def tame : PyData → Prop
  | .none => True | .bool _ => True
  | .int i => small i
  | .str x => PyData.strOk x = true ∧ (x.cps.toList.all fun c => decide (c < 16 ^ 8)) = true
  | .list xs => tameAll xs
  | .tuple xs => tameAll xs
  | .dict _ => False
def tameAll : List PyData → Prop
  | [] => True
  | x :: xs => tame x ∧ tameAll xs
end
mutual
theorem tame_ok : ∀ d : PyData, tame d → d.showable = true ∧ d.leavesShort 151 = true
  | .none, _ => by simp [PyData.showable, PyData.leavesShort]
  | .bool _, _ => by simp [PyData.showable, PyData.leavesShort]
  | .int i, h => ⟨small_shows (by simpa [tame] using h), by simp only [PyData.leavesShort]; exact decide_eq_true (small_len (by simpa [tame] using h))⟩
  | .str x, h => by
    have q : PyData.strOk x = true ∧ (x.cps.toList.all fun c => decide (c < 16 ^ 8)) = true := by simpa only [tame] using h
    exact ⟨by simp only [PyData.showable], by simpa only [PyData.leavesShort] using q.2⟩
  | .list xs, h => by simpa only [PyData.showable, PyData.leavesShort] using tameAll_ok xs (by simpa [tame] using h)
  | .tuple xs, h => by simpa only [PyData.showable, PyData.leavesShort] using tameAll_ok xs (by simpa [tame] using h)
  | .dict _, h => by simp [tame] at h
theorem tameAll_ok : ∀ ds : List PyData, tameAll ds → PyData.showableAll ds = true ∧ PyData.leavesShortAll 151 ds = true
  | [], _ => by simp [PyData.showableAll, PyData.leavesShortAll]
  | x :: xs, h => by
    simp only [tameAll] at h
    obtain ⟨a, b⟩ := tame_ok x h.1
    obtain ⟨c, d⟩ := tameAll_ok xs h.2
    simp [PyData.showableAll, PyData.leavesShortAll, a, b, c, d]
end
theorem tame_len {d : PyData} (h : tame d) (w : d.weight ≤ 100000) : d.shown.length ≤ sizeLine := by
  have := PyData.shown_le 151 (by decide) d (tame_ok d h).2
  rw [sizeLine_eq]
  omega
theorem tame_ints : ∀ ns : List Int, (∀ n ∈ ns, small n) → tameAll (ns.map .int)
  | [], _ => by simp only [List.map_nil, tameAll]
  | n :: ns, h => by
    simp only [List.map_cons, tameAll, tame]
    exact ⟨h n (List.mem_cons_self ..), tame_ints ns fun m hm => h m (List.mem_cons_of_mem _ hm)⟩
theorem weight_int {i : Int} (h : small i) : (PyData.int i).weight ≤ 150 := by
  simp only [PyData.weight]
  have := log2_lt (i := i) (k := 150) (by decide) h
  split <;> omega
theorem weight_ints : ∀ ns : List Int, (∀ n ∈ ns, small n) → PyData.weightAll (ns.map .int) ≤ 151 * ns.length
  | [], _ => by simp [PyData.weightAll]
  | n :: ns, h => by
    have a := weight_int (h n (List.mem_cons_self ..))
    have b := weight_ints ns fun m hm => h m (List.mem_cons_of_mem _ hm)
    simp only [List.map_cons, PyData.weightAll, List.length_cons]
    omega
theorem depth_ints : ∀ ns : List Int, PyData.depthAll (ns.map .int) ≤ 1
  | [] => by simp [PyData.depthAll]
  | n :: ns => by
    have := depth_ints ns
    simp only [List.map_cons, PyData.depthAll, PyData.depth]
    omega
/-- a row whose next states are small, at most nine of them -/
def rowOk (r : Row) : Prop := r.2.length ≤ 9 ∧ ∀ n ∈ r.2, small n
theorem tame_row {r : Row} (h : rowOk r) : tame (rowD r) := by
  simp only [rowD, tame, tameAll, true_and]
  exact tame_ints _ h.2
theorem weight_row {r : Row} (h : rowOk r) : (rowD r).weight ≤ 1400 := by
  have := weight_ints _ h.2
  have := h.1
  simp only [rowD, PyData.weight, PyData.weightAll]
  omega
theorem depth_row (r : Row) : (rowD r).depth ≤ 3 := by
  have := depth_ints r.2
  simp only [rowD, PyData.depth, PyData.depthAll]
  omega
theorem tame_rows : ∀ rs : List Row, (∀ r ∈ rs, rowOk r) → tameAll (rowsD rs)
  | [], _ => by simp only [rowsD, List.map_nil, tameAll]
  | r :: rs, h => by
    have b := tame_rows rs fun m hm => h m (List.mem_cons_of_mem _ hm)
    simp only [rowsD] at b
    simp only [rowsD, List.map_cons, tameAll]
    exact ⟨tame_row (h r (List.mem_cons_self ..)), b⟩
theorem weight_rows : ∀ rs : List Row, (∀ r ∈ rs, rowOk r) → PyData.weightAll (rowsD rs) ≤ 1401 * rs.length
  | [], _ => by simp [rowsD, PyData.weightAll]
  | r :: rs, h => by
    have a := weight_row (h r (List.mem_cons_self ..))
    have b := weight_rows rs fun m hm => h m (List.mem_cons_of_mem _ hm)
    simp only [rowsD] at b
    simp only [rowsD, List.map_cons, PyData.weightAll, List.length_cons]
    omega
theorem depth_rows : ∀ rs : List Row, PyData.depthAll (rowsD rs) ≤ 3
  | [] => by simp [rowsD, PyData.depthAll]
  | r :: rs => by
    have a := depth_row r
    have b := depth_rows rs
    simp only [rowsD] at b
    simp only [rowsD, List.map_cons, PyData.depthAll]
    omega
/-- what repr asks of data: it is shown, not deep, not long -/
structure Shows (d : PyData) : Prop where
  sh : d.showable = true
  dep : d.depth ≤ 50
  len : d.shown.length ≤ sizeLine
theorem Shows.of {d : PyData} (t : tame d) (w : d.weight ≤ 100000) (p : d.depth ≤ 50) : Shows d := ⟨(tame_ok d t).1, p, tame_len t w⟩
theorem shows_rows {rs : List Row} (h : ∀ r ∈ rs, rowOk r) (n : rs.length ≤ 60) : Shows (.list (rowsD rs)) := by
  have a := tame_rows rs h
  have b := weight_rows rs h
  have c := depth_rows rs
  refine .of (by simpa only [tame] using a) ?_ ?_
  · simp only [PyData.weight]; omega
  · simp only [PyData.depth]; omega
theorem shows_row {r : Row} (h : rowOk r) : Shows (rowD r) := .of (tame_row h) (by have := weight_row h; omega) (by have := depth_row r; omega)
theorem shaped_of {d : PyData} (c : d.canLay0 = true) (p : d.depth ≤ 64) : SeqAt.shaped d = true := by
  show (d.canLay0 && decide (d.depth ≤ 64)) = true
  rw [c, decide_eq_true p] <;> rfl
mutual
theorem tame_lay : ∀ d : PyData, tame d → d.canLay0 = true
  | .none, _ => by simp [PyData.canLay0]
  | .bool _, _ => by simp [PyData.canLay0]
  | .int i, h => by simp [PyData.canLay0]
  | .str x, h => by
    have q : PyData.strOk x = true ∧ (x.cps.toList.all fun c => decide (c < 16 ^ 8)) = true := by simpa only [tame] using h
    simpa only [PyData.canLay0] using q.1
  | .list xs, h => by simp only [PyData.canLay0]; exact tameAll_lay xs (by simpa [tame] using h)
  | .tuple xs, h => by simp only [PyData.canLay0]; exact tameAll_lay xs (by simpa [tame] using h)
  | .dict _, h => by simp [tame] at h
theorem tameAll_lay : ∀ ds : List PyData, tameAll ds → PyData.canLayAll0 ds = true
  | [], _ => by simp [PyData.canLayAll0]
  | x :: xs, h => by
    simp only [tameAll] at h
    simp [PyData.canLayAll0, tame_lay x h.1, tameAll_lay xs h.2]
end
end Ob
set_option Elab.async false
set_option linter.all false
set_option maxRecDepth 100000
set_option maxHeartbeats 4000000
namespace Ob
open PySem PySem.Spec PyProof.Rows L2
/-! ### a purse: where draws come from; at most n so far -/
def Pu (n : Int) (o : HO) : Prop := ∃ a b c : Int, o = .lst [.int a, .int b, .int c] ∧ 0 ≤ a ∧ 0 ≤ b ∧ b < 2 ^ 80 ∧ 0 ≤ c ∧ c ≤ n
theorem Pu.mono {n m : Int} {o : HO} (h : Pu n o) (k : n ≤ m) : Pu m o := by
  obtain ⟨a, b, c, e, h1, h2, h3, h4, h5⟩ := h
  exact ⟨a, b, c, e, h1, h2, h3, h4, by omega⟩
/-- a draw: a number below m; the purse alone is changed -/
def spCoin : Sp := fun vs H Q _ => ∃ (p : Addr) (o : HO) (n m : Int), vs = [.ref p, .int m] ∧ H p = some o ∧ Pu n o ∧ n ≤ 10 ^ 12 ∧ 0 < m ∧ m < 2 ^ 200 ∧
  ∀ (k : Int) (u : HO), 0 ≤ k → k < m → Pu (n + 1) u → Q (.int k) (upd H p u)
/-- the purse of a script's place -/
def spPurse (K : PySem.W.Frag) : Sp := fun vs H Q _ => ∃ (a : Addr) (ns : List Int) (i : Nat), vs = [.ref a, .int i] ∧ SqL K H a (ns.map V.int) ∧ ns.length ≤ 63 ∧ i ≤ 100 ∧
  ∀ p u, H p = none → Pu 0 u → Q (.ref p) (upd H p u)
theorem pow_small {i : Int} {k e : Nat} (h0 : 0 ≤ i) (h : i < 2 ^ k) (hk : 0 < k) (hk2 : k ≤ 1000) (he : e ≤ 1000) : CPowW i (e : Int) := by
  refine ⟨by omega, by omega, ?_⟩
  have : i.natAbs < 2 ^ k := by
    have e1 : ((i.natAbs : Nat) : Int) = i := Int.natAbs_of_nonneg h0
    have e2 : ((2 ^ k : Nat) : Int) = 2 ^ k := by norm_cast
    omega
  exact Nat.lt_of_lt_of_le (log2_lt hk this) hk2
theorem div_small {i j : Int} (h0 : 0 < j) (h : j < 2 ^ 200) : CDivW i j := by
  refine ⟨h0, ?_⟩
  have : j.natAbs < 2 ^ 200 := by omega
  exact Nat.lt_of_lt_of_le (log2_lt (by decide) this) (by decide)
end Ob
set_option Elab.async false
set_option linter.all false
set_option maxRecDepth 100000
set_option maxHeartbeats 4000000
namespace Ob
open PySem PySem.Spec PyProof.Rows L2
/-! ### rules -/
def goodRow (n : Nat) (r : Row) : Bool := r.2.all fun k => decide (0 ≤ k) && decide (k < (n : Int))
def ruleF (e lo : Int) (l : Addr) : List (Str × V) := putF "_states" (.ref l) (putF "_losses" (.int lo) (putF "_every" (.int e) []))
theorem el_ne : ¬ (("_every" : Str) = "_losses") := by decide +kernel
theorem es_ne : ¬ (("_every" : Str) = "_states") := by decide +kernel
theorem ls_ne : ¬ (("_losses" : Str) = "_states") := by decide +kernel
theorem ruleF_every {e lo : Int} {l : Addr} : (ruleF e lo l).lookup ("_every" : Str) = some (.int e) := by
  unfold ruleF
  rw [lookup_putF, if_neg es_ne, lookup_putF, if_neg el_ne, lookup_putF, if_pos rfl]
theorem ruleF_losses {e lo : Int} {l : Addr} : (ruleF e lo l).lookup ("_losses" : Str) = some (.int lo) := by
  unfold ruleF
  rw [lookup_putF, if_neg ls_ne, lookup_putF, if_pos rfl]
theorem ruleF_states {e lo : Int} {l : Addr} : (ruleF e lo l).lookup ("_states" : Str) = some (.ref l) := by
  unfold ruleF
  rw [lookup_putF, if_pos rfl]
theorem ruleF_no {e lo : Int} {l : Addr} {m : Str} (h1 : ¬ m = "_every") (h2 : ¬ m = "_losses") (h3 : ¬ m = "_states") : (ruleF e lo l).lookup m = none := by
  unfold ruleF
  rw [lookup_putF, if_neg h3, lookup_putF, if_neg h2, lookup_putF, if_neg h1]
  rfl
/-- a rule stands at a; its list of states is its own -/
def RuleAt (K : PySem.W.Frag) (C : Addr) (H : Hp) (a : Addr) (e lo : Int) (rs : List Row) : Prop :=
  ∃ dx l xs, H a = some (.ins C dx (ruleF e lo l)) ∧ H l = some (.lst xs) ∧ DpAll K H xs (rowsD rs)
theorem RuleAt.keep {K : PySem.W.Frag} {C : Addr} {H H' : Hp} {a : Addr} {e lo : Int} {rs : List Row} (h : RuleAt K C H a e lo rs) (s : Same H H') : RuleAt K C H' a e lo rs := by
  obtain ⟨dx, l, xs, h1, h2, h3⟩ := h
  exact ⟨dx, l, xs, s _ _ h1, s _ _ h2, dpAll_keep s h3⟩
/-- a rule, made: a new object, its list new -/
def RuleNew (K : PySem.W.Frag) (C : Addr) (H H' : Hp) (a : Addr) (e lo : Int) (rs : List Row) : Prop :=
  ∃ dx l xs, H' a = some (.ins C dx (ruleF e lo l)) ∧ H' l = some (.lst xs) ∧ DpAll K H' xs (rowsD rs) ∧ H a = none ∧ H dx = none ∧ H l = none
theorem RuleNew.at_ {K : PySem.W.Frag} {C : Addr} {H H' : Hp} {a : Addr} {e lo : Int} {rs : List Row} (h : RuleNew K C H H' a e lo rs) : RuleAt K C H' a e lo rs := by
  obtain ⟨dx, l, xs, h1, h2, h3, _⟩ := h
  exact ⟨dx, l, xs, h1, h2, h3⟩
def spGoes (K : PySem.W.Frag) : Sp := fun vs H Q _ => ∃ (t : Addr) (r : Row) (m : Nat), vs = [.ref t, .int m] ∧ SqT K H t (rowV r) ∧ r.2.length ≤ 9 ∧ ∀ H', Same H H' → Q (.bl (goodRow m r)) H'
theorem cut_row (r : Row) : cutV (rowV r) (some 1) none = r.2.map V.int := by
  have h : HT.sIx (rowV r).length 0 (some 1) = 1 := by
    unfold HT.sIx rowV
    simp
  unfold cutV
  rw [h]
  show ((rowV r).drop 1).take ((rowV r).length - 1) = _
  unfold rowV
  simp only [List.drop_succ_cons, List.drop_zero, List.length_cons, List.length_map, Nat.add_sub_cancel]
  exact List.take_of_length_le (by simp)
/-- what is raised: the class, the value -/
def Raised (H : Hp) (E : XK) (C : Addr) (v : V) : Prop := ∀ (d : Addr) (H' : Hp), H d = none → Same H H' → H' d = some (erD v) → E (.ref C) (some d) H'
def spRuleInit (K : PySem.W.Frag) (C cN cS : Addr) : Sp := fun vs H Q E => ∃ (a dx l : Addr) (e lo : Int) (xs : List V) (rs : List Row), vs = [.ref a, .int e, .int lo, .ref l] ∧ H a = some (.ins C dx []) ∧ SqL K H l xs ∧ DpAll K H xs (rowsD rs) ∧
  (∀ r ∈ rs, r.2.length ≤ 9) ∧ rs.length ≤ 1000 ∧ (e < 1 → Raised H E cN (.int e)) ∧ (1 ≤ e → lo < 0 → Raised H E cN (.int lo)) ∧ (1 ≤ e → 0 ≤ lo → rs = [] → Raised H E cS (.int 0)) ∧
  (1 ≤ e → 0 ≤ lo → ∀ (i : Nat) (r : Row), rs[i]? = some r → goodRow rs.length r = false → (∀ (j : Nat) (q : Row), j < i → rs[j]? = some q → goodRow rs.length q = true) → Raised H E cS (.int i)) ∧
  (1 ≤ e → 0 ≤ lo → rs ≠ [] → (∀ r ∈ rs, goodRow rs.length r = true) → ∀ (l2 : Addr) (H' : Hp), H l2 = none → H' a = some (.ins C dx (ruleF e lo l2)) → H' l2 = some (.lst xs) →
    (∀ b o, H b = some o → b ≠ a → H' b = some o) → Q .non H')
end Ob
namespace Ob
open PySem PySem.Spec PyProof.Rows L2
theorem take_map_succ {α β : Type} {f : α → β} {l : List α} {i : Nat} {z : α} (h : l[i]? = some z) : (l.take (i + 1)).map f = (l.take i).map f ++ [f z] := by
  rw [List.take_add_one, h]
  simp
theorem map_get {α β : Type} {f : α → β} {l : List α} {i : Nat} {y : β} (h : (l.map f)[i]? = some y) : ∃ z, l[i]? = some z ∧ y = f z := by
  rw [List.getElem?_map] at h
  cases e : l[i]? with
  | none => rw [e] at h; cases h
  | some z => rw [e] at h; exact ⟨z, rfl, (Option.some.inj h).symm⟩
theorem sIx_one (n : Nat) : HT.sIx (n + 1) 0 (some 1) = 1 := by
  unfold HT.sIx
  simp
theorem few {n k : Nat} (h : n ≤ k) (hk : k < 16777216 := by decide) : n < sizeLine := by rw [sizeLine_eq]; omega
end Ob
namespace Ob
open PySem PySem.Spec PyProof.Rows L2
def spEvery (C : Addr) : Sp := fun vs H Q _ => ∃ (a dx : Addr) (e lo : Int) (l : Addr), vs = [.ref a] ∧ H a = some (.ins C dx (ruleF e lo l)) ∧ Q (.int e) H
def spLosses (C : Addr) : Sp := fun vs H Q _ => ∃ (a dx : Addr) (e lo : Int) (l : Addr), vs = [.ref a] ∧ H a = some (.ins C dx (ruleF e lo l)) ∧ Q (.int lo) H
def spStates (C : Addr) : Sp := fun vs H Q _ => ∃ (a dx : Addr) (e lo : Int) (l : Addr) (xs : List V), vs = [.ref a] ∧ H a = some (.ins C dx (ruleF e lo l)) ∧ H l = some (.lst xs) ∧ ∀ q, H q = none → Q (.ref q) (upd H q (.lst xs))
/-- all but the purse at p is as it was -/
def But (p : Addr) (H H' : Hp) : Prop := ∀ b o, H b = some o → b ≠ p → H' b = some o
theorem But.refl {p : Addr} {H : Hp} : But p H H := fun _ _ h _ => h
theorem But.trans {p : Addr} {H H1 H2 : Hp} (a : But p H H1) (b : But p H1 H2) : But p H H2 := fun c o h n => b c o (a c o h n) n
theorem But.same {p : Addr} {H H' : Hp} (s : Same H H') : But p H H' := fun b o h _ => s b o h
theorem But.upd {p : Addr} {H : Hp} {u : HO} : But p H (upd H p u) := fun b o h n => by rw [upd_ne n]; exact h
theorem But.free {p : Addr} {H H' : Hp} (b : But p H H') {l : Addr} (h : H' l = none) (n : l ≠ p) : H l = none := by
  cases q : H l with
  | none => rfl
  | some o => rw [b l o q n] at h; cases h
theorem But.tk {p : Addr} {H H' : Hp} {ys : List V} (b : But p H H') (hp : H p = some (.lst ys)) : Tk H H' := Tk.but hp b
/-- a drawn rule's numbers and rows -/
def spDrawn (K : PySem.W.Frag) : Sp := fun vs H Q _ => ∃ (p z : Addr) (n : Int) (o : HO) (s0 s1 s2 : Int), vs = [.ref p, .ref z] ∧ H p = some o ∧ Pu n o ∧ n ≤ 10 ^ 11 ∧ SqT K H z [.int s0, .int s1, .int s2] ∧
  0 < s0 ∧ s0 ≤ 60 ∧ 0 < s1 ∧ s1 ≤ 1000 ∧ 0 ≤ s2 ∧ s2 ≤ 1000 ∧
  ∀ (t l : Addr) (e lo : Int) (xs : List V) (rs : List Row) (H' : Hp) (u : HO), H t = none → H l = none → t ≠ l → H' t = some (.tup [.int e, .int lo, .ref l]) → H' l = some (.lst xs) → DpAll K H' xs (rowsD rs) → 1 ≤ e → e ≤ s1 → 0 ≤ lo → lo ≤ s2 →
    1 ≤ rs.length → (rs.length : Int) ≤ s0 → (∀ r ∈ rs, goodRow rs.length r = true ∧ r.2.length = 4) → H' p = some u → Pu (n + 1000) u → But p H H' → Q (.ref t) H'
end Ob
namespace Ob
open PySem PySem.Spec PyProof.Rows L2
theorem kbn_of {K : PySem.W.Frag} {x qual : Str} {st : Stmt} {f : Addr} {fd : FuncData} {ps ks : List Str} {n : Nat} {g : List Value → List Value → List Value} {gV : List V → List V → List V} (F : Fun K x qual st f fd)
    (h : ∀ (kV doc pm : Value) (an : Option Addr) (cdv ct : Value) (us ws : List Value), us.length = n → ws.length = ks.length → bindArgs (PySem.W.fnOf x qual (defArgs st) (defBody st) (defScope st) .none kV doc pm an cdv ct) ⟨us, ks.zip ws⟩ = pure (ps.zip (g us ws)))
    (rel : ∀ {vs : List V} {us : List Value} {zs : List V} {ws : List Value}, Vals vs us → Vals zs ws → Vals (gV vs zs) (g us ws)) : KBn K fd ps n ks g gV := by
  obtain ⟨oc, od, kV, doc, pm, an, cdv, ct, osl, rfl, lk, hcd⟩ := F.ex
  exact ⟨fun s us ws _ l1 l2 => .of_eq (h kV doc pm an cdv ct us ws l1 l2), rel⟩
/-- self and three keywords' values, in another order -/
def kw3 {α : Type} (f : α → α → α → α → List α) : List α → List α → List α
  | [a], [x, y, z] => f a x y z
  | _, _ => []
theorem kw3_rel {f : V → V → V → V → List V} {g : Value → Value → Value → Value → List Value} (h : ∀ {a x y z u1 u2 u3 u4}, RelV a u1 → RelV x u2 → RelV y u3 → RelV z u4 → Vals (f a x y z) (g u1 u2 u3 u4)) :
    ∀ {vs : List V} {us : List Value} {zs : List V} {ws : List Value}, Vals vs us → Vals zs ws → Vals (kw3 f vs zs) (kw3 g us ws) := by
  intro vs us zs ws r z
  cases r with
  | nil => exact .nil
  | cons r1 r2 =>
    cases r2 with
    | cons _ _ => exact .nil
    | nil =>
      cases z with
      | nil => exact .nil
      | cons z1 z2 =>
        cases z2 with
        | nil => exact .nil
        | cons z2 z3 =>
          cases z3 with
          | nil => exact .nil
          | cons z3 z4 =>
            cases z4 with
            | cons _ _ => exact .nil
            | nil => exact h r1 z1 z2 z3
/-- a pair of a word and a value is handed back -/
def TupEnd (H : Hp) (Q : VK) (nm : Str) (v : V) : Prop := ∀ (t : Addr) (H' : Hp), Same H H' → H' t = some (.tup [.str nm, v]) → Q (.ref t) H'
def spRefused (K : PySem.W.Frag) (C : Addr) : Sp := fun vs H Q _ => ∃ (l : Addr) (e lo : Int) (nm : Bool) (xs : List V) (rs : List Row), vs = [.int e, .int lo, .ref l, .bl nm] ∧ SqL K H l xs ∧ DpAll K H xs (rowsD rs) ∧
  (∀ r ∈ rs, r.2.length ≤ 9) ∧ rs.length ≤ 1000 ∧ (e < 1 → TupEnd H Q "number" (.int e)) ∧ (1 ≤ e → lo < 0 → TupEnd H Q "number" (.int lo)) ∧ (1 ≤ e → 0 ≤ lo → rs = [] → TupEnd H Q "state" (.int 0)) ∧
  (1 ≤ e → 0 ≤ lo → ∀ (i : Nat) (r : Row), rs[i]? = some r → goodRow rs.length r = false → (∀ (j : Nat) (q : Row), j < i → rs[j]? = some q → goodRow rs.length q = true) → TupEnd H Q "state" (.int i)) ∧
  (1 ≤ e → 0 ≤ lo → rs ≠ [] → (∀ r ∈ rs, goodRow rs.length r = true) → ∀ (a : Addr) (H' : Hp), Same H H' → RuleAt K C H' a e lo rs → Q (.ref a) H')
end Ob
namespace Ob
open PySem PySem.Spec PyProof.Rows L2
def pairD (nm : Str) (v : Int) : PyData := .tuple [.str nm, .int v]
theorem pair_dp {K : PySem.W.Frag} {H : Hp} {t : Addr} {nm : Str} {v : Int} (h : H t = some (.tup [.str nm, .int v])) : Dp K H (.ref t) (pairD nm v) := .tup (SqT.of h) (.cons (.str nm) (.cons (.int v) .nil))
theorem shows_pair {nm : Str} {v : Int} (h : small v) (n : nm.cps.size ≤ 1000) (t : tame (.str nm)) : Shows (pairD nm v) := by
  refine .of ?_ ?_ ?_
  · simp only [pairD, tame, tameAll, and_true]
    exact ⟨by simpa only [tame] using t, h⟩
  · have := weight_int h
    have e : PyData.weight (.str nm) = nm.cps.size := by simp [PyData.weight]
    simp only [pairD, PyData.weight, PyData.weightAll] at *
    omega
  · simp [pairD, PyData.depth, PyData.depthAll]
theorem tame_number : tame (.str "number") := by simp only [tame]; decide +kernel
theorem tame_state : tame (.str "state") := by simp only [tame]; decide +kernel
/-- the promise of a law's one look: it answers True; the purse alone is changed -/
def spRight : Sp := fun vs H Q _ => ∃ (p : Addr) (o : HO) (n : Int), vs = [.ref p] ∧ H p = some o ∧ Pu n o ∧ n ≤ 10 ^ 10 ∧ ∀ (H' : Hp) (u : HO), H' p = some u → Pu (n + 10 ^ 6) u → But p H H' → Q (.bl true) H'
def spLaw (K : PySem.W.Frag) : Sp := fun vs H Q _ => ∃ (a : Addr) (ns : List Int), vs = [.ref a] ∧ SqL K H a (ns.map V.int) ∧ ns.length ≤ 63 ∧ ∀ H', Q (.bl true) H'
theorem Pu.lst {n : Int} {o : HO} (h : Pu n o) : ∃ ys, o = .lst ys := by
  obtain ⟨a, b, c, e, _⟩ := h
  exact ⟨_, e⟩
theorem But.seqL {K : PySem.W.Frag} {p a : Addr} {H H' : Hp} {xs : List V} (b : But p H H') (h : SqL K H a xs) (n : a ≠ p) : SqL K H' a xs := by
  rcases h with (h | ⟨o, h⟩) | h
  · exact .inl (.inl (b _ _ h n))
  · exact .inl (.inr ⟨o, b _ _ h n⟩)
  · exact .inr h
/-- a purse made anew: what was before stands -/
theorem But.new {p : Addr} {H H1 H' : Hp} (s : Same H H1) (h : H p = none) (b : But p H1 H') : Same H H' := fun c o q => b c o (s c o q) (ne_of_none q h)
theorem small_40 {i : Int} (h1 : -(10 ^ 40 + 1) ≤ i) (h2 : i ≤ 10 ^ 40 + 1) : small i := by
  unfold small
  have : i.natAbs ≤ 10 ^ 40 + 1 := by omega
  exact Nat.lt_of_le_of_lt this (by decide)
end Ob
namespace Ob
open PySem PySem.Spec PyProof.Rows L2
/-- one of two, one of three written values -/
theorem at2 {a b : V} {k : Int} (h0 : 0 ≤ k) (h : k < 2) : ∃ v, atI [a, b] k = some v ∧ ((k = 0 ∧ v = a) ∨ (k = 1 ∧ v = b)) := by
  rcases (by omega : k = 0 ∨ k = 1) with rfl | rfl
  · exact ⟨a, rfl, .inl ⟨rfl, rfl⟩⟩
  · exact ⟨b, rfl, .inr ⟨rfl, rfl⟩⟩
theorem at3 {a b c : V} {k : Int} (h0 : 0 ≤ k) (h : k < 3) : ∃ v, atI [a, b, c] k = some v ∧ ((k = 0 ∧ v = a) ∨ (k = 1 ∧ v = b) ∨ (k = 2 ∧ v = c)) := by
  rcases (by omega : k = 0 ∨ k = 1 ∨ k = 2) with rfl | rfl | rfl
  · exact ⟨a, rfl, .inl ⟨rfl, rfl⟩⟩
  · exact ⟨b, rfl, .inr (.inl ⟨rfl, rfl⟩)⟩
  · exact ⟨c, rfl, .inr (.inr ⟨rfl, rfl⟩)⟩
theorem eqv_tame {d : PyData} (h : tame d) : PyData.eqv d d = true := PySem.SeqAt.eqv_refl d (tame_lay d h)
theorem goodRow_ok {n : Nat} {r : Row} (h : goodRow n r = true) (l : r.2.length = 4) (hn : n ≤ 1000) : rowOk r := by
  refine ⟨by omega, fun q hq => ?_⟩
  unfold goodRow at h
  have z := List.all_eq_true.mp h q hq
  rw [Bool.and_eq_true] at z
  have z0 := of_decide_eq_true z.1
  have z1 := of_decide_eq_true z.2
  unfold small
  have : q.natAbs < 1000 := by omega
  exact Nat.lt_trans this (by decide)
end Ob
namespace Ob
open PySem PySem.Spec PyProof.Rows L2
theorem eqv_ints_eq : ∀ {ns ms : List Int}, PyData.eqvAll (ns.map PyData.int) (ms.map PyData.int) = true → ns = ms
  | [], [], _ => rfl
  | [], _ :: _, h => by simp [PyData.eqvAll] at h
  | _ :: _, [], h => by simp [PyData.eqvAll] at h
  | n :: ns, m :: ms, h => by
    simp only [List.map_cons, PyData.eqvAll, PyData.eqv, Bool.and_eq_true, beq_iff_eq] at h
    rw [h.1, eqv_ints_eq h.2]
theorem eqv_row_eq {q r : Row} (h : PyData.eqv (rowD q) (rowD r) = true) : q = r := by
  obtain ⟨b, ns⟩ := q
  obtain ⟨c, ms⟩ := r
  simp only [rowD, PyData.eqv, PyData.eqvAll, Bool.and_eq_true, beq_iff_eq] at h
  rw [h.1, eqv_ints_eq h.2]
/-- a row with a wrong next state, made of another one -/
def spWrong (K : PySem.W.Frag) : Sp := fun vs H Q _ => ∃ (p t : Addr) (o : HO) (n m : Int) (r : Row), vs = [.ref p, .ref t, .int m] ∧ H p = some o ∧ Pu n o ∧ n ≤ 10 ^ 11 ∧ SqT K H t (rowV r) ∧ rowOk r ∧ r.2.length = 4 ∧ 1 ≤ m ∧ m ≤ 1000 ∧
  ∀ (T : Addr) (q : Row) (H' : Hp) (u : HO), H T = none → H' T = some (.tup (rowV q)) → q.2.length = 4 → rowOk q → goodRow m.toNat q = false → H' p = some u → Pu (n + 50) u → But p H H' → Q (.ref T) H'
theorem bad_of {m : Nat} {q : Row} {i : Nat} {z : Int} (h : q.2[i]? = some z) (b : z < 0 ∨ (m : Int) ≤ z) : goodRow m q = false := by
  rw [← Bool.not_eq_true]
  intro g
  unfold goodRow at g
  have x := List.all_eq_true.mp g z (List.mem_of_getElem? h)
  rw [Bool.and_eq_true] at x
  have x0 := of_decide_eq_true x.1
  have x1 := of_decide_eq_true x.2
  omega
end Ob
set_option Elab.async false
set_option linter.all false
set_option maxRecDepth 100000
set_option maxHeartbeats 4000000
namespace Lw
open PySem L2 Ob
open C8 (InsC call_isC tCut pss_cut)
def top (i : Nat) : Stmt := PySem.Challenge.pw_oneforall_k02_numbers_refused.main.body.getD i (.Pass ⟨0, 0, 0, 0⟩)
abbrev s_InvalidNumber__init : Stmt := inClass (top 3) 0
theorem sc_InvalidNumber__init : FnScope ["self", "value"] ["self", "value"] (defScope s_InvalidNumber__init) := ⟨rfl, rfl, rfl, by decide +kernel, rfl, by decide +kernel, by decide +kernel⟩
abbrev s_InvalidState__init : Stmt := inClass (top 4) 0
theorem sc_InvalidState__init : FnScope ["self", "value"] ["self", "value"] (defScope s_InvalidState__init) := ⟨rfl, rfl, rfl, by decide +kernel, rfl, by decide +kernel, by decide +kernel⟩
abbrev s_Rule__init : Stmt := inClass (top 6) 0
theorem sc_Rule__init : FnScope ["self", "every", "losses", "states", "index", "state"] ["self", "every", "losses", "states"] (defScope s_Rule__init) := ⟨rfl, rfl, rfl, by decide +kernel, rfl, by decide +kernel, by decide +kernel⟩
abbrev s_Rule_every : Stmt := inClass (top 6) 1
theorem sc_Rule_every : FnScope ["self"] ["self"] (defScope s_Rule_every) := ⟨rfl, rfl, rfl, by decide +kernel, rfl, by decide +kernel, by decide +kernel⟩
abbrev s_Rule_losses : Stmt := inClass (top 6) 2
theorem sc_Rule_losses : FnScope ["self"] ["self"] (defScope s_Rule_losses) := ⟨rfl, rfl, rfl, by decide +kernel, rfl, by decide +kernel, by decide +kernel⟩
abbrev s_Rule_states : Stmt := inClass (top 6) 3
theorem sc_Rule_states : FnScope ["self"] ["self"] (defScope s_Rule_states) := ⟨rfl, rfl, rfl, by decide +kernel, rfl, by decide +kernel, by decide +kernel⟩
abbrev s_goes_on_within : Stmt := top 7
theorem sc_goes_on_within : FnScope ["state", "many", "after"] ["state", "many"] (defScope s_goes_on_within) := ⟨rfl, rfl, rfl, by decide +kernel, rfl, by decide +kernel, by decide +kernel⟩
abbrev s_purse : Stmt := top 9
theorem sc_purse : FnScope ["script", "place", "cell"] ["script", "place"] (defScope s_purse) := ⟨rfl, rfl, rfl, by decide +kernel, rfl, by decide +kernel, by decide +kernel⟩
abbrev s_coin : Stmt := top 10
theorem sc_coin : FnScope ["purse", "many", "drawn", "stirred"] ["purse", "many"] (defScope s_coin) := ⟨rfl, rfl, rfl, by decide +kernel, rfl, by decide +kernel, by decide +kernel⟩
abbrev s_drawn_rule : Stmt := top 11
theorem sc_drawn_rule : FnScope ["purse", "sizes", "many", "found", "rank", "speaks", "turn"] ["purse", "sizes"] (defScope s_drawn_rule) := ⟨rfl, rfl, rfl, by decide +kernel, rfl, by decide +kernel, by decide +kernel⟩
abbrev s_refused : Stmt := top 12
theorem sc_refused : FnScope ["apart", "missing", "rows", "named", "found", "e"] ["apart", "missing", "rows", "named"] (defScope s_refused) := ⟨rfl, rfl, rfl, by decide +kernel, rfl, by decide +kernel, by decide +kernel⟩
abbrev s_right : Stmt := top 13
theorem sc_right : FnScope ["purse", "plan", "wrong", "apart", "missing", "rows", "top", "kind", "due", "passed", "turn", "named", "made"] ["purse"] (defScope s_right) := ⟨rfl, rfl, rfl, by decide +kernel, rfl, by decide +kernel, by decide +kernel⟩
abbrev s_law : Stmt := top 14
theorem sc_law : FnScope ["script", "spot", "purse", "turn"] ["script"] (defScope s_law) := ⟨rfl, rfl, rfl, by decide +kernel, rfl, by decide +kernel, by decide +kernel⟩
structure Ad where
  f_InvalidNumber__init : Addr
  d_InvalidNumber__init : FuncData
  f_InvalidState__init : Addr
  d_InvalidState__init : FuncData
  f_Rule__init : Addr
  d_Rule__init : FuncData
  f_Rule_every : Addr
  d_Rule_every : FuncData
  f_Rule_losses : Addr
  d_Rule_losses : FuncData
  f_Rule_states : Addr
  d_Rule_states : FuncData
  f_goes_on_within : Addr
  d_goes_on_within : FuncData
  f_purse : Addr
  d_purse : FuncData
  f_coin : Addr
  d_coin : FuncData
  f_drawn_rule : Addr
  d_drawn_rule : FuncData
  f_refused : Addr
  d_refused : FuncData
  f_right : Addr
  d_right : FuncData
  f_law : Addr
  d_law : FuncData
  c_InvalidNumber : Addr
  c_InvalidState : Addr
  c_Rule : Addr
  pa_Rule_every : Addr
  pa_Rule_losses : Addr
  pa_Rule_states : Addr
structure Txt (K : PySem.W.Frag) (mg : Str → Option Value) (A : Ad) : Prop where
  F_InvalidNumber__init : Fun K "__init__" "InvalidNumber.__init__" s_InvalidNumber__init A.f_InvalidNumber__init A.d_InvalidNumber__init
  B_InvalidNumber__init : Binds K A.d_InvalidNumber__init ["self", "value"] []
  F_InvalidState__init : Fun K "__init__" "InvalidState.__init__" s_InvalidState__init A.f_InvalidState__init A.d_InvalidState__init
  B_InvalidState__init : Binds K A.d_InvalidState__init ["self", "value"] []
  F_Rule__init : Fun K "__init__" "Rule.__init__" s_Rule__init A.f_Rule__init A.d_Rule__init
  B_Rule__init : Binds K A.d_Rule__init ["self", "every", "losses", "states"] []
  F_Rule_every : Fun K "every" "Rule.every" s_Rule_every A.f_Rule_every A.d_Rule_every
  B_Rule_every : Binds K A.d_Rule_every ["self"] []
  F_Rule_losses : Fun K "losses" "Rule.losses" s_Rule_losses A.f_Rule_losses A.d_Rule_losses
  B_Rule_losses : Binds K A.d_Rule_losses ["self"] []
  F_Rule_states : Fun K "states" "Rule.states" s_Rule_states A.f_Rule_states A.d_Rule_states
  B_Rule_states : Binds K A.d_Rule_states ["self"] []
  F_goes_on_within : Fun K "goes_on_within" "goes_on_within" s_goes_on_within A.f_goes_on_within A.d_goes_on_within
  g_goes_on_within : mg "goes_on_within" = some (.ref A.f_goes_on_within)
  B_goes_on_within : Binds K A.d_goes_on_within ["state", "many"] []
  F_purse : Fun K "_law_purse" "_law_purse" s_purse A.f_purse A.d_purse
  g_purse : mg "_law_purse" = some (.ref A.f_purse)
  B_purse : Binds K A.d_purse ["script", "place"] []
  F_coin : Fun K "_law_coin" "_law_coin" s_coin A.f_coin A.d_coin
  g_coin : mg "_law_coin" = some (.ref A.f_coin)
  B_coin : Binds K A.d_coin ["purse", "many"] []
  F_drawn_rule : Fun K "_law_drawn_rule" "_law_drawn_rule" s_drawn_rule A.f_drawn_rule A.d_drawn_rule
  g_drawn_rule : mg "_law_drawn_rule" = some (.ref A.f_drawn_rule)
  B_drawn_rule : Binds K A.d_drawn_rule ["purse", "sizes"] []
  F_refused : Fun K "_law_refused" "_law_refused" s_refused A.f_refused A.d_refused
  g_refused : mg "_law_refused" = some (.ref A.f_refused)
  B_refused : Binds K A.d_refused ["apart", "missing", "rows", "named"] []
  F_right : Fun K "_law_right" "_law_right" s_right A.f_right A.d_right
  g_right : mg "_law_right" = some (.ref A.f_right)
  B_right : Binds K A.d_right ["purse"] []
  F_law : Fun K "law" "law" s_law A.f_law A.d_law
  g_law : mg "law" = some (.ref A.f_law)
  B_law : Binds K A.d_law ["script"] []
  g_InvalidNumber : mg "InvalidNumber" = some (.ref A.c_InvalidNumber)
  x_InvalidNumber : ErrK K mg "InvalidNumber" A.c_InvalidNumber A.f_InvalidNumber__init A.d_InvalidNumber__init "InvalidNumber.__init__" s_InvalidNumber__init
  em_InvalidNumber : PySem.W.exmOne K (.ref A.c_InvalidNumber) (.ref A.c_InvalidNumber) = some true
  g_InvalidState : mg "InvalidState" = some (.ref A.c_InvalidState)
  x_InvalidState : ErrK K mg "InvalidState" A.c_InvalidState A.f_InvalidState__init A.d_InvalidState__init "InvalidState.__init__" s_InvalidState__init
  em_InvalidState : PySem.W.exmOne K (.ref A.c_InvalidState) (.ref A.c_InvalidState) = some true
  g_Rule : mg "Rule" = some (.ref A.c_Rule)
  c_Rule : Cls K A.c_Rule
  m_Rule : Mk K A.c_Rule A.f_Rule__init
  n_Rule_every : NoAttr K A.c_Rule "_every"
  n_Rule_losses : NoAttr K A.c_Rule "_losses"
  n_Rule_states : NoAttr K A.c_Rule "_states"
  p_Rule_every : PropOf K A.c_Rule "every" A.pa_Rule_every A.f_Rule_every
  p_Rule_losses : PropOf K A.c_Rule "losses" A.pa_Rule_losses A.f_Rule_losses
  p_Rule_states : PropOf K A.c_Rule "states" A.pa_Rule_states A.f_Rule_states
  i_Rule : InsC K A.c_Rule
  ex_InvalidState_InvalidNumber : PySem.W.exmOne K (.ref A.c_InvalidState) (.ref A.c_InvalidNumber) = some false
  b_abs : mg "abs" = none
  b_all : mg "all" = none
  b_enumerate : mg "enumerate" = none
  b_int : mg "int" = none
  b_isinstance : mg "isinstance" = none
  b_len : mg "len" = none
  b_list : mg "list" = none
  b_max : mg "max" = none
  b_min : mg "min" = none
  b_range : mg "range" = none
  b_repr : mg "repr" = none
  b_tuple : mg "tuple" = none
abbrev sp_law := spLaw
section
variable {P : Program} {w : World} {K : PySem.W.Frag} {mg : Str → Option Value} {base : Heap} {A : Ad}
theorem ok_coin (T : Txt K mg A) : FnOk P w K mg base CX0 1 A.f_coin A.d_coin ["purse", "many"] spCoin := by
  refine T.F_coin.ok sc_coin (fun vs H Q E h => ?_) (fun cdv A outer s H vs Q E hr h => ?_)
  · obtain ⟨p, o, n, m, rfl, _⟩ := h
    rfl
  · obtain ⟨p, o, n, m, rfl, hp, ⟨a, b, c, rfl, a0, b0, b1, c0, c1⟩, hn, m0, m1, k⟩ := h
    refine ⟨_, (pss_cons (ps_if (pt_cmpR op_gt (pe_ix ix_list (pv 0) pe_int (fun _ _ => rfl)) pe_int (nomark _)) (pss_cons (ps_set (i := 2) sc_coin.nd rfl (Or.inl rfl) (pe_op op_mod (pe_callTy call_int1 rfl T.b_int (by decide +kernel) (pa_cons (pe_ix ix_list (pv 0) pe_int (fun _ _ => rfl)) pa_nil)) (pv 1)))
      (pss_cons (ps_asg (pe_op op_fdivW (pe_ix ix_list (pv 0) pe_int (fun _ _ => rfl)) (pv 1)) (pg_sub (pv 0) pe_int set_list))
      (pss_one (ps_ret (pv 2))))) pss_nil)
      (pss_cons (ps_asg (pe_op op_add (pe_ix ix_list (pv 0) pe_int (fun _ _ => rfl)) pe_int) (pg_sub (pv 0) pe_int set_list))
      (pss_cons (ps_set (i := 3) sc_coin.nd rfl (Or.inl rfl) (pe_op op_mod (pe_op op_powW (pe_callTy call_int1 rfl T.b_int (by decide +kernel) (pa_cons (pe_op op_add (pe_ix ix_list (pv 0) pe_int (fun _ _ => rfl)) (pe_op op_mul pe_int (pe_ix ix_list (pv 0) pe_int (fun _ _ => rfl)))) pa_nil)) pe_int) (pe_op op_add (pe_op op_powW pe_int pe_int) pe_int)))
      (pss_cons (ps_set (i := 3) sc_coin.nd rfl (Or.inl rfl) (pe_op op_mod (pe_op op_powW (pe_callTy call_int1 rfl T.b_int (by decide +kernel) (pa_cons (pe_op op_add (pv 3) (pe_op op_mul pe_int (pe_ix ix_list (pv 0) pe_int (fun _ _ => rfl)))) pa_nil)) pe_int) (pe_op op_add (pe_op op_powW pe_int pe_int) pe_int)))
      (pss_one (ps_ret (pe_op op_mod (pe_callTy call_int1 rfl T.b_int (by decide +kernel) (pa_cons (pe_op op_fdivW (pv 3) pe_int) pa_nil)) (pv 1)))))))), ?_⟩
    refine ⟨_, rfl, _, _, _, _, rfl, rfl, SqL.of hp, atI_nat (j := 0) rfl, _, _, rfl, rfl, _, rfl, ?_⟩
    refine ite2 (fun ha => ?_) (fun ha => ?_)
    · refine ⟨_, rfl, _, _, _, _, rfl, rfl, SqL.of hp, atI_nat (j := 0) rfl, .inl ⟨_, rfl, _, rfl, _, _, rfl, rfl, m0, ?_⟩⟩
      refine ⟨_, rfl, _, _, _, _, rfl, rfl, SqL.of hp, atI_nat (j := 0) rfl, _, rfl, _, _, rfl, rfl, div_small m0 m1, _, rfl, _, _, _, 0, rfl, rfl, hp, rfl, _, rfl, ?_⟩
      exact k _ _ (Int.emod_nonneg _ (by omega)) (Int.emod_lt_of_pos _ m0) ⟨a / m, b, c, rfl, Int.ediv_nonneg a0 (by omega), b0, b1, c0, by omega⟩
    · refine ⟨_, rfl, _, _, _, _, rfl, rfl, SqL.of hp, atI_nat (j := 2) rfl, _, _, rfl, rfl, _, rfl, _, _, _, 2, rfl, rfl, hp, rfl, ?_⟩
      have hp1 : upd H p (.lst [.int a, .int b, .int (c + 1)]) p = some (.lst [.int a, .int b, .int (c + 1)]) := upd_same
      have x0 : 0 ≤ b + 2038074743 * (c + 1) := by omega
      have x1 : b + 2038074743 * (c + 1) < 2 ^ 100 := by omega
      refine ⟨_, rfl, _, _, _, _, rfl, rfl, SqL.of hp1, atI_nat (j := 1) rfl, _, rfl, _, _, _, _, rfl, rfl, SqL.of hp1, atI_nat (j := 2) rfl, _, _, rfl, rfl, .inl ⟨by decide, by decide⟩, _, _, rfl, rfl,
        .inl ⟨_, rfl, _, _, rfl, rfl, pow_small (e := 3) x0 x1 (by decide) (by decide) (by decide), _, _, rfl, rfl, ⟨by decide, by decide, by decide⟩, _, _, rfl, rfl, _, _, rfl, rfl, (by show (0 : Int) < 10 ^ (25 : Int).toNat + 13; decide), ?_⟩⟩
      have key : ∀ S : Int, 0 ≤ S → S < 10 ^ (25 : Int).toNat + 13 → 0 ≤ S + 982451653 * (c + 1) ∧ S + 982451653 * (c + 1) < 2 ^ 100 := fun S h1 h2 => by
        have h3 : S < 10 ^ 25 + 13 := h2
        omega
      have kS := key _ (Int.emod_nonneg ((b + 2038074743 * (c + 1)) ^ (3 : Int).toNat) (b := 10 ^ (25 : Int).toNat + 13) (by decide)) (Int.emod_lt_of_pos _ (by decide))
      refine ⟨_, rfl, _, rfl, _, _, _, _, rfl, rfl, SqL.of hp1, atI_nat (j := 2) rfl, _, _, rfl, rfl, .inl ⟨by decide, by decide⟩, _, _, rfl, rfl,
        .inl ⟨_, rfl, _, _, rfl, rfl, pow_small (e := 2) kS.1 kS.2 (by decide) (by decide) (by decide), _, _, rfl, rfl, ⟨by decide, by decide, by decide⟩, _, _, rfl, rfl, _, _, rfl, rfl, (by show (0 : Int) < 10 ^ (24 : Int).toNat + 7; decide), ?_⟩⟩
      refine ⟨_, rfl, _, _, rfl, rfl, ⟨by decide, by decide⟩, .inl ⟨_, rfl, _, rfl, _, _, rfl, rfl, m0, ?_⟩⟩
      exact k _ _ (Int.emod_nonneg _ (by omega)) (Int.emod_lt_of_pos _ m0) ⟨a, b, c + 1, rfl, a0, b0, b1, by omega, by omega⟩
theorem ok_purse (T : Txt K mg A) : FnOk P w K mg base CX0 1 A.f_purse A.d_purse ["script", "place"] (spPurse K) := by
  refine T.F_purse.ok sc_purse (fun vs H Q E h => ?_) (fun cdv A outer s H vs Q E hr h => ?_)
  · obtain ⟨a, ns, i, rfl, _⟩ := h
    rfl
  · obtain ⟨a, ns, i, rfl, hS, hlen, hi, k⟩ := h
    refine ⟨_, (pss_cons (ps_set (i := 2) sc_purse.nd rfl (Or.inl rfl) (pe_ifExp (pt_cmpR op_lt (pv 1) (pe_callB call_len rfl T.b_len (by decide +kernel) (pa_cons (pv 0) pa_nil)) (nomark _)) (pe_ix ix_list (pv 0) (pv 1) (fun _ _ => rfl)) pe_int))
      (pss_one (ps_ret (pe_lst (pa_cons (pe_callB (call_max2 rfl) rfl T.b_max (by decide +kernel) (pa_cons pe_int (pa_cons (pe_op op_sub (pe_callB call_abs rfl T.b_abs (by decide +kernel) (pa_cons (pv 2) pa_nil)) (pe_op op_powW pe_int pe_int)) pa_nil))) (pa_cons (pe_op op_mod (pe_callTy call_int1 rfl T.b_int (by decide +kernel) (pa_cons (pe_op op_add (pe_op op_add (pe_op op_mul (pv 2) pe_int) (pe_op op_mul (pv 1) pe_int)) pe_int) pa_nil)) (pe_op op_add (pe_op op_powW pe_int pe_int) pe_int)) (pa_cons pe_int pa_nil))))))), ?_⟩
    have hfew : ns.length ≤ sizeLine := Nat.le_trans hlen (by rw [sizeLine_eq]; decide)
    have fin : ∀ cell : Int, 0 ≤ (cell * 30011 + (i : Int) * 7368787 + 104729) % (10 ^ (24 : Int).toNat + 7) ∧ (cell * 30011 + (i : Int) * 7368787 + 104729) % (10 ^ (24 : Int).toNat + 7) < 2 ^ 80 := fun cell => by
      have h1 := Int.emod_nonneg (cell * 30011 + (i : Int) * 7368787 + 104729) (b := 10 ^ (24 : Int).toNat + 7) (by decide)
      have h2 := Int.emod_lt_of_pos (cell * 30011 + (i : Int) * 7368787 + 104729) (b := 10 ^ (24 : Int).toNat + 7) (by decide)
      have h3 : (10 : Int) ^ (24 : Int).toNat + 7 < 2 ^ 80 := by decide
      exact ⟨h1, Int.lt_trans h2 h3⟩
    refine ⟨_, rfl, _, rfl, _, _, rfl, .inl ⟨_, hS, rfl⟩, _, _, rfl, rfl, _, rfl, ?_⟩
    refine ite2 (fun c => ?_) (fun c => ?_)
    · have hi2 : i < ns.length := by
        have := of_decide_eq_true c
        simpa using this
      obtain ⟨z, hz⟩ : ∃ z, ns[i]? = some z := ⟨_, List.getElem?_eq_getElem hi2⟩
      refine ⟨_, rfl, _, rfl, _, _, _, _, rfl, rfl, hS, atI_nat (v := .int z) (by rw [List.getElem?_map, hz] <;> rfl), ?_⟩
      refine ⟨_, rfl, _, rfl, _, _, rfl, rfl, ⟨by decide, by decide, by decide⟩, _, _, rfl, rfl, _, _, rfl, ?_⟩
      refine ⟨_, rfl, _, _, rfl, rfl, .inr ⟨by decide, by decide⟩, _, rfl, _, _, rfl, rfl, .inr ⟨by decide, by decide⟩, _, _, rfl, rfl, _, _, rfl, rfl, .inl ⟨_, rfl, _, _, rfl, rfl, ⟨by decide, by decide, by decide⟩, _, _, rfl, rfl, _, _, rfl, rfl, (by show (0 : Int) < 10 ^ (24 : Int).toNat + 7; decide), ?_⟩⟩
      refine ⟨(by show 3 ≤ sizeLine; rw [sizeLine_eq]; decide), fun p np => k p _ np ⟨_, _, _, rfl, ?_, (fin z).1, (fin z).2, by decide, by decide⟩⟩
      split <;> omega
    · refine ⟨_, rfl, _, rfl, _, _, rfl, rfl, ⟨by decide, by decide, by decide⟩, _, _, rfl, rfl, _, _, rfl, ?_⟩
      refine ⟨_, rfl, _, _, rfl, rfl, .inr ⟨by decide, by decide⟩, _, rfl, _, _, rfl, rfl, .inr ⟨by decide, by decide⟩, _, _, rfl, rfl, _, _, rfl, rfl, .inl ⟨_, rfl, _, _, rfl, rfl, ⟨by decide, by decide, by decide⟩, _, _, rfl, rfl, _, _, rfl, rfl, (by show (0 : Int) < 10 ^ (24 : Int).toNat + 7; decide), ?_⟩⟩
      refine ⟨(by show 3 ≤ sizeLine; rw [sizeLine_eq]; decide), fun p np => k p _ np ⟨_, _, _, rfl, ?_, (fin 0).1, (fin 0).2, by decide, by decide⟩⟩
      split <;> omega
theorem ok_goes_on_within (T : Txt K mg A) : FnOk P w K mg base CX0 1 A.f_goes_on_within A.d_goes_on_within ["state", "many"] (spGoes K) := by
  refine T.F_goes_on_within.ok sc_goes_on_within (fun vs H Q E h => ?_) (fun cdv Ar outer s H vs Q E hr h => ?_)
  · obtain ⟨t, r, m, rfl, _⟩ := h
    rfl
  · obtain ⟨t, r, m, rfl, hT, hl, k⟩ := h
    refine ⟨_, (pss_one (ps_ret (pe_callB (cr_all rfl) rfl T.b_all (by decide +kernel) (pa_cons (pe_lc (own := [("after", 2)]) (g := gName 2) (tt := tYes) rfl sc_goes_on_within.nd (pi_tup (pe_slice sl_tupA (pv 0) (po_some pe_int) po_none)) (blkOk_by (N := ["state", "many", "after"]) (sc := defScope s_goes_on_within) (by decide +kernel)) (fun _ _ _ _ _ => pg_name (i := 2) sc_goes_on_within.nd rfl (Or.inl rfl)) (fun _ _ _ _ _ => pts_nil) (fun _ _ _ _ _ => by exact (pe_chain op_le op_lt pe_int (pv 2) (pv 1)))) pa_nil)))), ?_⟩
    have hlen : (rowV r).length = r.2.length + 1 := by unfold rowV; simp
    refine ⟨_, rfl, _, rfl, t, rowV r, rfl, hT, fun z => absurd z.1 (by rw [hlen, sIx_one]; decide), fun _ p np => ⟨p, rfl, ⟨_, SqT.of upd_same⟩, fun D nD => ?_⟩⟩
    rw [cut_row] at nD ⊢
    have s1 : Same H (upd H p (.tup (r.2.map V.int))) := Same.upd np
    have npD : p ≠ D := ne_of_none upd_same nD
    refine lc_tup (K := K) (a := p) (xs := r.2.map V.int) (fun i Hi => Hi D = some (.lst ((r.2.take i).map fun n => V.bl (decide (0 ≤ n) && decide (n < (m : Int))))) ∧ Same (upd H p (.tup (r.2.map V.int))) Hi) ⟨upd_same, Same.upd nD⟩ (fun i Hi _ hp => SqT.of (hp.2 _ _ upd_same)) ?_ ?_
    · rintro i x Hi hx ⟨hD, sm⟩
      obtain ⟨z, hz, rfl⟩ := map_get hx
      have stay : ∀ u, Same (upd H p (.tup (r.2.map V.int))) (upd Hi D u) := fun u b o e => by rw [upd_ne (ne_of_none e nD)]; exact sm b o e
      have acc : ((r.2.take i).map fun n => V.bl (decide (0 ≤ n) && decide (n < (m : Int)))).length < sizeLine := by rw [List.length_map, List.length_take]; exact few (k := 9) (by omega)
      refine ⟨rfl, _, rfl, _, _, rfl, rfl, _, rfl, ?_⟩
      refine ite2 (fun c => ?_) (fun c => ?_)
      rotate_left
      · refine ⟨_, hD, acc, ?_, stay _⟩
        rw [upd_same, take_map_succ hz]
        rw [Bool.not_eq_true] at c
        rw [c, Bool.false_and]
      · refine ⟨_, rfl, _, _, rfl, rfl, _, hD, acc, ?_, stay _⟩
        rw [upd_same, take_map_succ hz, c, Bool.true_and]
    · rintro Hi ⟨hD, sm⟩
      rw [List.length_map, List.take_length] at hD
      refine ⟨D, r.2.map fun n => decide (0 ≤ n) && decide (n < (m : Int)), rfl, SqL.of (by rw [hD, List.map_map]; rfl), ?_⟩
      have e : (r.2.map fun n => decide (0 ≤ n) && decide (n < (m : Int))).all id = goodRow m r := by unfold goodRow; rw [List.all_map]; rfl
      rw [e]
      exact k Hi (s1.trans sm)
theorem ok_Rule__init (T : Txt K mg A) : FnOk P w K mg base (L2.CX P w) 4 A.f_Rule__init A.d_Rule__init ["self", "every", "losses", "states"] (spRuleInit K A.c_Rule A.c_InvalidNumber A.c_InvalidState) := by
  refine T.F_Rule__init.okX sc_Rule__init (fun vs H Q E h => ?_) (fun cdv Ar outer s H vs Q E hr h => ?_)
  · obtain ⟨a, dx, l, e, lo, xs, rs, rfl, _⟩ := h
    rfl
  · obtain ⟨a, dx, l, e, lo, xs, rs, rfl, ha, hl, hrs, h9, h1000, xe, xl, xn, xb, k⟩ := h
    have hxr : xs.length = rs.length := rows_len hrs
    refine ⟨_, (pss_cons (ps_if (pt_cmpR op_lt (pv 1) pe_int (nomark _)) (pss_one (ps_err rfl (takes_of rfl rfl rfl rfl) T.x_InvalidNumber (hr.mono (by decide)) rfl (pv 1) mono_var)) pss_nil)
      (pss_cons (ps_if (pt_cmpR op_lt (pv 2) pe_int (nomark _)) (pss_one (ps_err rfl (takes_of rfl rfl rfl rfl) T.x_InvalidNumber (hr.mono (by decide)) rfl (pv 2) mono_var)) pss_nil)
      (pss_cons (ps_if (pt_cmpR op_eq (pe_callB call_len rfl T.b_len (by decide +kernel) (pa_cons (pv 3) pa_nil)) pe_int (nomark _)) (pss_one (ps_err rfl (takes_of rfl rfl rfl rfl) T.x_InvalidState (hr.mono (by decide)) rfl pe_int mono_c)) pss_nil)
      (pss_cons (ps_for (passes_of rfl) rfl (pi_enum rfl T.b_enumerate (pa_cons (pv 3) pa_nil)) (pg_tup rfl (pgs_cons (pg_name (i := 4) sc_Rule__init.nd rfl (Or.inl rfl)) (pgs_cons (pg_name (i := 5) sc_Rule__init.nd rfl (Or.inl rfl)) pgs_nil)))
      (pss_one (ps_if (pt_not (pt_val (pe_call (ok_goes_on_within T) (hr.mono (by decide)) rfl T.g_goes_on_within T.F_goes_on_within.kp T.B_goes_on_within .nil pass0 (pa_cons (pv 5) (pa_cons (pe_callB call_len rfl T.b_len (by decide +kernel) (pa_cons (pv 3) pa_nil)) pa_nil))))) (pss_one (ps_err rfl (takes_of rfl rfl rfl rfl) T.x_InvalidState (hr.mono (by decide)) rfl (pv 4) mono_var)) pss_nil)))
      (pss_cons (ps_fld (pv 0) (pv 1) rfl)
      (pss_cons (ps_fld (pv 0) (pv 2) rfl)
      (pss_one (ps_fld (pv 0) (pe_lc (own := [("state", 5)]) (g := gName 5) (tt := tYes) rfl sc_Rule__init.nd (pi_list (pv 3)) (blkOk_by (N := ["self", "every", "losses", "states", "index", "state"]) (sc := defScope s_Rule__init) (by decide +kernel)) (fun _ _ _ _ _ => pg_name (i := 5) sc_Rule__init.nd rfl (Or.inl rfl)) (fun _ _ _ _ _ => pts_nil) (fun _ _ _ _ _ => by exact (show PE _ _ (tThen (tVar 5) (kTup K)) from (pe_tupleOf rfl T.b_tuple (pv 5))))) rfl)))))))), ?_⟩
    refine ⟨_, rfl, _, _, rfl, rfl, _, rfl, ?_⟩
    refine ite2 (fun c => ?_) (fun c => ?_)
    · exact ⟨_, rfl, fun d hd => xe (of_decide_eq_true c) d _ hd (Same.upd hd) upd_same⟩
    have e1 : 1 ≤ e := by
      have : ¬ e < 1 := fun z => c (decide_eq_true z)
      omega
    refine ⟨_, rfl, _, _, rfl, rfl, _, rfl, ?_⟩
    refine ite2 (fun c => ?_) (fun c => ?_)
    · exact ⟨_, rfl, fun d hd => xl e1 (of_decide_eq_true c) d _ hd (Same.upd hd) upd_same⟩
    have e2 : 0 ≤ lo := by
      have : ¬ lo < 0 := fun z => c (decide_eq_true z)
      omega
    refine ⟨_, rfl, _, _, rfl, .inl ⟨_, hl, rfl⟩, rfl, _, rfl, ?_⟩
    refine ite2 (fun c => ?_) (fun c => ?_)
    · have z : xs.length = 0 := by
        have := of_decide_eq_true c
        have q := V.int.inj this
        omega
      exact fun d hd => xn e1 e2 (List.eq_nil_of_length_eq_zero (by omega)) d _ hd (Same.upd hd) upd_same
    have ne : rs ≠ [] := fun z => by
      subst z
      have q : xs.length = 0 := hxr
      exact c (decide_eq_true (by rw [q]; rfl))
    refine ⟨_, rfl, l, xs, rfl, hl, for_it walk_enum (fun i σ Hi => ∃ v4 v5 : Option V, σ = [some (.ref a), some (.int e), some (.int lo), some (.ref l), v4, v5] ∧ Same H Hi ∧ ∀ (j : Nat) (q : Row), j < i → rs[j]? = some q → goodRow rs.length q = true)
      ⟨none, none, rfl, Same.refl _, fun j q hj => absurd hj (Nat.not_lt_zero _)⟩ (fun i σ Hi _ ⟨_, _, _, sm, _⟩ => sm.seq hl) ?_ ?_⟩
    · rintro i x σ Hi H2 hi ⟨v4, v5, rfl, sm, good⟩ ⟨T2, y1, y2, rfl, nT, rfl, z1, z2⟩
      cases z1
      obtain ⟨r, hr2⟩ : ∃ r, rs[i]? = some r := ⟨_, List.getElem?_eq_getElem (by omega)⟩
      obtain ⟨t, ht, hrow⟩ := rows_get hrs hr2
      have z2' : xs[i]? = some y2 := z2
      rw [ht] at z2'
      cases z2'
      have sm2 : Same H (upd Hi T2 (.tup [.int (i : Nat), .ref t])) := Same.then sm nT
      have r9 : r.2.length ≤ 9 := h9 r (List.mem_of_getElem? hr2)
      refine ⟨_, _, rfl, SqT.of upd_same, rfl, _, _, rfl, _, _, rfl, rfl, ?_⟩
      refine ⟨_, rfl, _, rfl, _, _, rfl, .inl ⟨_, sm2.seq hl, rfl⟩, t, r, xs.length, rfl, Same.tup sm2 hrow, r9, fun H3 s3 => ⟨_, rfl, ?_⟩⟩
      have sm3 : Same H H3 := sm2.trans s3
      refine ite2 (fun c => ?_) (fun c => ?_)
      · refine ⟨_, rfl, fun d hd => xb e1 e2 i r hr2 ?_ good d _ (sm3.free hd) (Same.then sm3 hd) upd_same⟩
        rw [hxr] at c
        simpa using c
      · refine ⟨_, _, rfl, sm3, fun j q hj hq => ?_⟩
        by_cases hji : j = i
        · subst hji
          rw [hr2] at hq
          cases hq
          rw [hxr] at c
          simpa using c
        · exact good j q (by omega) hq
    · rintro σ Hi ⟨v4, v5, rfl, sm, good⟩
      have ha1 := sm _ _ ha
      refine ⟨_, rfl, _, rfl, a, _, dx, _, rfl, ha1, T.c_Rule, T.n_Rule_every, (by show 0 < 1000; decide), ?_⟩
      refine ⟨_, rfl, _, rfl, a, _, dx, _, rfl, upd_same, T.c_Rule, T.n_Rule_losses, (by show 1 < 1000; decide), ?_⟩
      have sq : SqL K (upd (upd Hi a (.ins A.c_Rule dx (putF "_every" (.int e) []))) a (.ins A.c_Rule dx (putF "_losses" (.int lo) (putF "_every" (.int e) [])))) l xs := by
        have q := sm.seq hl
        rcases q with (q | ⟨o, q⟩) | q
        · refine .inl (.inl ?_)
          have nl : l ≠ a := ne_of q ha1 (by intro z; cases z)
          rw [upd_ne nl, upd_ne nl]
          exact q
        · refine .inl (.inr ⟨o, ?_⟩)
          have nl : l ≠ a := ne_of q ha1 (by intro z; cases z)
          rw [upd_ne nl, upd_ne nl]
          exact q
        · exact .inr q
      have hb2 : upd (upd Hi a (.ins A.c_Rule dx (putF "_every" (.int e) []))) a (.ins A.c_Rule dx (putF "_losses" (.int lo) (putF "_every" (.int e) []))) = upd Hi a (.ins A.c_Rule dx (putF "_losses" (.int lo) (putF "_every" (.int e) []))) := upd_upd
      rw [hb2] at sq ⊢
      generalize hH2 : upd Hi a (.ins A.c_Rule dx (putF "_losses" (.int lo) (putF "_every" (.int e) []))) = H2 at sq ⊢
      have ha2 : H2 a = some (.ins A.c_Rule dx (putF "_losses" (.int lo) (putF "_every" (.int e) []))) := by rw [← hH2]; exact upd_same
      have oth : ∀ b o, H b = some o → b ≠ a → H2 b = some o := fun b o q n => by rw [← hH2, upd_ne n]; exact sm b o q
      have tk : Tk H H2 := ⟨fun b ys q => oth b _ q (ne_of q ha (by intro z; cases z)), fun b o u q => oth b _ q (ne_of q ha (by intro z; cases z))⟩
      refine ⟨_, rfl, l, rfl, ⟨_, sq⟩, fun D nD => ?_⟩
      refine lc_list (K := K) (a := l) (xs := xs) (fun i Hj => Hj D = some (.lst (xs.take i)) ∧ Same H2 Hj) ⟨upd_same, Same.upd nD⟩ (fun i Hj _ hp => hp.2.seq sq) ?_ ?_
      · rintro i x Hj hx ⟨hD, sj⟩
        have hi : i < rs.length := by
          have := (List.getElem?_eq_some_iff.mp hx).1
          omega
        obtain ⟨r, hr2⟩ : ∃ r, rs[i]? = some r := ⟨_, List.getElem?_eq_getElem hi⟩
        obtain ⟨t, ht, hrow⟩ := rows_get hrs hr2
        rw [hx] at ht
        cases ht
        refine ⟨rfl, _, rfl, .inr ⟨t, rowV r, rfl, Same.tup sj (tk.seq hrow), _, hD, by rw [List.length_take]; exact few (k := 1000) (by omega), ?_, fun b o q => by rw [upd_ne (ne_of_none q nD)]; exact sj b o q⟩⟩
        rw [upd_same, List.take_add_one, hx]
        rfl
      · rintro Hj ⟨hD, sj⟩
        rw [List.take_length] at hD
        have nDH : H D = none := sm.free (by
          have q : upd Hi a (.ins A.c_Rule dx (putF "_losses" (.int lo) (putF "_every" (.int e) []))) D = none := by rw [hH2]; exact nD
          by_cases z : D = a
          · rw [z, upd_same] at q; cases q
          · rw [upd_ne z] at q; exact q)
        have nDa : D ≠ a := fun z => by rw [z, ha2] at nD; cases nD
        refine ⟨_, rfl, a, _, dx, _, rfl, sj _ _ ha2, T.c_Rule, T.n_Rule_states, (by show 2 < 1000; decide), ?_⟩
        refine k e1 e2 ne (fun r hr => ?_) D _ nDH upd_same (by rw [upd_ne nDa]; exact hD) fun b o q n => by rw [upd_ne n]; exact sj b o (oth b o q n)
        obtain ⟨j, hj, hjr⟩ := List.getElem_of_mem hr
        exact good j r (by rw [hxr]; exact hj) (by rw [← hjr]; exact List.getElem?_eq_getElem hj)
theorem ok_Rule_every (T : Txt K mg A) : FnOk P w K mg base CX0 1 A.f_Rule_every A.d_Rule_every ["self"] (spEvery A.c_Rule) := by
  refine T.F_Rule_every.ok sc_Rule_every (fun vs H Q E h => ?_) (fun cdv Ar outer s H vs Q E hr h => ?_)
  · obtain ⟨a, dx, e, lo, l, rfl, _⟩ := h
    rfl
  · obtain ⟨a, dx, e, lo, l, rfl, ha, k⟩ := h
    exact ⟨_, (pss_one (ps_ret (pe_fld (pv 0) rfl))), _, rfl, a, _, dx, _, _, rfl, ha, T.c_Rule, T.n_Rule_every, ruleF_every, k⟩
theorem ok_Rule_losses (T : Txt K mg A) : FnOk P w K mg base CX0 1 A.f_Rule_losses A.d_Rule_losses ["self"] (spLosses A.c_Rule) := by
  refine T.F_Rule_losses.ok sc_Rule_losses (fun vs H Q E h => ?_) (fun cdv Ar outer s H vs Q E hr h => ?_)
  · obtain ⟨a, dx, e, lo, l, rfl, _⟩ := h
    rfl
  · obtain ⟨a, dx, e, lo, l, rfl, ha, k⟩ := h
    exact ⟨_, (pss_one (ps_ret (pe_fld (pv 0) rfl))), _, rfl, a, _, dx, _, _, rfl, ha, T.c_Rule, T.n_Rule_losses, ruleF_losses, k⟩
theorem ok_Rule_states (T : Txt K mg A) : FnOk P w K mg base CX0 1 A.f_Rule_states A.d_Rule_states ["self"] (spStates A.c_Rule) := by
  refine T.F_Rule_states.ok sc_Rule_states (fun vs H Q E h => ?_) (fun cdv Ar outer s H vs Q E hr h => ?_)
  · obtain ⟨a, dx, e, lo, l, xs, rfl, _⟩ := h
    rfl
  · obtain ⟨a, dx, e, lo, l, xs, rfl, ha, hl, k⟩ := h
    exact ⟨_, (pss_one (ps_ret (pe_callTy call_list_of rfl T.b_list (by decide +kernel) (pa_cons (pe_fld (pv 0) rfl) pa_nil)))), _, rfl, a, _, dx, _, _, rfl, ha, T.c_Rule, T.n_Rule_states, ruleF_states, l, xs, rfl, .inl (SqL.of hl), fun q nq => k q nq⟩
theorem ok_drawn_rule (T : Txt K mg A) : FnOk P w K mg base CX0 2 A.f_drawn_rule A.d_drawn_rule ["purse", "sizes"] (spDrawn K) := by
  refine T.F_drawn_rule.ok sc_drawn_rule (fun vs H Q E h => ?_) (fun cdv Ar outer s H vs Q E hr h => ?_)
  · obtain ⟨p, z, n, o, s0, s1, s2, rfl, _⟩ := h
    rfl
  · obtain ⟨p, z, n, o, s0, s1, s2, rfl, hp, pu, hn, hz, a0, a1, b0, b1, c0, c1, k⟩ := h
    obtain ⟨ys, ep⟩ : ∃ ys, o = .lst ys := by
      obtain ⟨a, b, c, e, _⟩ := pu
      exact ⟨_, e⟩
    have hpl : H p = some (.lst ys) := by rw [hp, ep]
    refine ⟨_, (pss_cons (ps_asg (pe_tup (pa_cons (pe_op op_add pe_int (pe_call (ok_coin T) (hr.mono (by decide)) rfl T.g_coin T.F_coin.kp T.B_coin .nil pass0 (pa_cons (pv 0) (pa_cons (pe_ix ix_tup (pv 1) pe_int (fun _ _ => rfl)) pa_nil)))) (pa_cons (pe_lst pa_nil) pa_nil))) (pg_tup rfl (pgs_cons (pg_name (i := 2) sc_drawn_rule.nd rfl (Or.inr rfl)) (pgs_cons (pg_name (i := 3) sc_drawn_rule.nd rfl (Or.inl rfl)) pgs_nil))))
      (pss_cons (ps_for PassesOwn.never rfl (pi_range1 rfl T.b_range (pa_cons (pv 2) pa_nil)) (pg_name (i := 4) sc_drawn_rule.nd rfl (Or.inl rfl))
      (pss_cons (ps_set (i := 5) sc_drawn_rule.nd rfl (Or.inl rfl) (pe_cmpR op_eq (pe_call (ok_coin T) (hr.mono (by decide)) rfl T.g_coin T.F_coin.kp T.B_coin .nil pass0 (pa_cons (pv 0) (pa_cons pe_int pa_nil))) pe_int (nomark _)))
      (pss_one (ps_expr (pe_bm PySem.F.plainAttrs_list PySem.F.slot_list_append PySem.F.type_list_append mt_append (pv 3) (pa_cons (pe_op op_catA (pe_tup (pa_cons (pv 5) pa_nil)) (pe_tupleOf rfl T.b_tuple (pe_lc (own := [("turn", 6)]) (g := gName 6) (tt := tYes) rfl sc_drawn_rule.nd (pi_range1 rfl T.b_range (pa_cons pe_int pa_nil)) (blkOk_by (N := ["purse", "sizes", "many", "found", "rank", "speaks", "turn"]) (sc := defScope s_drawn_rule) (by decide +kernel)) (fun _ _ _ _ _ => pg_name (i := 6) sc_drawn_rule.nd rfl (Or.inl rfl)) (fun _ _ _ _ _ => pts_nil) (fun _ _ _ _ _ => by exact (pe_call (ok_coin T) (hr.mono (by decide)) rfl T.g_coin T.F_coin.kp T.B_coin .nil pass0 (pa_cons (pv 0) (pa_cons (pv 2) pa_nil))))))) pa_nil))))))
      (pss_one (ps_ret (pe_tup (pa_cons (pe_op op_add pe_int (pe_call (ok_coin T) (hr.mono (by decide)) rfl T.g_coin T.F_coin.kp T.B_coin .nil pass0 (pa_cons (pv 0) (pa_cons (pe_ix ix_tup (pv 1) pe_int (fun _ _ => rfl)) pa_nil)))) (pa_cons (pe_call (ok_coin T) (hr.mono (by decide)) rfl T.g_coin T.F_coin.kp T.B_coin .nil pass0 (pa_cons (pv 0) (pa_cons (pe_op op_add (pe_ix ix_tup (pv 1) pe_int (fun _ _ => rfl)) pe_int) pa_nil))) (pa_cons (pv 3) pa_nil)))))))), ?_⟩
    refine ⟨_, rfl, _, rfl, _, _, _, _, rfl, rfl, hz, atI_nat (j := 0) rfl, p, o, n, s0, rfl, hp, pu, by omega, a0, by omega, fun k0 u0 h0 h1 pu0 => ?_⟩
    refine ⟨_, _, rfl, rfl, Nat.zero_le _, fun l nl => ?_⟩
    refine ⟨(by show 2 ≤ sizeLine; rw [sizeLine_eq]; decide), fun T0 nT0 => ⟨_, _, rfl, SqT.of upd_same, rfl, _, _, rfl, _, _, rfl, rfl, ?_⟩⟩
    have npl : l ≠ p := fun e => by rw [e, upd_same] at nl; cases nl
    have nlH : H l = none := by rw [upd_ne npl] at nl; exact nl
    have nlT : l ≠ T0 := ne_of_none upd_same nT0
    have npT : p ≠ T0 := ne_of_none (by rw [upd_ne npl.symm]; exact upd_same) nT0
    have but0 : But p H (upd (upd (upd H p u0) l (.lst [])) T0 (.tup [.int (1 + k0), .ref l])) :=
      ((But.upd).trans (But.same (Same.upd nl))).trans (But.same (Same.upd nT0))
    refine ⟨_, rfl, 1 + k0, rfl, by omega, by omega, for_it walk_range (fun i σ Hi => ∃ (v4 v5 : Option V) (xs : List V) (rs : List Row) (u : HO), σ = [some (.ref p), some (.ref z), some (.int (1 + k0)), some (.ref l), v4, v5, none] ∧
        Hi l = some (.lst xs) ∧ DpAll K Hi xs (rowsD rs) ∧ rs.length = i ∧ (∀ r ∈ rs, goodRow (1 + k0).toNat r = true ∧ r.2.length = 4) ∧ Hi p = some u ∧ Pu (n + 1 + 5 * i) u ∧ But p H Hi)
      ⟨none, none, [], [], u0, rfl, by rw [upd_ne nlT, upd_same], .nil, rfl, fun r hr => by simp at hr, by rw [upd_ne npT, upd_ne npl.symm, upd_same], by simpa using pu0, but0⟩ (fun _ _ _ _ _ => trivial) ?_ ?_⟩
    · rintro i x σ Hi0 Hi hi ⟨v4, v5, xs, rs, u, rfl, hl, hrs, hlen, hgood, hu, puu, but⟩ ⟨rfl, rfl⟩
      have hxr : xs.length = rs.length := rows_len hrs
      have i60 : i < 60 := by omega
      refine ⟨_, rfl, p, u, n + 1 + 5 * i, 3, rfl, hu, puu, by omega, by decide, by decide, fun k1 u1 g0 g1 pu1 => ⟨rfl, ?_⟩⟩
      have npl' : l ≠ p := fun e => by
        rw [e, hu] at hl
        obtain ⟨a, b, c, eu, _⟩ := puu
        subst e
        exact npl rfl
      have hl1 : upd Hi p u1 l = some (.lst xs) := by rw [upd_ne npl']; exact hl
      refine ⟨_, rfl, .inl ⟨rfl, _, SqL.of hl1⟩, _, rfl, (by show 1 ≤ sizeLine; rw [sizeLine_eq]; decide), fun T1 nT1 => ?_⟩
      generalize hsp : decide (V.int k1 = V.int 0) = sp at nT1 ⊢
      have nT1l : l ≠ T1 := ne_of_none hl1 nT1
      have nT1p : p ≠ T1 := ne_of_none upd_same nT1
      refine ⟨4, rfl, by decide, by decide, fun D nD => ?_⟩
      generalize hH2 : upd (upd Hi p u1) T1 (.tup [.bl sp]) = H2 at nD ⊢
      have h2T : H2 T1 = some (.tup [.bl sp]) := by rw [← hH2]; exact upd_same
      have h2l : H2 l = some (.lst xs) := by rw [← hH2, upd_ne nT1l]; exact hl1
      have h2p : H2 p = some u1 := by rw [← hH2, upd_ne nT1p]; exact upd_same
      have but2 : But p Hi H2 := by rw [← hH2]; exact (But.upd).trans (But.same (Same.upd nT1))
      have nDp : D ≠ p := fun e => by rw [e, h2p] at nD; cases nD
      refine lc_it walk_range (fun j Hj => ∃ (ns : List Int) (u : HO), Hj D = some (.lst (ns.map V.int)) ∧ ns.length = j ∧ (∀ q ∈ ns, 0 ≤ q ∧ q < 1 + k0) ∧ Hj p = some u ∧ Pu (n + 1 + 5 * i + 1 + j) u ∧ But p H2 Hj)
        ⟨[], u1, upd_same, rfl, fun q hq => by simp at hq, by rw [upd_ne nDp.symm]; exact h2p, by simpa using pu1, But.same (Same.upd nD)⟩ (fun _ _ _ _ => trivial) ?_ ?_
      · rintro j x Hj0 Hj hj ⟨ns, u2, hD, hns, hin, hu2, pu2, but3⟩ ⟨rfl, rfl⟩
        have j4 : j < 4 := hj
        refine ⟨rfl, _, rfl, _, rfl, p, u2, n + 1 + 5 * i + 1 + j, 1 + k0, rfl, hu2, pu2, by omega, by omega, by omega, fun k2 u3 f0 f1 pu3 => ?_⟩
        refine ⟨_, (by rw [upd_ne nDp]; exact hD), by rw [List.length_map]; exact few (k := 4) (by omega), ns ++ [k2], u3, ?_, ?_, ?_, ?_, ?_, ?_⟩
        · rw [upd_same, List.map_append]
          rfl
        · rw [List.length_append, hns]
          rfl
        · intro q hq
          rcases List.mem_append.mp hq with hq | hq
          · exact hin q hq
          · rw [List.mem_singleton.mp hq]
            exact ⟨f0, f1⟩
        · rw [upd_ne nDp.symm, upd_same]
        · have e : n + 1 + 5 * (i : Int) + 1 + ((j + 1 : Nat) : Int) = n + 1 + 5 * i + 1 + j + 1 := by omega
          rw [e]
          exact pu3
        · intro b o q nb
          have nbD : b ≠ D := fun e => by rw [e, nD] at q; cases q
          rw [upd_ne nbD, upd_ne nb]
          exact but3 b o q nb
      · rintro Hj ⟨ns, u2, hD, hns, hin, hu2, pu2, but3⟩
        have ns4 : ns.length = 4 := hns
        refine .inl ⟨D, ns.map V.int, rfl, SqL.of hD, fun T2 nT2 => ?_⟩
        have hjT1 : Hj T1 = some (.tup [.bl sp]) := but3 _ _ h2T nT1p.symm
        have hjl : Hj l = some (.lst xs) := but3 _ _ h2l npl'
        have nT2l : l ≠ T2 := ne_of_none hjl nT2
        have nT2p : p ≠ T2 := ne_of_none hu2 nT2
        refine ⟨T1, T2, [.bl sp], ns.map V.int, rfl, rfl, SqT.of (by rw [upd_ne (ne_of_none hjT1 nT2)]; exact hjT1), SqT.of upd_same, ?_, fun e => (by cases e), fun _ e => ?_, fun _ _ T3 nT3 => ?_⟩
        · have : (ns.map V.int).length = 4 := by rw [List.length_map]; exact ns4
          show 1 + (ns.map V.int).length ≤ sizeLine
          rw [sizeLine_eq]
          omega
        · have : (ns.map V.int).length = 0 := by rw [e]; rfl
          rw [List.length_map] at this
          omega
        · have hl3 : upd (upd Hj T2 (.tup (ns.map V.int))) T3 (.tup ([.bl sp] ++ ns.map V.int)) l = some (.lst xs) := by
            have h1 : upd Hj T2 (.tup (ns.map V.int)) l = some (.lst xs) := by rw [upd_ne nT2l]; exact hjl
            rw [upd_ne (ne_of_none h1 nT3)]
            exact h1
          have nT3p : p ≠ T3 := ne_of_none (by rw [upd_ne nT2p]; exact hu2) nT3
          have nT3l : T3 ≠ l := fun e => by rw [e, upd_ne nT2l] at nT3; rw [hjl] at nT3; cases nT3
          refine ⟨l, _, _, rfl, rfl, hl3, few (k := 100) (by omega), ?_⟩
          have tk1 : Tk Hi Hj := ⟨fun b zs q => but3 b _ (but2 b _ q (fun e => by rw [e, hu] at q; obtain ⟨a, b', c, eu, _⟩ := puu; rw [eu] at q; cases q)) (fun e => by rw [e, hu] at q; obtain ⟨a, b', c, eu, _⟩ := puu; rw [eu] at q; cases q),
            fun b o' u' q => but3 b _ (but2 b _ q (fun e => by rw [e, hu] at q; obtain ⟨a, b', c, eu, _⟩ := puu; rw [eu] at q; cases q)) (fun e => by rw [e, hu] at q; obtain ⟨a, b', c, eu, _⟩ := puu; rw [eu] at q; cases q)⟩
          have s3 : Same Hj (upd (upd Hj T2 (.tup (ns.map V.int))) T3 (.tup ([.bl sp] ++ ns.map V.int))) := Same.then (Same.upd nT2) nT3
          have tk2 : Tk (upd (upd Hj T2 (.tup (ns.map V.int))) T3 (.tup ([.bl sp] ++ ns.map V.int))) (upd (upd (upd Hj T2 (.tup (ns.map V.int))) T3 (.tup ([.bl sp] ++ ns.map V.int))) l (.lst (xs ++ [.ref T3]))) :=
            Tk.but hl3 fun b o' q nb => by rw [upd_ne nb]; exact q
          have rows := rows_keep ((tk1.trans (Tk.same s3)).trans tk2) hrs
          have newRow : SqT K (upd (upd (upd Hj T2 (.tup (ns.map V.int))) T3 (.tup ([.bl sp] ++ ns.map V.int))) l (.lst (xs ++ [.ref T3]))) T3 (rowV (sp, ns)) := SqT.of (by rw [upd_ne nT3l, upd_same]; rfl)
          refine ⟨_, _, xs ++ [.ref T3], rs ++ [(sp, ns)], u2, rfl, upd_same, ?_, ?_, ?_, ?_, ?_, ?_⟩
          · have e : rowsD (rs ++ [(sp, ns)]) = rowsD rs ++ [rowD (sp, ns)] := by unfold rowsD; rw [List.map_append]; rfl
            rw [e]
            exact dpAll_app rows (.cons (row_dp newRow) .nil)
          · rw [List.length_append, hlen]
            rfl
          · intro r hrm
            rcases List.mem_append.mp hrm with hrm | hrm
            · exact hgood r hrm
            · rw [List.mem_singleton.mp hrm]
              refine ⟨?_, ns4⟩
              unfold goodRow
              rw [List.all_eq_true]
              intro q hq
              obtain ⟨q0, q1⟩ := hin q hq
              rw [Bool.and_eq_true]
              exact ⟨decide_eq_true q0, decide_eq_true (by omega)⟩
          · rw [upd_ne npl'.symm, upd_ne nT3p, upd_ne nT2p]
            exact hu2
          · have e : n + 1 + 5 * (((i + 1 : Nat)) : Int) = n + 1 + 5 * i + 1 + ((4 : Nat) : Int) := by omega
            rw [e]
            exact pu2
          · have b3 : But p H (upd (upd Hj T2 (.tup (ns.map V.int))) T3 (.tup ([.bl sp] ++ ns.map V.int))) := ((but.trans but2).trans but3).trans (But.same s3)
            intro b o' q nb
            have nbl : b ≠ l := fun e => by rw [e, nlH] at q; cases q
            rw [upd_ne nbl]
            exact b3 b o' q nb
    · rintro σ Hi ⟨v4, v5, xs, rs, u, rfl, hl, hrs, hlen, hgood, hu, puu, but⟩
      have tkH : Tk H Hi := but.tk hpl
      have hlen' : rs.length = (1 + k0).toNat := hlen
      refine ⟨_, rfl, _, rfl, _, _, _, _, rfl, rfl, tkH.seq hz, atI_nat (j := 1) rfl, p, u, n + 1 + 5 * ((1 + k0).toNat : Int), s1, rfl, hu, puu, by omega, b0, by omega, fun k1 u1 g0 g1 pu1 => ⟨_, _, rfl, rfl, ?_⟩⟩
      have tk1 : Tk H (upd Hi p u1) := (but.trans But.upd).tk hpl
      refine ⟨_, rfl, _, rfl, _, _, _, _, rfl, rfl, tk1.seq hz, atI_nat (j := 2) rfl, _, _, rfl, rfl, p, u1, n + 1 + 5 * ((1 + k0).toNat : Int) + 1, s2 + 1, rfl, upd_same, pu1, by omega, by omega, by omega, fun k2 u2 f0 f1 pu2 => ⟨_, rfl, ?_⟩⟩
      refine ⟨(by show 3 ≤ sizeLine; rw [sizeLine_eq]; decide), fun T9 nT9 => ?_⟩
      have npl' : l ≠ p := npl
      have hb : upd (upd Hi p u1) p u2 = upd Hi p u2 := upd_upd
      rw [hb] at nT9 ⊢
      have hl1 : upd Hi p u2 l = some (.lst xs) := by rw [upd_ne npl']; exact hl
      have b9 : But p H (upd (upd Hi p u2) T9 (.tup [.int (1 + k1), .int k2, .ref l])) := (but.trans But.upd).trans (But.same (Same.upd nT9))
      have nT9p : T9 ≠ p := fun e => by rw [e, upd_same] at nT9; cases nT9
      have nT9H : H T9 = none := but.free (by rw [upd_ne nT9p] at nT9; exact nT9) nT9p
      refine k T9 l (1 + k1) k2 xs rs _ u2 nT9H nlH (fun e => by rw [e, hl1] at nT9; cases nT9) upd_same (by rw [upd_ne (ne_of_none hl1 nT9)]; exact hl1) ?_ (by omega) (by omega) f0 (by omega) (by omega) (by omega) ?_ (by rw [upd_ne nT9p.symm]; exact upd_same) (pu2.mono (by omega)) b9
      · have tk2 : Tk Hi (upd (upd Hi p u2) T9 (.tup [.int (1 + k1), .int k2, .ref l])) := by
          obtain ⟨a, b', c, eu, _⟩ := puu
          have : But p Hi (upd (upd Hi p u2) T9 (.tup [.int (1 + k1), .int k2, .ref l])) := (But.upd).trans (But.same (Same.upd nT9))
          exact this.tk (by rw [hu, eu])
        exact rows_keep tk2 hrs
      · intro r hrm
        rw [hlen']
        exact hgood r hrm
theorem kb_Rule_states_every_losses (T : Txt K mg A) : KBn K A.d_Rule__init ["self", "every", "losses", "states"] 1 ["states", "every", "losses"] (kw3 fun a x y z => [a, y, z, x]) (kw3 fun a x y z => [a, y, z, x]) :=
  kbn_of T.F_Rule__init (fun kV doc pm an cdv ct us ws h1 h2 => match us, ws, h1, h2 with | [_], [_, _, _], _, _ => rfl) (kw3_rel fun a b c d => .cons a (.cons c (.cons d (.cons b .nil))))
theorem ok_refused (T : Txt K mg A) : FnOk P w K mg base CX0 6 A.f_refused A.d_refused ["apart", "missing", "rows", "named"] (spRefused K A.c_Rule) := by
  refine T.F_refused.ok sc_refused (fun vs H Q E h => ?_) (fun cdv Ar outer s H vs Q E hr h => ?_)
  · obtain ⟨l, e, lo, nm, xs, rs, rfl, _⟩ := h
    rfl
  · obtain ⟨l, e, lo, nm, xs, rs, rfl, hl, hrs, h9, h1000, xe, xl, xn, xb, k⟩ := h
    refine ⟨_, (pss_cons (ps_set (i := 4) sc_refused.nd rfl (Or.inl rfl) pe_non)
      (pss_cons (ps_try_cls rfl rfl sc_refused.nd takes0 (fun W pn xe tk _ => by exact (pss_one (ps_set (i := 4) sc_refused.nd rfl (Or.inl rfl) (pe_ifExp (pt_val (pv 3)) (pe_makeKS T.m_Rule (ok_Rule__init T) (hr.mono (by decide)) rfl T.g_Rule (kb_Rule_states_every_losses T) (fun τ => passAt tk τ) (pk_cons (pv 2) (pk_cons (pv 0) (pk_cons (pv 1) pk_nil)))) (pe_makeS T.m_Rule (ok_Rule__init T) (hr.mono (by decide)) rfl T.g_Rule T.B_Rule__init (fun τ => passAt tk τ) (pa_cons (pv 0) (pa_cons (pv 1) (pa_cons (pv 2) pa_nil)))))))) (.cons (c := ⟨_, 5, _⟩) ⟨rfl, by decide, .inl T.x_InvalidNumber.gl⟩ rfl rfl (fun _ _ _ _ _ hz hf => by exact (pss_one (ps_set (i := 4) sc_refused.nd rfl (Or.inl rfl) (pe_tup (pa_cons pe_str (pa_cons (pe_val T.x_InvalidNumber hz hf (pv 5)) pa_nil)))))) (.cons (c := ⟨_, 5, _⟩) ⟨rfl, by decide, .inl T.x_InvalidState.gl⟩ rfl rfl (fun _ _ _ _ _ hz hf => by exact (pss_one (ps_set (i := 4) sc_refused.nd rfl (Or.inl rfl) (pe_tup (pa_cons pe_str (pa_cons (pe_val T.x_InvalidState hz hf (pv 5)) pa_nil)))))) .nil)))
      (pss_one (ps_ret (pv 4))))), ?_⟩
    refine ⟨.bl nm, rfl, nm, rfl, ?_⟩
    have two : 2 ≤ sizeLine := by rw [sizeLine_eq]; decide
    have s0 : ∀ x dx : Addr, H x = none → H dx = none → Same H (upd (upd H dx (.own x)) x (.ins A.c_Rule dx [])) := fun x dx nx nd b o q => by
      rw [upd_ne (ne_of_none q nx), upd_ne (ne_of_none q nd)]
      exact q
    cases nm
    · refine ⟨_, rfl, _, rfl, _, rfl, fun x dx nx nd ne => ?_⟩
      have sm0 := s0 x dx nx nd
      refine ⟨x, dx, l, e, lo, xs, rs, rfl, upd_same, sm0.seq hl, dpAll_keep sm0 hrs, h9, h1000, fun c d H' nd sm hd => ?_, fun c1 c d H' nd sm hd => ?_, fun c1 c2 c d H' nd sm hd => ?_, fun c1 c2 i r hi hb hg d H' nd sm hd => ?_, fun c1 c2 ne all l2 H' nl2 ha hl2 oth => ?_⟩
      · exact ⟨true, T.em_InvalidNumber, fun _ a na => ⟨_, rfl, rfl, rfl, d, _, _, rfl, hd, rfl, two, fun p np => ⟨_, rfl, xe c p _ (Same.then (sm0.trans sm) np) upd_same⟩⟩, fun z => nomatch z⟩
      · exact ⟨true, T.em_InvalidNumber, fun _ a na => ⟨_, rfl, rfl, rfl, d, _, _, rfl, hd, rfl, two, fun p np => ⟨_, rfl, xl c1 c p _ (Same.then (sm0.trans sm) np) upd_same⟩⟩, fun z => nomatch z⟩
      · exact ⟨false, T.ex_InvalidState_InvalidNumber, (fun z => nomatch z), fun _ => ⟨true, T.em_InvalidState, fun _ a na => ⟨_, rfl, rfl, rfl, d, _, _, rfl, hd, rfl, two, fun p np => ⟨_, rfl, xn c1 c2 c p _ (Same.then (sm0.trans sm) np) upd_same⟩⟩, fun z => nomatch z⟩⟩
      · exact ⟨false, T.ex_InvalidState_InvalidNumber, (fun z => nomatch z), fun _ => ⟨true, T.em_InvalidState, fun _ a na => ⟨_, rfl, rfl, rfl, d, _, _, rfl, hd, rfl, two, fun p np => ⟨_, rfl, xb c1 c2 i r hi hb hg p _ (Same.then (sm0.trans sm) np) upd_same⟩⟩, fun z => nomatch z⟩⟩
      · have smF : Same H H' := fun b o q => oth b o (sm0 b o q) (ne_of_none q nx)
        exact ⟨rfl, _, rfl, k c1 c2 ne all x H' smF ⟨dx, l2, xs, ha, hl2, dpAll_keep smF hrs⟩⟩
    · refine ⟨_, rfl, _, rfl, _, rfl, rfl, fun x dx nx nd ne => ?_⟩
      have sm0 := s0 x dx nx nd
      refine ⟨x, dx, l, e, lo, xs, rs, rfl, upd_same, sm0.seq hl, dpAll_keep sm0 hrs, h9, h1000, fun c d H' nd sm hd => ?_, fun c1 c d H' nd sm hd => ?_, fun c1 c2 c d H' nd sm hd => ?_, fun c1 c2 i r hi hb hg d H' nd sm hd => ?_, fun c1 c2 ne all l2 H' nl2 ha hl2 oth => ?_⟩
      · exact ⟨true, T.em_InvalidNumber, fun _ a na => ⟨_, rfl, rfl, rfl, d, _, _, rfl, hd, rfl, two, fun p np => ⟨_, rfl, xe c p _ (Same.then (sm0.trans sm) np) upd_same⟩⟩, fun z => nomatch z⟩
      · exact ⟨true, T.em_InvalidNumber, fun _ a na => ⟨_, rfl, rfl, rfl, d, _, _, rfl, hd, rfl, two, fun p np => ⟨_, rfl, xl c1 c p _ (Same.then (sm0.trans sm) np) upd_same⟩⟩, fun z => nomatch z⟩
      · exact ⟨false, T.ex_InvalidState_InvalidNumber, (fun z => nomatch z), fun _ => ⟨true, T.em_InvalidState, fun _ a na => ⟨_, rfl, rfl, rfl, d, _, _, rfl, hd, rfl, two, fun p np => ⟨_, rfl, xn c1 c2 c p _ (Same.then (sm0.trans sm) np) upd_same⟩⟩, fun z => nomatch z⟩⟩
      · exact ⟨false, T.ex_InvalidState_InvalidNumber, (fun z => nomatch z), fun _ => ⟨true, T.em_InvalidState, fun _ a na => ⟨_, rfl, rfl, rfl, d, _, _, rfl, hd, rfl, two, fun p np => ⟨_, rfl, xb c1 c2 i r hi hb hg p _ (Same.then (sm0.trans sm) np) upd_same⟩⟩, fun z => nomatch z⟩⟩
      · have smF : Same H H' := fun b o q => oth b o (sm0 b o q) (ne_of_none q nx)
        exact ⟨rfl, _, rfl, k c1 c2 ne all x H' smF ⟨dx, l2, xs, ha, hl2, dpAll_keep smF hrs⟩⟩
theorem okG_right (T : Txt K mg A) : FnG P w K mg base CX0 7 A.f_right A.d_right ["purse"] spRight := by
  refine fnG_ok T.F_right sc_right (fun vs H Q E h => ?_) (fun cdv Ar outer s H vs Q E hg h => ?_)
  · obtain ⟨p, o, n, rfl, _⟩ := h
    rfl
  · obtain ⟨p, o, n, rfl, hp, pu, hn, k⟩ := h
    have hr := hg.room
    have few2 : 2 ≤ sizeLine := by rw [sizeLine_eq]; decide
    have few3 : 3 ≤ sizeLine := by rw [sizeLine_eq]; decide
    have few5 : 5 ≤ sizeLine := by rw [sizeLine_eq]; decide
    obtain ⟨ys0, eo⟩ := pu.lst
    have hp0 : H p = some (.lst ys0) := by rw [hp, eo]
    refine ⟨_, (pss_cons (ps_par (i := 1) (j := 2) rfl sc_right.nd rfl rfl (by decide) rfl rfl (pa_cons (pe_call (ok_drawn_rule T) (hr.mono (by decide)) rfl T.g_drawn_rule T.F_drawn_rule.kp T.B_drawn_rule .nil pass0 (pa_cons (pv 0) (pa_cons (pe_tup (pa_cons pe_int (pa_cons pe_int (pa_cons pe_int pa_nil)))) pa_nil))) (pa_cons (pe_op op_add pe_int (pe_call (ok_coin T) (hr.mono (by decide)) rfl T.g_coin T.F_coin.kp T.B_coin .nil pass0 (pa_cons (pv 0) (pa_cons pe_int pa_nil)))) pa_nil)) rfl)
      (pss_cons (ps_asg (pv 1) (pg_tup rfl (pgs_cons (pg_name (i := 3) sc_right.nd rfl (Or.inl rfl)) (pgs_cons (pg_name (i := 4) sc_right.nd rfl (Or.inl rfl)) (pgs_cons (pg_name (i := 5) sc_right.nd rfl (Or.inl rfl)) pgs_nil)))))
      (pss_cons (ps_set (i := 6) sc_right.nd rfl (Or.inl rfl) (pe_ix ix_list (pe_lst (pa_cons (pe_op op_powW pe_int pe_int) (pa_cons (pe_op op_powW pe_int pe_int) pa_nil))) (pe_call (ok_coin T) (hr.mono (by decide)) rfl T.g_coin T.F_coin.kp T.B_coin .nil pass0 (pa_cons (pv 0) (pa_cons pe_int pa_nil))) (fun _ _ => rfl)))
      (pss_cut (ps_if (pt_cmpR op_eq (pe_op op_mod (pe_callTy call_int1 rfl T.b_int (by decide +kernel) (pa_cons (pv 2) pa_nil)) pe_int) pe_int (nomark _)) (pss_one (ps_set (i := 3) sc_right.nd rfl (Or.inl rfl) (pe_ix ix_list (pe_lst (pa_cons pe_int (pa_cons (pe_un un_neg pe_int) (pa_cons (pe_un un_neg (pe_call (ok_coin T) (hr.mono (by decide)) rfl T.g_coin T.F_coin.kp T.B_coin .nil pass0 (pa_cons (pv 0) (pa_cons (pv 6) pa_nil)))) pa_nil)))) (pe_call (ok_coin T) (hr.mono (by decide)) rfl T.g_coin T.F_coin.kp T.B_coin .nil pass0 (pa_cons (pv 0) (pa_cons pe_int pa_nil))) (fun _ _ => rfl)))) pss_nil)
      (pss_cut (ps_if (pt_cmpR op_gt (pv 2) pe_int (nomark _)) (pss_one (ps_set (i := 4) sc_right.nd rfl (Or.inl rfl) (pe_ix ix_list (pe_lst (pa_cons (pe_un un_neg pe_int) (pa_cons (pe_op op_sub (pe_un un_neg pe_int) (pe_call (ok_coin T) (hr.mono (by decide)) rfl T.g_coin T.F_coin.kp T.B_coin .nil pass0 (pa_cons (pv 0) (pa_cons (pv 6) pa_nil)))) pa_nil))) (pe_call (ok_coin T) (hr.mono (by decide)) rfl T.g_coin T.F_coin.kp T.B_coin .nil pass0 (pa_cons (pv 0) (pa_cons pe_int pa_nil))) (fun _ _ => rfl)))) pss_nil)
      (pss_cons (ps_set (i := 7) sc_right.nd rfl (Or.inl rfl) (pe_call (ok_coin T) (hr.mono (by decide)) rfl T.g_coin T.F_coin.kp T.B_coin .nil pass0 (pa_cons (pv 0) (pa_cons pe_int pa_nil))))
      (pss_cut (ps_if (pt_cmpR op_eq (pv 7) pe_int (nomark _)) (pss_one (ps_set (i := 5) sc_right.nd rfl (Or.inl rfl) (pe_lst pa_nil))) pss_nil)
      (pss_cut (ps_if (pt_cmpR op_eq (pv 7) pe_int (nomark _)) (pss_one (ps_set (i := 5) sc_right.nd rfl (Or.inl rfl) (pe_op op_cat (pv 5) (pe_lst (pa_cons (pe_tup (pa_cons pe_bl (pa_cons pe_int (pa_cons (pe_op op_add (pe_op op_add (pe_callB call_len rfl T.b_len (by decide +kernel) (pa_cons (pv 5) pa_nil)) pe_int) (pe_call (ok_coin T) (hr.mono (by decide)) rfl T.g_coin T.F_coin.kp T.B_coin .nil pass0 (pa_cons (pv 0) (pa_cons pe_int pa_nil)))) (pa_cons pe_int (pa_cons (pe_un un_neg pe_int) pa_nil)))))) pa_nil))))) pss_nil)
      (pss_cut (ps_set (i := 8) sc_right.nd rfl (Or.inl rfl) (pe_tup (pa_cons pe_str (pa_cons (pe_ifExp (pt_cmpR op_eq (pe_op op_mod (pe_callTy call_int1 rfl T.b_int (by decide +kernel) (pa_cons (pv 2) pa_nil)) pe_int) pe_int (nomark _)) (pv 3) (pv 4)) pa_nil))))
      (pss_cons (ps_set (i := 9) sc_right.nd rfl (Or.inl rfl) (pe_callTy call_list_of rfl T.b_list (by decide +kernel) (pa_cons (pv 5) pa_nil)))
      (pss_cons (ps_for PassesOwn.never rfl (pi_range1 rfl T.b_range (pa_cons pe_int pa_nil)) (pg_name (i := 10) sc_right.nd rfl (Or.inl rfl))
      (pss_cons (ps_set (i := 11) sc_right.nd rfl (Or.inl rfl) (pe_cmpR op_eq (pe_call (ok_coin T) (hr.mono (by decide)) rfl T.g_coin T.F_coin.kp T.B_coin .nil pass0 (pa_cons (pv 0) (pa_cons pe_int pa_nil))) pe_int (nomark _)))
      (pss_one (ps_if (PW.pt (pw_or (pt_cmpR op_ne (pe_callB (call_repr hg) rfl T.b_repr (by decide +kernel) (pa_cons (pe_call (ok_refused T) (hr.mono (by decide)) rfl T.g_refused T.F_refused.kp T.B_refused .nil pass0 (pa_cons (pv 3) (pa_cons (pv 4) (pa_cons (pv 9) (pa_cons (pv 11) pa_nil))))) pa_nil)) (pe_callB (call_repr hg) rfl T.b_repr (by decide +kernel) (pa_cons (pv 8) pa_nil)) (nomark _)) (pw_or1 (pt_cmpR op_ne (pe_callB (call_repr hg) rfl T.b_repr (by decide +kernel) (pa_cons (pv 9) pa_nil)) (pe_callB (call_repr hg) rfl T.b_repr (by decide +kernel) (pa_cons (pv 5) pa_nil)) (nomark _))))) (pss_one (ps_ret pe_bl)) pss_nil))))
      (pss_cut (ps_if (PW.pt (pw_and (pt_cmpR op_eq (pe_op op_mod (pe_callTy call_int1 rfl T.b_int (by decide +kernel) (pa_cons (pv 2) pa_nil)) pe_int) pe_int (nomark _)) (pw_and1 (pt_cmpR op_gt (pv 2) pe_int (nomark _))))) (pss_one (ps_if (pt_cmpR op_ne (pe_callB (call_repr hg) rfl T.b_repr (by decide +kernel) (pa_cons (pe_call (ok_refused T) (hr.mono (by decide)) rfl T.g_refused T.F_refused.kp T.B_refused .nil pass0 (pa_cons (pe_ix ix_tup (pv 1) pe_int (fun _ _ => rfl)) (pa_cons (pv 4) (pa_cons (pv 9) (pa_cons (pe_cmpR op_eq (pv 7) pe_int (nomark _)) pa_nil))))) pa_nil)) (pe_callB (call_repr hg) rfl T.b_repr (by decide +kernel) (pa_cons (pe_tup (pa_cons pe_str (pa_cons (pv 4) pa_nil))) pa_nil)) (nomark _)) (pss_one (ps_ret pe_bl)) pss_nil)) pss_nil)
      (pss_cons (ps_set (i := 12) sc_right.nd rfl (Or.inl rfl) (pe_call (ok_refused T) (hr.mono (by decide)) rfl T.g_refused T.F_refused.kp T.B_refused .nil pass0 (pa_cons (pe_ix ix_tup (pv 1) pe_int (fun _ _ => rfl)) (pa_cons (pe_ix ix_tup (pv 1) pe_int (fun _ _ => rfl)) (pa_cons (pe_callTy call_list_of rfl T.b_list (by decide +kernel) (pa_cons (pe_ix ix_tup (pv 1) pe_int (fun _ _ => rfl)) pa_nil)) (pa_cons (pe_cmpR op_eq (pv 2) pe_int (nomark _)) pa_nil))))))
      (pss_one (ps_ret (pe_and (pe_callB (call_isC T.i_Rule) rfl T.b_isinstance (by decide +kernel) (pa_cons (pv 12) (pa_cons (pe_glob (v := .ref _) rfl T.g_Rule rfl) pa_nil))) (pe_one (pe_cmpR (op_eqD hr.units) (pe_lst (pa_cons (pe_prop (pv 12) T.c_Rule T.p_Rule_every (ok_Rule_every T) (hr.mono (by decide)) T.B_Rule_every .nil pass0 rfl) (pa_cons (pe_prop (pv 12) T.c_Rule T.p_Rule_losses (ok_Rule_losses T) (hr.mono (by decide)) T.B_Rule_losses .nil pass0 rfl) (pa_cons (pe_prop (pv 12) T.c_Rule T.p_Rule_states (ok_Rule_states T) (hr.mono (by decide)) T.B_Rule_states .nil pass0 rfl) pa_nil)))) (pe_lst (pa_cons (pe_ix ix_tup (pv 1) pe_int (fun _ _ => rfl)) (pa_cons (pe_ix ix_tup (pv 1) pe_int (fun _ _ => rfl)) (pa_cons (pe_ix ix_tup (pv 1) pe_int (fun _ _ => rfl)) pa_nil)))) (nomark _))))))))))))))))))), ?_⟩
    -- plan, wrong
    refine ⟨_, rfl, few3, fun z nz => ?_⟩
    have nzp : p ≠ z := ne_of_none hp nz
    refine ⟨p, z, n, o, 8, 99, 9, rfl, (by rw [upd_ne nzp]; exact hp), pu, by omega, SqT.of upd_same, by decide, by decide, by decide, by decide, by decide, by decide, fun t l e lo xs rs H1 u1 nt nl tl ht hl hrs e1 e9 l0 l9 r1 r8 good hu pu1 but0 => ?_⟩
    have butH : But p H H1 := (But.same (Same.upd nz)).trans but0
    have tp : t ≠ p := fun c => by rw [c, hu] at ht; obtain ⟨ys, eu⟩ := pu1.lst; rw [eu] at ht; cases ht
    have lp : l ≠ p := fun c => by rw [c, upd_ne nzp, hp] at nl; cases nl
    have lenx : xs.length = rs.length := rows_len hrs
    have rs8 : rs.length ≤ 8 := by omega
    have okrs : ∀ r ∈ rs, rowOk r := fun r hm => goodRow_ok (good r hm).1 (good r hm).2 (by omega)
    refine ⟨_, rfl, p, u1, n + 1000, 3, rfl, hu, pu1, by omega, by decide, by decide, fun k1 u2 k10 k13 pu2 => ⟨_, _, rfl, rfl, _, _, rfl, ?_⟩⟩
    -- from here on: what is so of a heap H'
    have facts : ∀ {H' : Hp}, But p H1 H' → H' t = some (.tup [.int e, .int lo, .ref l]) ∧ H' l = some (.lst xs) ∧ DpAll K H' xs (rowsD rs) := fun b => by
      obtain ⟨ys, eu⟩ := pu1.lst
      exact ⟨b _ _ ht tp, b _ _ hl lp, rows_keep (b.tk (by rw [hu, eu])) hrs⟩
    have b1 : But p H1 (upd H1 p u2) := But.upd
    obtain ⟨ht2, hl2, _⟩ := facts b1
    -- apart, missing, rows = plan
    refine ⟨_, rfl, t, _, rfl, SqT.of ht2, rfl, _, _, rfl, _, _, rfl, _, _, rfl, rfl, ?_⟩
    -- top
    refine ⟨_, _, rfl, rfl, ⟨by decide, by decide, by decide⟩, _, _, rfl, rfl, ⟨by decide, by decide, by decide⟩, few2, fun L nL => ?_⟩
    have npL : p ≠ L := ne_of_none upd_same nL
    refine ⟨_, rfl, p, u2, n + 1000 + 1, 2, rfl, (by rw [upd_ne npL]; exact upd_same), pu2, by omega, by decide, by decide, fun k2 u3 k20 k22 pu3 => ?_⟩
    obtain ⟨v, ev, hv⟩ := at2 (a := .int (10 ^ (9 : Int).toNat)) (b := .int (10 ^ (40 : Int).toNat)) k20 k22
    obtain ⟨top, rfl, top0, top1⟩ : ∃ top : Int, v = .int top ∧ 0 < top ∧ top ≤ 10 ^ 40 := by
      rcases hv with ⟨_, rfl⟩ | ⟨_, rfl⟩
      · exact ⟨_, rfl, by decide, by decide⟩
      · exact ⟨_, rfl, by decide, by decide⟩
    have top2 : top < 2 ^ 200 := Int.lt_of_le_of_lt top1 (by decide)
    refine ⟨L, _, _, _, rfl, rfl, SqL.of (by rw [upd_ne npL.symm]; exact upd_same), ev, ?_⟩
    have b2 : But p H1 (upd (upd (upd H1 p u2) L (.lst [.int (10 ^ (9 : Int).toNat), .int (10 ^ (40 : Int).toNat)])) p u3) := (b1.trans (But.same (Same.upd nL))).trans But.upd
    have hp3 : upd (upd (upd H1 p u2) L (.lst [.int (10 ^ (9 : Int).toNat), .int (10 ^ (40 : Int).toNat)])) p u3 p = some u3 := upd_same
    generalize upd (upd (upd H1 p u2) L (.lst [.int (10 ^ (9 : Int).toNat), .int (10 ^ (40 : Int).toNat)])) p u3 = H3 at b2 hp3 ⊢
    -- if int(wrong) % 2 == 1: apart = ..
    refine ⟨fun σ' H' => ∃ (ap : Int) (u : HO), σ' = [some (.ref p), some (.ref t), some (.int (1 + k1)), some (.int ap), some (.int lo), some (.ref l), some (.int top), none, none, none, none, none, none] ∧ H' p = some u ∧ Pu (n + 1100) u ∧ But p H1 H' ∧
      ((1 + k1) % 2 = 1 → ap < 1 ∧ -(10 ^ 40) ≤ ap) ∧ ((1 + k1) % 2 ≠ 1 → ap = e), ?_, ?_⟩
    · refine ⟨_, rfl, .inl ⟨_, rfl, _, _, rfl, rfl, (by show (0 : Int) < 2; decide), rfl, _, rfl, ?_⟩⟩
      refine ite2 (fun c => ?_) (fun c => ?_)
      · have c1 : (1 + k1) % 2 = 1 := V.int.inj (of_decide_eq_true c)
        refine ⟨_, rfl, _, rfl, _, rfl, p, u3, n + 1000 + 1 + 1, top, rfl, hp3, pu3, by omega, top0, top2, fun k3 u4 k30 k3t pu4 => ⟨_, rfl, few3, fun L2 nL2 => ?_⟩⟩
        have npL2 : p ≠ L2 := ne_of_none upd_same nL2
        refine ⟨_, rfl, p, u4, n + 1000 + 1 + 1 + 1, 3, rfl, (by rw [upd_ne npL2]; exact upd_same), pu4, by omega, by decide, by decide, fun k4 u5 k40 k43 pu5 => ?_⟩
        obtain ⟨v, ev, hv⟩ := at3 (a := .int 0) (b := .int (-1)) (c := .int (-k3)) k40 k43
        obtain ⟨ap, rfl, ap0, ap1⟩ : ∃ ap : Int, v = .int ap ∧ ap < 1 ∧ -(10 ^ 40) ≤ ap := by
          rcases hv with ⟨_, rfl⟩ | ⟨_, rfl⟩ | ⟨_, rfl⟩
          · exact ⟨_, rfl, by decide, by decide⟩
          · exact ⟨_, rfl, by decide, by decide⟩
          · exact ⟨_, rfl, by omega, by omega⟩
        refine ⟨L2, _, _, _, rfl, rfl, SqL.of (by rw [upd_ne npL2.symm]; exact upd_same), ev, ap, u5, rfl, upd_same, pu5.mono (by omega), ?_, fun _ => ⟨ap0, ap1⟩, fun z => absurd c1 z⟩
        exact ((b2.trans But.upd).trans (But.same (Same.upd nL2))).trans But.upd
      · exact ⟨e, u3, rfl, hp3, pu3.mono (by omega), b2, fun z => absurd (decide_eq_true (congrArg V.int z)) c, fun _ => rfl⟩
    rintro σ4 H4 ⟨ap, u4, rfl, hp4, pu4, b4, apW, apR⟩
    -- if wrong > 1: missing = ..
    refine ⟨fun σ' H' => ∃ (mi : Int) (u : HO), σ' = [some (.ref p), some (.ref t), some (.int (1 + k1)), some (.int ap), some (.int mi), some (.ref l), some (.int top), none, none, none, none, none, none] ∧ H' p = some u ∧ Pu (n + 1200) u ∧ But p H1 H' ∧
      (1 + k1 > 1 → mi < 0 ∧ -(10 ^ 40 + 1) ≤ mi) ∧ (¬ 1 + k1 > 1 → mi = lo), ?_, ?_⟩
    · refine ⟨_, rfl, _, _, rfl, rfl, _, rfl, ?_⟩
      refine ite2 (fun c => ?_) (fun c => ?_)
      · have c1 : 1 + k1 > 1 := of_decide_eq_true c
        refine ⟨_, rfl, _, rfl, _, rfl, _, rfl, p, u4, n + 1100, top, rfl, hp4, pu4, by omega, top0, top2, fun k3 u5 k30 k3t pu5 => ⟨_, _, rfl, rfl, few2, fun L2 nL2 => ?_⟩⟩
        have npL2 : p ≠ L2 := ne_of_none upd_same nL2
        refine ⟨_, rfl, p, u5, n + 1100 + 1, 2, rfl, (by rw [upd_ne npL2]; exact upd_same), pu5, by omega, by decide, by decide, fun k4 u6 k40 k42 pu6 => ?_⟩
        obtain ⟨v, ev, hv⟩ := at2 (a := .int (-1)) (b := .int (-1 - k3)) k40 k42
        obtain ⟨mi, rfl, mi0, mi1⟩ : ∃ mi : Int, v = .int mi ∧ mi < 0 ∧ -(10 ^ 40 + 1) ≤ mi := by
          rcases hv with ⟨_, rfl⟩ | ⟨_, rfl⟩
          · exact ⟨_, rfl, by decide, by decide⟩
          · exact ⟨_, rfl, by omega, by omega⟩
        refine ⟨L2, _, _, _, rfl, rfl, SqL.of (by rw [upd_ne npL2.symm]; exact upd_same), ev, mi, u6, rfl, upd_same, pu6.mono (by omega), ?_, fun _ => ⟨mi0, mi1⟩, fun z => absurd c1 z⟩
        exact ((b4.trans But.upd).trans (But.same (Same.upd nL2))).trans But.upd
      · exact ⟨lo, u4, rfl, hp4, pu4.mono (by omega), b4, fun z => absurd (decide_eq_true z) c, fun _ => rfl⟩
    rintro σ5 H5 ⟨mi, u5, rfl, hp5, pu5, b5, miW, miR⟩
    -- kind
    refine ⟨_, rfl, p, u5, n + 1200, 3, rfl, hp5, pu5, by omega, by decide, by decide, fun kind u6 kd0 kd3 pu6 => ?_⟩
    have b6 : But p H1 (upd H5 p u6) := b5.trans But.upd
    have hp6 : upd H5 p u6 p = some u6 := upd_same
    generalize upd H5 p u6 = H6 at b6 hp6 ⊢
    obtain ⟨ht6, hl6, hr6⟩ := facts b6
    -- the rows: one of three; lr is not the purse
    refine ⟨fun σ' H' => ∃ (lr : Addr) (ys : List V) (qs : List Row), σ' = [some (.ref p), some (.ref t), some (.int (1 + k1)), some (.int ap), some (.int mi), some (.ref lr), some (.int top), some (.int kind), none, none, none, none, none] ∧ H' p = some u6 ∧ But p H1 H' ∧
      lr ≠ p ∧ H' lr = some (.lst ys) ∧ DpAll K H' ys (rowsD qs) ∧ qs.length ≤ 8 ∧ ∀ r ∈ qs, rowOk r, ?_, ?_⟩
    · refine ⟨_, rfl, rfl, _, rfl, ?_⟩
      refine ite2 (fun c => ?_) (fun c => ?_)
      · refine ⟨Nat.zero_le _, fun L2 nL2 => ⟨L2, [], [], rfl, ?_, b6.trans (But.same (Same.upd nL2)), (ne_of_none hp6 nL2).symm, upd_same, .nil, Nat.zero_le _, fun r hm => by simp at hm⟩⟩
        rw [upd_ne (ne_of_none hp6 nL2)]
        exact hp6
      · exact ⟨l, xs, rs, rfl, hp6, b6, lp, hl6, hr6, rs8, okrs⟩
    rintro σ7 H7 ⟨lr, ys, qs, rfl, hp7, b7, lrp, hlr, hys, q8, okq⟩
    have leny : ys.length = qs.length := rows_len hys
    refine ⟨fun σ' H' => ∃ (lr : Addr) (ys : List V) (qs : List Row) (u : HO), σ' = [some (.ref p), some (.ref t), some (.int (1 + k1)), some (.int ap), some (.int mi), some (.ref lr), some (.int top), some (.int kind), none, none, none, none, none] ∧ H' p = some u ∧ Pu (n + 1300) u ∧ But p H1 H' ∧
      lr ≠ p ∧ H' lr = some (.lst ys) ∧ DpAll K H' ys (rowsD qs) ∧ qs.length ≤ 9 ∧ ∀ r ∈ qs, rowOk r, ?_, ?_⟩
    · refine ⟨_, rfl, rfl, _, rfl, ?_⟩
      refine ite2 (fun c => ?_) (fun c => ?_)
      · refine ⟨_, rfl, _, rfl, _, _, rfl, .inl ⟨_, SqL.of hlr, rfl⟩, _, _, rfl, rfl, _, rfl, p, u6, n + 1200 + 1, 9, rfl, hp7, pu6, by omega, by decide, by decide, fun k5 u7 k50 k59 pu7 => ⟨_, _, rfl, rfl, _, rfl, few5, fun T1 nT1 => ⟨?_, fun L2 nL2 => ?_⟩⟩⟩
        · show 1 ≤ sizeLine
          rw [sizeLine_eq]
          decide
        have npT : p ≠ T1 := ne_of_none upd_same nT1
        have npL2 : p ≠ L2 := ne_of_none (by rw [upd_ne npT]; exact upd_same) nL2
        have lrT : lr ≠ T1 := ne_of_none (by rw [upd_ne lrp]; exact hlr) nT1
        have lrL : lr ≠ L2 := ne_of_none (by rw [upd_ne lrT, upd_ne lrp]; exact hlr) nL2
        refine ⟨lr, L2, ys, _, rfl, rfl, (by rw [upd_ne lrL, upd_ne lrT, upd_ne lrp]; exact hlr), upd_same, ?_, fun L3 nL3 => ?_⟩
        · show ys.length + 1 ≤ sizeLine
          rw [sizeLine_eq]
          omega
        have npL3 : p ≠ L3 := ne_of_none (by rw [upd_ne npL2, upd_ne npT]; exact upd_same) nL3
        have T1L2 : T1 ≠ L2 := ne_of_none upd_same nL2
        have T1L3 : T1 ≠ L3 := ne_of_none (by rw [upd_ne T1L2]; exact upd_same) nL3
        have s3 : Same (upd H7 p u7) (upd (upd (upd (upd H7 p u7) T1 (.tup [.bl true, .int 0, .int (↑ys.length + 1 + k5), .int 0, .int (-1)])) L2 (.lst [.ref T1])) L3 (.lst (ys ++ [.ref T1]))) := Same.then (Same.then (Same.upd nT1) nL2) nL3
        obtain ⟨zs, eu6⟩ := pu6.lst
        have tk : Tk H7 (upd (upd (upd (upd H7 p u7) T1 (.tup [.bl true, .int 0, .int (↑ys.length + 1 + k5), .int 0, .int (-1)])) L2 (.lst [.ref T1])) L3 (.lst (ys ++ [.ref T1]))) :=
          ((But.upd).trans (But.same s3)).tk (by rw [hp7, eu6])
        refine ⟨L3, ys ++ [.ref T1], qs ++ [(true, [0, ↑ys.length + 1 + k5, 0, -1])], u7, rfl, ?_, pu7.mono (by omega), (b7.trans But.upd).trans (But.same s3), npL3.symm, upd_same, ?_, ?_, ?_⟩
        · rw [upd_ne npL3, upd_ne npL2, upd_ne npT]
          exact upd_same
        · have er : rowsD (qs ++ [(true, [0, ↑ys.length + 1 + k5, 0, -1])]) = rowsD qs ++ [rowD (true, [0, ↑ys.length + 1 + k5, 0, -1])] := by unfold rowsD; rw [List.map_append]; rfl
          rw [er]
          refine dpAll_app (rows_keep tk hys) (.cons (row_dp (SqT.of ?_)) .nil)
          rw [upd_ne T1L3, upd_ne T1L2]
          exact upd_same
        · rw [List.length_append]
          show qs.length + 1 ≤ 9
          omega
        · intro r hm
          rcases List.mem_append.mp hm with hm | hm
          · exact okq r hm
          · rw [List.mem_singleton.mp hm]
            refine ⟨by show 4 ≤ 9; decide, fun q hq => ?_⟩
            have hq' : q = 0 ∨ q = ↑ys.length + 1 + k5 ∨ q = -1 := by
              simp at hq
              omega
            refine small_40 ?_ ?_
            · omega
            · omega
      · exact ⟨lr, ys, qs, u6, rfl, hp7, pu6.mono (by omega), b7, lrp, hlr, hys, by omega, okq⟩
    clear hp7 b7 lrp hlr hys q8 okq leny
    rintro σ8 H8 ⟨lr, ys, qs, u8, rfl, hp8, pu8, b8, lrp, hlr, hys, q9, okq⟩
    have leny : ys.length = qs.length := rows_len hys
    obtain ⟨ys1, eu1⟩ := pu1.lst
    have hp1 : H1 p = some (.lst ys1) := by rw [hu, eu1]
    have odd2 : ¬ (1 + k1) % 2 = 1 → 1 + k1 > 1 := by omega
    have smE : small e := small_40 (by omega) (by omega)
    have smA : small ap := by
      by_cases c : (1 + k1) % 2 = 1
      · have := apW c
        exact small_40 (by omega) (by omega)
      · rw [apR c]
        exact smE
    have smM : small mi := by
      by_cases c : 1 + k1 > 1
      · have := miW c
        exact small_40 (by omega) (by omega)
      · rw [miR c]
        exact small_40 (by omega) (by omega)
    -- due
    refine ⟨fun σ' H' => ∃ (d : Addr) (dv : Int), σ' = [some (.ref p), some (.ref t), some (.int (1 + k1)), some (.int ap), some (.int mi), some (.ref lr), some (.int top), some (.int kind), some (.ref d), none, none, none, none] ∧
      H' d = some (.tup [.str "number", .int dv]) ∧ H' p = some u8 ∧ But p H1 H' ∧ H' lr = some (.lst ys) ∧ DpAll K H' ys (rowsD qs) ∧ small dv ∧ ((1 + k1) % 2 = 1 → dv = ap) ∧ (¬ (1 + k1) % 2 = 1 → dv = mi), ?_, ?_⟩
    · refine ⟨_, rfl, .inl ⟨_, rfl, _, _, rfl, rfl, (by show (0 : Int) < 2; decide), rfl, _, rfl, ?_⟩⟩
      refine ite2 (fun c => ?_) (fun c => ?_)
      · have c1 : (1 + k1) % 2 = 1 := V.int.inj (of_decide_eq_true c)
        refine ⟨_, rfl, few2, fun d nd => ⟨d, ap, rfl, upd_same, ?_, b8.trans (But.same (Same.upd nd)), ?_, dpAll_keep (Same.upd nd) hys, smA, fun _ => rfl, fun z => absurd c1 z⟩⟩
        · rw [upd_ne (ne_of_none hp8 nd)]; exact hp8
        · rw [upd_ne (ne_of_none hlr nd)]; exact hlr
      · have c1 : ¬ (1 + k1) % 2 = 1 := fun z => c (decide_eq_true (congrArg V.int z))
        refine ⟨_, rfl, few2, fun d nd => ⟨d, mi, rfl, upd_same, ?_, b8.trans (But.same (Same.upd nd)), ?_, dpAll_keep (Same.upd nd) hys, smM, fun z => absurd z c1, fun _ => rfl⟩⟩
        · rw [upd_ne (ne_of_none hp8 nd)]; exact hp8
        · rw [upd_ne (ne_of_none hlr nd)]; exact hlr
    clear hp8 b8 hlr hys
    rintro σ9 H9 ⟨d, dv, rfl, hd, hp9, b9, hlr, hys, smD, dvA, dvM⟩
    -- passed
    refine ⟨_, rfl, lr, ys, rfl, .inl (SqL.of hlr), fun lp nlp => ?_⟩
    have b10 : But p H1 (upd H9 lp (.lst ys)) := b9.trans (But.same (Same.upd nlp))
    have s10 : Same H9 (upd H9 lp (.lst ys)) := Same.upd nlp
    have hp10 := s10 _ _ hp9
    have hd10 := s10 _ _ hd
    have hlr10 := s10 _ _ hlr
    have hys10 := dpAll_keep s10 hys
    have hlp10 : upd H9 lp (.lst ys) lp = some (.lst ys) := upd_same
    have lpp : lp ≠ p := (ne_of_none hp9 nlp).symm
    generalize upd H9 lp (.lst ys) = H10 at b10 hp10 hd10 hlr10 hys10 hlp10 ⊢
    obtain ⟨ys8, eu8⟩ := pu8.lst
    have hp10' : H10 p = some (.lst ys8) := by rw [hp10, eu8]
    have dp : d ≠ p := fun c => by rw [c, hp10'] at hd10; cases hd10
    -- what is so behind: all but the purse as in H10
    have facts2 : ∀ {H' : Hp}, But p H10 H' → But p H1 H' ∧ H' d = some (.tup [.str "number", .int dv]) ∧ H' lp = some (.lst ys) ∧ H' lr = some (.lst ys) ∧ DpAll K H' ys (rowsD qs) := fun b =>
      ⟨b10.trans b, b _ _ hd10 dp, b _ _ hlp10 lpp, b _ _ hlr10 lrp, rows_keep (b.tk hp10') hys10⟩
    have shD : Shows (pairD "number" dv) := shows_pair smD (by decide +kernel) tame_number
    have shM : Shows (pairD "number" mi) := shows_pair smM (by decide +kernel) tame_number
    have shQ : Shows (.list (rowsD qs)) := shows_rows okq (by omega)
    have q9' : ∀ r ∈ qs, r.2.length ≤ 9 := fun r hm => (okq r hm).1
    refine ⟨_, rfl, by decide, by decide, for_it walk_range (fun j σ Hj => ∃ (v10 v11 : Option V) (u : HO), σ = [some (.ref p), some (.ref t), some (.int (1 + k1)), some (.int ap), some (.int mi), some (.ref lr), some (.int top), some (.int kind), some (.ref d), some (.ref lp), v10, v11, none] ∧
        Hj p = some u ∧ Pu (n + 1300 + j) u ∧ But p H10 Hj)
      ⟨none, none, u8, rfl, hp10, by simpa using pu8, But.refl⟩ (fun _ _ _ _ _ => trivial) ?_ ?_⟩
    · rintro j x σ H0 Hj hj ⟨v10, v11, u, rfl, hpj, puj, bj⟩ ⟨rfl, rfl⟩
      have j2 : j < 2 := hj
      refine ⟨_, rfl, p, u, n + 1300 + j, 2, rfl, hpj, puj, by omega, by decide, by decide, fun k3 u3 k30 k32 pu3 => ⟨rfl, ?_⟩⟩
      have bc : But p H10 (upd Hj p u3) := bj.trans But.upd
      have hpc : upd Hj p u3 p = some u3 := upd_same
      generalize upd Hj p u3 = Hc at bc hpc ⊢
      obtain ⟨bc1, hdc, hlpc, hlrc, hysc⟩ := facts2 bc
      have pu3' : Pu (n + 1300 + ((j + 1 : Nat) : Int)) u3 := pu3.mono (by omega)
      refine ⟨_, rfl, _, rfl, _, rfl, _, rfl, lp, ap, mi, _, ys, qs, rfl, SqL.of hlpc, hysc, q9', by omega, ?_, ?_, ?_, ?_, ?_⟩
      · intro c t2 H' sm ht2
        have od : (1 + k1) % 2 = 1 := by
          apply Classical.byContradiction
          intro z
          have := apR z
          omega
        rw [← dvA od] at ht2
        refine ⟨.ref t2, pairD "number" dv, rfl, pair_dp ht2, shD.sh, shD.dep, shD.len, _, rfl, .ref d, pairD "number" dv, rfl, pair_dp (sm _ _ hdc), shD.sh, shD.dep, shD.len, rfl, _, rfl, iteNS rfl ?_⟩
        refine ⟨_, rfl, .ref lp, _, rfl, rows_lst (sm _ _ hlpc) (dpAll_keep sm hysc), shQ.sh, shQ.dep, shQ.len, _, rfl, .ref lr, _, rfl, rows_lst (sm _ _ hlrc) (dpAll_keep sm hysc), shQ.sh, shQ.dep, shQ.len, rfl, _, rfl, iteNS rfl ?_⟩
        exact ⟨_, _, u3, rfl, sm _ _ hpc, pu3', bc.trans (But.same sm)⟩
      · intro c1 c t2 H' sm ht2
        have od : ¬ (1 + k1) % 2 = 1 := fun z => by
          have := apW z
          omega
        rw [← dvM od] at ht2
        refine ⟨.ref t2, pairD "number" dv, rfl, pair_dp ht2, shD.sh, shD.dep, shD.len, _, rfl, .ref d, pairD "number" dv, rfl, pair_dp (sm _ _ hdc), shD.sh, shD.dep, shD.len, rfl, _, rfl, iteNS rfl ?_⟩
        refine ⟨_, rfl, .ref lp, _, rfl, rows_lst (sm _ _ hlpc) (dpAll_keep sm hysc), shQ.sh, shQ.dep, shQ.len, _, rfl, .ref lr, _, rfl, rows_lst (sm _ _ hlrc) (dpAll_keep sm hysc), shQ.sh, shQ.dep, shQ.len, rfl, _, rfl, iteNS rfl ?_⟩
        exact ⟨_, _, u3, rfl, sm _ _ hpc, pu3', bc.trans (But.same sm)⟩
      · intro c1 c2
        exfalso
        by_cases od : (1 + k1) % 2 = 1
        · have := apW od
          omega
        · have := miW (odd2 od)
          omega
      · intro c1 c2
        exfalso
        by_cases od : (1 + k1) % 2 = 1
        · have := apW od
          omega
        · have := miW (odd2 od)
          omega
      · intro c1 c2
        exfalso
        by_cases od : (1 + k1) % 2 = 1
        · have := apW od
          omega
        · have := miW (odd2 od)
          omega
    rintro σ11 H11 ⟨v10, v11, u11, rfl, hp11, pu11, b11⟩
    have pu11' : Pu (n + 1310) u11 := pu11.mono (by omega)
    -- if int(wrong) % 2 == 1 and wrong > 1: ..
    refine ⟨fun σ' H' => σ' = [some (.ref p), some (.ref t), some (.int (1 + k1)), some (.int ap), some (.int mi), some (.ref lr), some (.int top), some (.int kind), some (.ref d), some (.ref lp), v10, v11, none] ∧ H' p = some u11 ∧ But p H10 H', ?_, ?_⟩
    · refine ⟨_, rfl, .inl ⟨_, rfl, _, _, rfl, rfl, (by show (0 : Int) < 2; decide), rfl, _, rfl, ?_⟩⟩
      refine ite2 (fun c => ?_) (fun c => ⟨rfl, hp11, b11⟩)
      refine ⟨_, rfl, _, _, rfl, rfl, _, rfl, ?_⟩
      refine ite2 (fun c2 => ?_) (fun c2 => ⟨rfl, hp11, b11⟩)
      have w1 : 1 + k1 > 1 := of_decide_eq_true c2
      obtain ⟨b1c, hdc, hlpc, hlrc, hysc⟩ := facts2 b11
      obtain ⟨htc, _, _⟩ := facts b1c
      have mi0 := (miW w1).1
      refine ⟨_, rfl, t, _, _, _, rfl, rfl, SqT.of htc, atI_nat (j := 0) rfl, _, rfl, _, rfl, _, rfl, rfl, lp, e, mi, _, ys, qs, rfl, SqL.of hlpc, hysc, q9', by omega, fun c => absurd c (by omega), fun _ _ t2 H' sm ht2 => ?_, fun _ c => absurd c (by omega), fun _ c => absurd c (by omega), fun _ c => absurd c (by omega)⟩
      refine ⟨.ref t2, pairD "number" mi, rfl, pair_dp ht2, shM.sh, shM.dep, shM.len, _, rfl, few2, fun d2 nd2 => ⟨.ref d2, pairD "number" mi, rfl, pair_dp upd_same, shM.sh, shM.dep, shM.len, rfl, _, rfl, iteNS rfl ?_⟩⟩
      refine ⟨rfl, ?_, (b11.trans (But.same sm)).trans (But.same (Same.upd nd2))⟩
      rw [upd_ne (ne_of_none (sm _ _ hp11) nd2)]
      exact sm _ _ hp11
    clear hp11 b11
    rintro σ12 H12 ⟨rfl, hp12, b12⟩
    obtain ⟨b1c, hdc, hlpc, hlrc, hysc⟩ := facts2 b12
    obtain ⟨htc, hlc, hrc⟩ := facts b1c
    -- made
    refine ⟨_, rfl, t, _, _, _, rfl, rfl, SqT.of htc, atI_nat (j := 0) rfl, _, rfl, t, _, _, _, rfl, rfl, SqT.of htc, atI_nat (j := 1) rfl, _, rfl, t, _, _, _, rfl, rfl, SqT.of htc, atI_nat (j := 2) rfl, l, xs, rfl, .inl (SqL.of hlc), fun l3 nl3 => ⟨_, rfl, rfl, l3, e, lo, _, xs, rs, rfl, SqL.of upd_same, dpAll_keep (Same.upd nl3) hrc, fun r hm => (okrs r hm).1, by omega,
      fun c => absurd c (by omega), fun _ c => absurd c (by omega), fun _ _ c => ?_, fun _ _ i r hi hb => ?_, fun _ _ _ _ a H' sm rule => ?_⟩⟩
    · exfalso
      rw [c] at r1
      exact absurd r1 (by decide)
    · exfalso
      rw [(good r (List.mem_of_getElem? hi)).1] at hb
      cases hb
    have smF : Same H12 H' := (Same.upd nl3).trans sm
    have bF : But p H1 H' := b1c.trans (But.same smF)
    have htF := smF _ _ htc
    have hlF := smF _ _ hlc
    have hrF := dpAll_keep smF hrc
    have hpF := smF _ _ hp12
    obtain ⟨dx, l2, xs2, ha, hl2, hx2⟩ := rule
    -- the answer
    refine ⟨_, rfl, a, dx, _, rfl, ha, _, rfl, ?_⟩
    refine ⟨_, rfl, a, dx, _, rfl, ha, a, dx, e, lo, l2, rfl, ha, _, rfl, a, dx, _, rfl, ha, a, dx, e, lo, l2, rfl, ha, _, rfl, a, dx, _, rfl, ha, a, dx, e, lo, l2, xs2, rfl, ha, hl2, fun q nq => ⟨few3, fun L1 nL1 => ?_⟩⟩
    have sA : Same H' (upd (upd H' q (.lst xs2)) L1 (.lst [.int e, .int lo, .ref q])) := Same.then (Same.upd nq) nL1
    have qL1 : q ≠ L1 := ne_of_none upd_same nL1
    have hq1 : upd (upd H' q (.lst xs2)) L1 (.lst [.int e, .int lo, .ref q]) q = some (.lst xs2) := by rw [upd_ne qL1]; exact upd_same
    have hL1 : upd (upd H' q (.lst xs2)) L1 (.lst [.int e, .int lo, .ref q]) L1 = some (.lst [.int e, .int lo, .ref q]) := upd_same
    generalize upd (upd H' q (.lst xs2)) L1 (.lst [.int e, .int lo, .ref q]) = HA at sA hq1 hL1 ⊢
    refine ⟨_, rfl, t, _, _, _, rfl, rfl, SqT.of (sA _ _ htF), atI_nat (j := 0) rfl, _, rfl, t, _, _, _, rfl, rfl, SqT.of (sA _ _ htF), atI_nat (j := 1) rfl, _, rfl, t, _, _, _, rfl, rfl, SqT.of (sA _ _ htF), atI_nat (j := 2) rfl, few3, fun L2 nL2 => ?_⟩
    have sB : Same HA (upd HA L2 (.lst [.int e, .int lo, .ref l])) := Same.upd nL2
    have tmR : tame (.list [.int e, .int lo, .list (rowsD rs)]) := by
      simp only [tame, tameAll, and_true]
      exact ⟨smE, small_40 (by omega) (by omega), tame_rows rs okrs⟩
    have dpR : PyData.depth (.list [.int e, .int lo, .list (rowsD rs)]) ≤ 64 := by
      have := depth_rows rs
      simp only [PyData.depth, PyData.depthAll]
      omega
    refine ⟨.list [.int e, .int lo, .list (rowsD rs)], .list [.int e, .int lo, .list (rowsD rs)], ?_, ?_, shaped_of (tame_lay _ tmR) dpR, shaped_of (tame_lay _ tmR) dpR, ?_⟩
    · exact .lst (SqL.of (sB _ _ hL1)) (.cons (.int _) (.cons (.int _) (.cons (rows_lst (sB _ _ hq1) (dpAll_keep (sA.trans sB) hx2)) .nil)))
    · exact .lst (SqL.of upd_same) (.cons (.int _) (.cons (.int _) (.cons (rows_lst ((sA.trans sB) _ _ hlF) (dpAll_keep (sA.trans sB) hrF)) .nil)))
    · rw [eqv_tame tmR]
      exact k _ u11 ((sA.trans sB) _ _ hpF) (pu11'.mono (by omega)) ((butH.trans bF).trans (But.same (sA.trans sB)))
theorem okG_law (T : Txt K mg A) : FnG P w K mg base CX0 8 A.f_law A.d_law ["script"] (spLaw K) := by
  refine fnG_ok T.F_law sc_law (fun vs H Q E h => ?_) (fun cdv Ar outer s H vs Q E hg h => ?_)
  · obtain ⟨a, ns, rfl, _⟩ := h
    rfl
  · obtain ⟨a, ns, rfl, hS, hlen, k⟩ := h
    have hr := hg.room
    refine ⟨_, (pss_cons (ps_for PassesOwn.never rfl (pi_range1 rfl T.b_range (pa_cons (pe_callB (call_max2 rfl) rfl T.b_max (by decide +kernel) (pa_cons pe_int (pa_cons (pe_callB (call_min2 rfl) rfl T.b_min (by decide +kernel) (pa_cons pe_int (pa_cons (pe_callB call_len rfl T.b_len (by decide +kernel) (pa_cons (pv 0) pa_nil)) pa_nil))) pa_nil))) pa_nil)) (pg_name (i := 1) sc_law.nd rfl (Or.inl rfl))
      (pss_cons (ps_set (i := 2) sc_law.nd rfl (Or.inl rfl) (pe_call (ok_purse T) (hr.mono (by decide)) rfl T.g_purse T.F_purse.kp T.B_purse .nil pass0 (pa_cons (pv 0) (pa_cons (pv 1) pa_nil))))
      (pss_one (ps_for PassesOwn.never rfl (pi_range1 rfl T.b_range (pa_cons pe_int pa_nil)) (pg_name (i := 3) sc_law.nd rfl (Or.inl rfl))
      (pss_one (ps_if (pt_not (pt_val (pe_callG (okG_right T) (hg.mono (by decide)) rfl T.g_right T.F_right.kp T.B_right .nil pass0 (pa_cons (pv 2) pa_nil)))) (pss_one (ps_ret pe_bl)) pss_nil))))))
      (pss_one (ps_ret pe_bl))), ?_⟩
    refine ⟨_, rfl, _, _, rfl, .inl ⟨_, hS, rfl⟩, _, _, rfl, _, _, rfl, _, rfl, ?_, ?_, for_it walk_range (fun i σ Hi => ∃ v1 v2 v3 : Option V, σ = [some (.ref a), v1, v2, v3] ∧ Same H Hi) ⟨none, none, none, rfl, Same.refl _⟩ (fun _ _ _ _ _ => trivial) ?_ ?_⟩
    · split <;> split <;> omega
    · rw [List.length_map]
      split <;> split <;> omega
    · rintro i x σ H0 Hi hi ⟨v1, v2, v3, rfl, sm⟩ ⟨rfl, rfl⟩
      have hi100 : i ≤ 100 := by
        rw [List.length_map] at hi
        revert hi
        split <;> split <;> omega
      refine ⟨_, rfl, _, rfl, a, ns, i, congrArg (fun z => [V.ref a, V.int z]) (Int.zero_add _), sm.seq hS, hlen, hi100, fun p u np pu => ?_⟩
      have npH : H p = none := sm.free np
      refine ⟨_, rfl, by decide, by decide, for_it walk_range (fun j σ Hj => ∃ (v3 : Option V) (u : HO), σ = [some (.ref a), some (.int (0 + (i : Int))), some (.ref p), v3] ∧ Same H Hj ∧ Hj p = some u ∧ Pu (10 ^ 6 * j) u) ⟨_, u, rfl, Same.then sm np, upd_same, by simpa using pu⟩ (fun _ _ _ _ _ => trivial) ?_ ?_⟩
      · rintro j x σ H0 Hj hj ⟨v3, u, rfl, smj, hu, puj⟩ ⟨rfl, rfl⟩
        have j2 : j < 2 := hj
        refine ⟨_, rfl, p, u, 10 ^ 6 * (j : Int), rfl, hu, puj, by omega, fun H' u' hu' pu' but => ⟨_, rfl, ?_⟩⟩
        refine ⟨_, u', rfl, But.new smj npH but, hu', ?_⟩
        have e : (10 : Int) ^ 6 * ((j + 1 : Nat) : Int) = 10 ^ 6 * (j : Int) + 10 ^ 6 := by omega
        rw [e]
        exact pu'
      · rintro σ Hj ⟨v3, u, rfl, smj, hu, puj⟩
        exact ⟨_, _, _, rfl, smj⟩
    · rintro σ Hi ⟨v1, v2, v3, rfl, sm⟩
      exact k Hi
end
set_option maxHeartbeats 0 in
theorem all_mk {l : PySem.W.OpenLaw} {w : World} {K : PySem.W.Frag} {h : Heap} {mg : Str → Option Value} {fa : Addr} (X : K.In h) (G : h.Ns mainGlobals mg) (hfa : mg "law" = some (.ref fa))
    {f_InvalidNumber__init : Addr} {od_InvalidNumber__init an_InvalidNumber__init : Option Addr} {sl_InvalidNumber__init : Array (Option Value)} {oc_InvalidNumber__init kV_InvalidNumber__init dc_InvalidNumber__init pm_InvalidNumber__init cd_InvalidNumber__init ct_InvalidNumber__init : Value}
    {f_InvalidState__init : Addr} {od_InvalidState__init an_InvalidState__init : Option Addr} {sl_InvalidState__init : Array (Option Value)} {oc_InvalidState__init kV_InvalidState__init dc_InvalidState__init pm_InvalidState__init cd_InvalidState__init ct_InvalidState__init : Value}
    {f_Rule__init : Addr} {od_Rule__init an_Rule__init : Option Addr} {sl_Rule__init : Array (Option Value)} {oc_Rule__init kV_Rule__init dc_Rule__init pm_Rule__init cd_Rule__init ct_Rule__init : Value}
    {f_Rule_every : Addr} {od_Rule_every an_Rule_every : Option Addr} {sl_Rule_every : Array (Option Value)} {oc_Rule_every kV_Rule_every dc_Rule_every pm_Rule_every cd_Rule_every ct_Rule_every : Value}
    {f_Rule_losses : Addr} {od_Rule_losses an_Rule_losses : Option Addr} {sl_Rule_losses : Array (Option Value)} {oc_Rule_losses kV_Rule_losses dc_Rule_losses pm_Rule_losses cd_Rule_losses ct_Rule_losses : Value}
    {f_Rule_states : Addr} {od_Rule_states an_Rule_states : Option Addr} {sl_Rule_states : Array (Option Value)} {oc_Rule_states kV_Rule_states dc_Rule_states pm_Rule_states cd_Rule_states ct_Rule_states : Value}
    {f_goes_on_within : Addr} {od_goes_on_within an_goes_on_within : Option Addr} {sl_goes_on_within : Array (Option Value)} {oc_goes_on_within kV_goes_on_within dc_goes_on_within pm_goes_on_within cd_goes_on_within ct_goes_on_within : Value}
    {f_purse : Addr} {od_purse an_purse : Option Addr} {sl_purse : Array (Option Value)} {oc_purse kV_purse dc_purse pm_purse cd_purse ct_purse : Value}
    {f_coin : Addr} {od_coin an_coin : Option Addr} {sl_coin : Array (Option Value)} {oc_coin kV_coin dc_coin pm_coin cd_coin ct_coin : Value}
    {f_drawn_rule : Addr} {od_drawn_rule an_drawn_rule : Option Addr} {sl_drawn_rule : Array (Option Value)} {oc_drawn_rule kV_drawn_rule dc_drawn_rule pm_drawn_rule cd_drawn_rule ct_drawn_rule : Value}
    {f_refused : Addr} {od_refused an_refused : Option Addr} {sl_refused : Array (Option Value)} {oc_refused kV_refused dc_refused pm_refused cd_refused ct_refused : Value}
    {f_right : Addr} {od_right an_right : Option Addr} {sl_right : Array (Option Value)} {oc_right kV_right dc_right pm_right cd_right ct_right : Value}
    {f_law : Addr} {od_law an_law : Option Addr} {sl_law : Array (Option Value)} {oc_law kV_law dc_law pm_law cd_law ct_law : Value}
    {c_InvalidNumber : Addr}
    {nm_InvalidNumber qu_InvalidNumber : Str} {N_InvalidNumber : Addr} {bs_InvalidNumber bm_InvalidNumber : List Value} {sn_InvalidNumber : List Str} {su_InvalidNumber : List Value} {ab_InvalidNumber : Bool} {co_InvalidNumber : Option Bool} {dd_InvalidNumber : Option Addr} {e0_InvalidNumber e1_InvalidNumber e2_InvalidNumber e3_InvalidNumber e5_InvalidNumber : Option Value}
    {c_InvalidState : Addr}
    {nm_InvalidState qu_InvalidState : Str} {N_InvalidState : Addr} {bs_InvalidState bm_InvalidState : List Value} {sn_InvalidState : List Str} {su_InvalidState : List Value} {ab_InvalidState : Bool} {co_InvalidState : Option Bool} {dd_InvalidState : Option Addr} {e0_InvalidState e1_InvalidState e2_InvalidState e3_InvalidState e5_InvalidState : Option Value}
    {c_Rule : Addr}
    {pa_Rule_every : Addr} {rs_Rule_every : List Value}
    {pa_Rule_losses : Addr} {rs_Rule_losses : List Value}
    {pa_Rule_states : Addr} {rs_Rule_states : List Value}
    (ac_InvalidNumber : PySem.W.nsIn K mainGlobals "InvalidNumber" = some (some (.ref c_InvalidNumber)))
    (i_InvalidNumber : PySem.W.findIn K (.ref c_InvalidNumber) "__init__" = some (some (.ref f_InvalidNumber__init)))
    (ac_InvalidState : PySem.W.nsIn K mainGlobals "InvalidState" = some (some (.ref c_InvalidState)))
    (i_InvalidState : PySem.W.findIn K (.ref c_InvalidState) "__init__" = some (some (.ref f_InvalidState__init)))
    (ac_Rule : PySem.W.nsIn K mainGlobals "Rule" = some (some (.ref c_Rule)))
    (i_Rule : PySem.W.findIn K (.ref c_Rule) "__init__" = some (some (.ref f_Rule__init)))
    (pt_Rule_every : PySem.W.findIn K (.ref c_Rule) "every" = some (some (.ref pa_Rule_every)))
    (pr_Rule_every : PySem.W.recIn K pa_Rule_every "property" = some (.ref f_Rule_every :: rs_Rule_every))
    (pt_Rule_losses : PySem.W.findIn K (.ref c_Rule) "losses" = some (some (.ref pa_Rule_losses)))
    (pr_Rule_losses : PySem.W.recIn K pa_Rule_losses "property" = some (.ref f_Rule_losses :: rs_Rule_losses))
    (pt_Rule_states : PySem.W.findIn K (.ref c_Rule) "states" = some (some (.ref pa_Rule_states)))
    (pr_Rule_states : PySem.W.recIn K pa_Rule_states "property" = some (.ref f_Rule_states :: rs_Rule_states))
    (l_InvalidNumber__init : K.lookup f_InvalidNumber__init = some ⟨oc_InvalidNumber__init, od_InvalidNumber__init, .func (PySem.W.fnOf "__init__" "InvalidNumber.__init__" (defArgs s_InvalidNumber__init) (defBody s_InvalidNumber__init) (defScope s_InvalidNumber__init) .none kV_InvalidNumber__init dc_InvalidNumber__init pm_InvalidNumber__init an_InvalidNumber__init cd_InvalidNumber__init ct_InvalidNumber__init), sl_InvalidNumber__init⟩)
    (c_InvalidNumber__init : PySem.W.codeIn K cd_InvalidNumber__init "InvalidNumber.__init__" = true)
    (k_InvalidNumber__init : PySem.W.keepIn K (.ref f_InvalidNumber__init) = true)
    (l_InvalidState__init : K.lookup f_InvalidState__init = some ⟨oc_InvalidState__init, od_InvalidState__init, .func (PySem.W.fnOf "__init__" "InvalidState.__init__" (defArgs s_InvalidState__init) (defBody s_InvalidState__init) (defScope s_InvalidState__init) .none kV_InvalidState__init dc_InvalidState__init pm_InvalidState__init an_InvalidState__init cd_InvalidState__init ct_InvalidState__init), sl_InvalidState__init⟩)
    (c_InvalidState__init : PySem.W.codeIn K cd_InvalidState__init "InvalidState.__init__" = true)
    (k_InvalidState__init : PySem.W.keepIn K (.ref f_InvalidState__init) = true)
    (l_Rule__init : K.lookup f_Rule__init = some ⟨oc_Rule__init, od_Rule__init, .func (PySem.W.fnOf "__init__" "Rule.__init__" (defArgs s_Rule__init) (defBody s_Rule__init) (defScope s_Rule__init) .none kV_Rule__init dc_Rule__init pm_Rule__init an_Rule__init cd_Rule__init ct_Rule__init), sl_Rule__init⟩)
    (c_Rule__init : PySem.W.codeIn K cd_Rule__init "Rule.__init__" = true)
    (k_Rule__init : PySem.W.keepIn K (.ref f_Rule__init) = true)
    (l_Rule_every : K.lookup f_Rule_every = some ⟨oc_Rule_every, od_Rule_every, .func (PySem.W.fnOf "every" "Rule.every" (defArgs s_Rule_every) (defBody s_Rule_every) (defScope s_Rule_every) .none kV_Rule_every dc_Rule_every pm_Rule_every an_Rule_every cd_Rule_every ct_Rule_every), sl_Rule_every⟩)
    (c_Rule_every : PySem.W.codeIn K cd_Rule_every "Rule.every" = true)
    (k_Rule_every : PySem.W.keepIn K (.ref f_Rule_every) = true)
    (l_Rule_losses : K.lookup f_Rule_losses = some ⟨oc_Rule_losses, od_Rule_losses, .func (PySem.W.fnOf "losses" "Rule.losses" (defArgs s_Rule_losses) (defBody s_Rule_losses) (defScope s_Rule_losses) .none kV_Rule_losses dc_Rule_losses pm_Rule_losses an_Rule_losses cd_Rule_losses ct_Rule_losses), sl_Rule_losses⟩)
    (c_Rule_losses : PySem.W.codeIn K cd_Rule_losses "Rule.losses" = true)
    (k_Rule_losses : PySem.W.keepIn K (.ref f_Rule_losses) = true)
    (l_Rule_states : K.lookup f_Rule_states = some ⟨oc_Rule_states, od_Rule_states, .func (PySem.W.fnOf "states" "Rule.states" (defArgs s_Rule_states) (defBody s_Rule_states) (defScope s_Rule_states) .none kV_Rule_states dc_Rule_states pm_Rule_states an_Rule_states cd_Rule_states ct_Rule_states), sl_Rule_states⟩)
    (c_Rule_states : PySem.W.codeIn K cd_Rule_states "Rule.states" = true)
    (k_Rule_states : PySem.W.keepIn K (.ref f_Rule_states) = true)
    (a_goes_on_within : PySem.W.nsIn K mainGlobals "goes_on_within" = some (some (.ref f_goes_on_within)))
    (l_goes_on_within : K.lookup f_goes_on_within = some ⟨oc_goes_on_within, od_goes_on_within, .func (PySem.W.fnOf "goes_on_within" "goes_on_within" (defArgs s_goes_on_within) (defBody s_goes_on_within) (defScope s_goes_on_within) .none kV_goes_on_within dc_goes_on_within pm_goes_on_within an_goes_on_within cd_goes_on_within ct_goes_on_within), sl_goes_on_within⟩)
    (c_goes_on_within : PySem.W.codeIn K cd_goes_on_within "goes_on_within" = true)
    (k_goes_on_within : PySem.W.keepIn K (.ref f_goes_on_within) = true)
    (a_purse : PySem.W.nsIn K mainGlobals "_law_purse" = some (some (.ref f_purse)))
    (l_purse : K.lookup f_purse = some ⟨oc_purse, od_purse, .func (PySem.W.fnOf "_law_purse" "_law_purse" (defArgs s_purse) (defBody s_purse) (defScope s_purse) .none kV_purse dc_purse pm_purse an_purse cd_purse ct_purse), sl_purse⟩)
    (c_purse : PySem.W.codeIn K cd_purse "_law_purse" = true)
    (k_purse : PySem.W.keepIn K (.ref f_purse) = true)
    (a_coin : PySem.W.nsIn K mainGlobals "_law_coin" = some (some (.ref f_coin)))
    (l_coin : K.lookup f_coin = some ⟨oc_coin, od_coin, .func (PySem.W.fnOf "_law_coin" "_law_coin" (defArgs s_coin) (defBody s_coin) (defScope s_coin) .none kV_coin dc_coin pm_coin an_coin cd_coin ct_coin), sl_coin⟩)
    (c_coin : PySem.W.codeIn K cd_coin "_law_coin" = true)
    (k_coin : PySem.W.keepIn K (.ref f_coin) = true)
    (a_drawn_rule : PySem.W.nsIn K mainGlobals "_law_drawn_rule" = some (some (.ref f_drawn_rule)))
    (l_drawn_rule : K.lookup f_drawn_rule = some ⟨oc_drawn_rule, od_drawn_rule, .func (PySem.W.fnOf "_law_drawn_rule" "_law_drawn_rule" (defArgs s_drawn_rule) (defBody s_drawn_rule) (defScope s_drawn_rule) .none kV_drawn_rule dc_drawn_rule pm_drawn_rule an_drawn_rule cd_drawn_rule ct_drawn_rule), sl_drawn_rule⟩)
    (c_drawn_rule : PySem.W.codeIn K cd_drawn_rule "_law_drawn_rule" = true)
    (k_drawn_rule : PySem.W.keepIn K (.ref f_drawn_rule) = true)
    (a_refused : PySem.W.nsIn K mainGlobals "_law_refused" = some (some (.ref f_refused)))
    (l_refused : K.lookup f_refused = some ⟨oc_refused, od_refused, .func (PySem.W.fnOf "_law_refused" "_law_refused" (defArgs s_refused) (defBody s_refused) (defScope s_refused) .none kV_refused dc_refused pm_refused an_refused cd_refused ct_refused), sl_refused⟩)
    (c_refused : PySem.W.codeIn K cd_refused "_law_refused" = true)
    (k_refused : PySem.W.keepIn K (.ref f_refused) = true)
    (a_right : PySem.W.nsIn K mainGlobals "_law_right" = some (some (.ref f_right)))
    (l_right : K.lookup f_right = some ⟨oc_right, od_right, .func (PySem.W.fnOf "_law_right" "_law_right" (defArgs s_right) (defBody s_right) (defScope s_right) .none kV_right dc_right pm_right an_right cd_right ct_right), sl_right⟩)
    (c_right : PySem.W.codeIn K cd_right "_law_right" = true)
    (k_right : PySem.W.keepIn K (.ref f_right) = true)
    (a_law : PySem.W.nsIn K mainGlobals "law" = some (some (.ref f_law)))
    (l_law : K.lookup f_law = some ⟨oc_law, od_law, .func (PySem.W.fnOf "law" "law" (defArgs s_law) (defBody s_law) (defScope s_law) .none kV_law dc_law pm_law an_law cd_law ct_law), sl_law⟩)
    (c_law : PySem.W.codeIn K cd_law "law" = true)
    (k_law : PySem.W.keepIn K (.ref f_law) = true)
    (xl_InvalidNumber : K.lookup c_InvalidNumber = some (excClassObj nm_InvalidNumber qu_InvalidNumber c_InvalidNumber N_InvalidNumber bs_InvalidNumber bm_InvalidNumber true sn_InvalidNumber su_InvalidNumber ab_InvalidNumber co_InvalidNumber dd_InvalidNumber e0_InvalidNumber e1_InvalidNumber e2_InvalidNumber e3_InvalidNumber e5_InvalidNumber "ValueError.__new__"))
    (rv_InvalidNumber : PySem.HandSPX.refsVE bm_InvalidNumber = true)
    (sa_InvalidNumber : PySem.W.findIn K (.ref c_InvalidNumber) "__setattr__" = some (some (.builtin "object.__setattr__")))
    (eC_InvalidNumber : PySem.W.subIn K (.ref c_InvalidNumber) (.type "BaseException") = some true)
    (tC_InvalidNumber : PySem.W.typeIn K (.ref c_InvalidNumber) = some (.type "type"))
    (kC_InvalidNumber : PySem.W.keepIn K (.ref c_InvalidNumber) = true)
    (nv_InvalidNumber : PySem.W.findIn K (.ref c_InvalidNumber) "value" = some none)
    (ga_InvalidNumber : PySem.W.findIn K (.ref c_InvalidNumber) "__getattribute__" = some (some (.builtin "BaseException.__getattribute__")))
    (gg_InvalidNumber : PySem.W.findIn K (.ref c_InvalidNumber) "__getattr__" = some none)
    (hd_InvalidNumber : PySem.W.hasDictIn K c_InvalidNumber = true)
    (tI_InvalidNumber : PySem.W.typeIn K (.ref f_InvalidNumber__init) = some (.type "function"))
    (iC_InvalidNumber : PySem.W.isClsIn K c_InvalidNumber = true)
    (ss_InvalidNumber : PySem.W.subIn K (.ref c_InvalidNumber) (.ref c_InvalidNumber) = some true)
    (xl_InvalidState : K.lookup c_InvalidState = some (excClassObj nm_InvalidState qu_InvalidState c_InvalidState N_InvalidState bs_InvalidState bm_InvalidState true sn_InvalidState su_InvalidState ab_InvalidState co_InvalidState dd_InvalidState e0_InvalidState e1_InvalidState e2_InvalidState e3_InvalidState e5_InvalidState "ValueError.__new__"))
    (rv_InvalidState : PySem.HandSPX.refsVE bm_InvalidState = true)
    (sa_InvalidState : PySem.W.findIn K (.ref c_InvalidState) "__setattr__" = some (some (.builtin "object.__setattr__")))
    (eC_InvalidState : PySem.W.subIn K (.ref c_InvalidState) (.type "BaseException") = some true)
    (tC_InvalidState : PySem.W.typeIn K (.ref c_InvalidState) = some (.type "type"))
    (kC_InvalidState : PySem.W.keepIn K (.ref c_InvalidState) = true)
    (nv_InvalidState : PySem.W.findIn K (.ref c_InvalidState) "value" = some none)
    (ga_InvalidState : PySem.W.findIn K (.ref c_InvalidState) "__getattribute__" = some (some (.builtin "BaseException.__getattribute__")))
    (gg_InvalidState : PySem.W.findIn K (.ref c_InvalidState) "__getattr__" = some none)
    (hd_InvalidState : PySem.W.hasDictIn K c_InvalidState = true)
    (tI_InvalidState : PySem.W.typeIn K (.ref f_InvalidState__init) = some (.type "function"))
    (iC_InvalidState : PySem.W.isClsIn K c_InvalidState = true)
    (ss_InvalidState : PySem.W.subIn K (.ref c_InvalidState) (.ref c_InvalidState) = some true)
    (if_Rule : PySem.W.isFn K (.ref f_Rule__init) = true)
    (pg_Rule : PySem.W.plainGet K c_Rule Str.empty = true)
    (hd_Rule : PySem.W.hasDictIn K c_Rule = true)
    (po_Rule : PySem.W.plainOver K c_Rule = true)
    (sa_Rule : PySem.W.findIn K (.ref c_Rule) "__setattr__" = some (some (.builtin "object.__setattr__")))
    (mk_Rule : PySem.W.makesIn K c_Rule = true)
    (kc_Rule : PySem.W.keepIn K (.ref c_Rule) = true)
    (n_Rule_every : PySem.W.findIn K (.ref c_Rule) "_every" = some none)
    (n_Rule_losses : PySem.W.findIn K (.ref c_Rule) "_losses" = some none)
    (n_Rule_states : PySem.W.findIn K (.ref c_Rule) "_states" = some none)
    (pget_Rule_every : PySem.W.specialIn K (.ref pa_Rule_every) "__get__" = some (some (.builtin "property.__get__")))
    (ptk_Rule_every : PySem.W.takesIn K (.ref pa_Rule_every) = some true)
    (pget_Rule_losses : PySem.W.specialIn K (.ref pa_Rule_losses) "__get__" = some (some (.builtin "property.__get__")))
    (ptk_Rule_losses : PySem.W.takesIn K (.ref pa_Rule_losses) = some true)
    (pget_Rule_states : PySem.W.specialIn K (.ref pa_Rule_states) "__get__" = some (some (.builtin "property.__get__")))
    (ptk_Rule_states : PySem.W.takesIn K (.ref pa_Rule_states) = some true)
    (cl_Rule : PySem.W.findIn K (.ref c_Rule) "__class__" = some (some (.builtin "object.__class__")))
    (cn_Rule : PySem.W.specialIn K (.builtin "object.__class__") "__get__" = some (some (.builtin "getset_descriptor.__get__")))
    (ct_Rule : PySem.W.takesIn K (.builtin "object.__class__") = some true)
    (co_Rule : PySem.W.mroIn K c_Rule (.type "object") = some true)
    (ci_Rule : PySem.W.kitOne K (.ref c_Rule) (.ref c_Rule) = some true)
    (ex_InvalidState_InvalidNumber : PySem.W.subIn K (.ref c_InvalidState) (.ref c_InvalidNumber) = some false)
    (ab_abs : PySem.W.nsIn K mainGlobals "abs" = some none)
    (ab_all : PySem.W.nsIn K mainGlobals "all" = some none)
    (ab_enumerate : PySem.W.nsIn K mainGlobals "enumerate" = some none)
    (ab_int : PySem.W.nsIn K mainGlobals "int" = some none)
    (ab_isinstance : PySem.W.nsIn K mainGlobals "isinstance" = some none)
    (ab_len : PySem.W.nsIn K mainGlobals "len" = some none)
    (ab_list : PySem.W.nsIn K mainGlobals "list" = some none)
    (ab_max : PySem.W.nsIn K mainGlobals "max" = some none)
    (ab_min : PySem.W.nsIn K mainGlobals "min" = some none)
    (ab_range : PySem.W.nsIn K mainGlobals "range" = some none)
    (ab_repr : PySem.W.nsIn K mainGlobals "repr" = some none)
    (ab_tuple : PySem.W.nsIn K mainGlobals "tuple" = some none)
    : ∃ fd : FuncData, (∀ (s : Shared) (v : Value), BindsTo s fd ⟨[v], []⟩ [("script", v)]) ∧ ∀ base : Heap, K.In base → base.Ns mainGlobals mg → FnG l.prog w K mg base CX0 8 fa fd ["script"] (sp_law K) := by
  have e := hfa.symm.trans (PySem.W.mg_of X G a_law)
  cases e
  have T : Txt K mg ⟨f_InvalidNumber__init, _, f_InvalidState__init, _, f_Rule__init, _, f_Rule_every, _, f_Rule_losses, _, f_Rule_states, _, f_goes_on_within, _, f_purse, _, f_coin, _, f_drawn_rule, _, f_refused, _, f_right, _, _, _, c_InvalidNumber, c_InvalidState, c_Rule, pa_Rule_every, pa_Rule_losses, pa_Rule_states⟩ :=
    { F_InvalidNumber__init := fun_mk (st := s_InvalidNumber__init) l_InvalidNumber__init c_InvalidNumber__init k_InvalidNumber__init,
      B_InvalidNumber__init := (fun_mk (st := s_InvalidNumber__init) l_InvalidNumber__init c_InvalidNumber__init k_InvalidNumber__init).binds (ps := ["self", "value"]) fun _ _ _ _ _ _ us hl => match us, hl with | [_, _], _ => rfl,
      F_InvalidState__init := fun_mk (st := s_InvalidState__init) l_InvalidState__init c_InvalidState__init k_InvalidState__init,
      B_InvalidState__init := (fun_mk (st := s_InvalidState__init) l_InvalidState__init c_InvalidState__init k_InvalidState__init).binds (ps := ["self", "value"]) fun _ _ _ _ _ _ us hl => match us, hl with | [_, _], _ => rfl,
      F_Rule__init := fun_mk (st := s_Rule__init) l_Rule__init c_Rule__init k_Rule__init,
      B_Rule__init := (fun_mk (st := s_Rule__init) l_Rule__init c_Rule__init k_Rule__init).binds (ps := ["self", "every", "losses", "states"]) fun _ _ _ _ _ _ us hl => match us, hl with | [_, _, _, _], _ => rfl,
      F_Rule_every := fun_mk (st := s_Rule_every) l_Rule_every c_Rule_every k_Rule_every,
      B_Rule_every := (fun_mk (st := s_Rule_every) l_Rule_every c_Rule_every k_Rule_every).binds (ps := ["self"]) fun _ _ _ _ _ _ us hl => match us, hl with | [_], _ => rfl,
      F_Rule_losses := fun_mk (st := s_Rule_losses) l_Rule_losses c_Rule_losses k_Rule_losses,
      B_Rule_losses := (fun_mk (st := s_Rule_losses) l_Rule_losses c_Rule_losses k_Rule_losses).binds (ps := ["self"]) fun _ _ _ _ _ _ us hl => match us, hl with | [_], _ => rfl,
      F_Rule_states := fun_mk (st := s_Rule_states) l_Rule_states c_Rule_states k_Rule_states,
      B_Rule_states := (fun_mk (st := s_Rule_states) l_Rule_states c_Rule_states k_Rule_states).binds (ps := ["self"]) fun _ _ _ _ _ _ us hl => match us, hl with | [_], _ => rfl,
      F_goes_on_within := fun_mk (st := s_goes_on_within) l_goes_on_within c_goes_on_within k_goes_on_within,
      g_goes_on_within := PySem.W.mg_of X G a_goes_on_within,
      B_goes_on_within := (fun_mk (st := s_goes_on_within) l_goes_on_within c_goes_on_within k_goes_on_within).binds (ps := ["state", "many"]) fun _ _ _ _ _ _ us hl => match us, hl with | [_, _], _ => rfl,
      F_purse := fun_mk (st := s_purse) l_purse c_purse k_purse,
      g_purse := PySem.W.mg_of X G a_purse,
      B_purse := (fun_mk (st := s_purse) l_purse c_purse k_purse).binds (ps := ["script", "place"]) fun _ _ _ _ _ _ us hl => match us, hl with | [_, _], _ => rfl,
      F_coin := fun_mk (st := s_coin) l_coin c_coin k_coin,
      g_coin := PySem.W.mg_of X G a_coin,
      B_coin := (fun_mk (st := s_coin) l_coin c_coin k_coin).binds (ps := ["purse", "many"]) fun _ _ _ _ _ _ us hl => match us, hl with | [_, _], _ => rfl,
      F_drawn_rule := fun_mk (st := s_drawn_rule) l_drawn_rule c_drawn_rule k_drawn_rule,
      g_drawn_rule := PySem.W.mg_of X G a_drawn_rule,
      B_drawn_rule := (fun_mk (st := s_drawn_rule) l_drawn_rule c_drawn_rule k_drawn_rule).binds (ps := ["purse", "sizes"]) fun _ _ _ _ _ _ us hl => match us, hl with | [_, _], _ => rfl,
      F_refused := fun_mk (st := s_refused) l_refused c_refused k_refused,
      g_refused := PySem.W.mg_of X G a_refused,
      B_refused := (fun_mk (st := s_refused) l_refused c_refused k_refused).binds (ps := ["apart", "missing", "rows", "named"]) fun _ _ _ _ _ _ us hl => match us, hl with | [_, _, _, _], _ => rfl,
      F_right := fun_mk (st := s_right) l_right c_right k_right,
      g_right := PySem.W.mg_of X G a_right,
      B_right := (fun_mk (st := s_right) l_right c_right k_right).binds (ps := ["purse"]) fun _ _ _ _ _ _ us hl => match us, hl with | [_], _ => rfl,
      F_law := fun_mk (st := s_law) l_law c_law k_law,
      g_law := PySem.W.mg_of X G a_law,
      B_law := (fun_mk (st := s_law) l_law c_law k_law).binds (ps := ["script"]) fun _ _ _ _ _ _ us hl => match us, hl with | [_], _ => rfl,
      g_InvalidNumber := PySem.W.mg_of X G ac_InvalidNumber,
      x_InvalidNumber := ⟨⟨⟨_, _, _, _, _, _, _, _, _, _, _, _, _, _, _, xl_InvalidNumber, rv_InvalidNumber⟩, sa_InvalidNumber, eC_InvalidNumber, tC_InvalidNumber, kC_InvalidNumber⟩, nv_InvalidNumber, ⟨ga_InvalidNumber, gg_InvalidNumber, eC_InvalidNumber, hd_InvalidNumber⟩, PySem.W.mg_of X G ac_InvalidNumber, i_InvalidNumber, tI_InvalidNumber, fun_mk (st := s_InvalidNumber__init) l_InvalidNumber__init c_InvalidNumber__init k_InvalidNumber__init, (fun_mk (st := s_InvalidNumber__init) l_InvalidNumber__init c_InvalidNumber__init k_InvalidNumber__init).binds (ps := ["self", "value"]) fun _ _ _ _ _ _ us hl => match us, hl with | [_, _], _ => rfl, sc_InvalidNumber__init, ⟨_, _, _, _, rfl⟩⟩,
      em_InvalidNumber := exm_same eC_InvalidNumber iC_InvalidNumber tC_InvalidNumber ss_InvalidNumber,
      g_InvalidState := PySem.W.mg_of X G ac_InvalidState,
      x_InvalidState := ⟨⟨⟨_, _, _, _, _, _, _, _, _, _, _, _, _, _, _, xl_InvalidState, rv_InvalidState⟩, sa_InvalidState, eC_InvalidState, tC_InvalidState, kC_InvalidState⟩, nv_InvalidState, ⟨ga_InvalidState, gg_InvalidState, eC_InvalidState, hd_InvalidState⟩, PySem.W.mg_of X G ac_InvalidState, i_InvalidState, tI_InvalidState, fun_mk (st := s_InvalidState__init) l_InvalidState__init c_InvalidState__init k_InvalidState__init, (fun_mk (st := s_InvalidState__init) l_InvalidState__init c_InvalidState__init k_InvalidState__init).binds (ps := ["self", "value"]) fun _ _ _ _ _ _ us hl => match us, hl with | [_, _], _ => rfl, sc_InvalidState__init, ⟨_, _, _, _, rfl⟩⟩,
      em_InvalidState := exm_same eC_InvalidState iC_InvalidState tC_InvalidState ss_InvalidState,
      g_Rule := PySem.W.mg_of X G ac_Rule,
      c_Rule := ⟨pg_Rule, hd_Rule, po_Rule, sa_Rule⟩,
      m_Rule := ⟨mk_Rule, i_Rule, if_Rule, kc_Rule⟩,
      n_Rule_every := n_Rule_every,
      n_Rule_losses := n_Rule_losses,
      n_Rule_states := n_Rule_states,
      p_Rule_every := ⟨pt_Rule_every, pget_Rule_every, ptk_Rule_every, ⟨_, pr_Rule_every⟩⟩,
      p_Rule_losses := ⟨pt_Rule_losses, pget_Rule_losses, ptk_Rule_losses, ⟨_, pr_Rule_losses⟩⟩,
      p_Rule_states := ⟨pt_Rule_states, pget_Rule_states, ptk_Rule_states, ⟨_, pr_Rule_states⟩⟩,
      i_Rule := ⟨⟨pg_Rule, hd_Rule, po_Rule, sa_Rule⟩, cl_Rule, cn_Rule, ct_Rule, co_Rule, ci_Rule⟩,
      ex_InvalidState_InvalidNumber := exm_two eC_InvalidNumber iC_InvalidNumber tC_InvalidNumber ex_InvalidState_InvalidNumber,
      b_abs := PySem.W.mg_none_of X G ab_abs,
      b_all := PySem.W.mg_none_of X G ab_all,
      b_enumerate := PySem.W.mg_none_of X G ab_enumerate,
      b_int := PySem.W.mg_none_of X G ab_int,
      b_isinstance := PySem.W.mg_none_of X G ab_isinstance,
      b_len := PySem.W.mg_none_of X G ab_len,
      b_list := PySem.W.mg_none_of X G ab_list,
      b_max := PySem.W.mg_none_of X G ab_max,
      b_min := PySem.W.mg_none_of X G ab_min,
      b_range := PySem.W.mg_none_of X G ab_range,
      b_repr := PySem.W.mg_none_of X G ab_repr,
      b_tuple := PySem.W.mg_none_of X G ab_tuple }
  exact ⟨PySem.W.fnOf "law" "law" (defArgs s_law) (defBody s_law) (defScope s_law) .none kV_law dc_law pm_law an_law cd_law ct_law, fun s v => .of_eq rfl, fun base _ _ => okG_law T⟩
end Lw
open PySem PySem.W PyProof.Rows
set_option maxRecDepth 100000 in
set_option maxHeartbeats 0 in
theorem PySem.Challenge.cw_oneforall_k02_numbers_refused_holds : PySem.Challenge.rw_oneforall_k02_numbers_refused.Holds := by
  w_on; o_law; k_head; (case hw => w_witness2)
  k_fill
  refine Ob.walkG (l := PySem.Challenge.rw_oneforall_k02_numbers_refused) (n := 63) (k := 8) (x := "script") (sp := Lw.sp_law) rfl (by decide) rfl ⟨⟨rfl, by decide, by decide⟩, rfl⟩ (fun w h Y => PySem.W.kIn_of Y) ?F (fun K H a ns hl _ hS => ⟨a, ns, rfl, hS, hl, fun _ => rfl⟩)
  case F =>
    intro w mg fa h KX G hmg
    refine' Lw.all_mk KX G hmg ?ac_InvalidNumber ?i_InvalidNumber ?ac_InvalidState ?i_InvalidState ?ac_Rule ?i_Rule ?pt_Rule_every ?pr_Rule_every ?pt_Rule_losses ?pr_Rule_losses ?pt_Rule_states ?pr_Rule_states ?l_InvalidNumber__init ?c_InvalidNumber__init ?k_InvalidNumber__init ?l_InvalidState__init ?c_InvalidState__init ?k_InvalidState__init ?l_Rule__init ?c_Rule__init ?k_Rule__init ?l_Rule_every ?c_Rule_every ?k_Rule_every ?l_Rule_losses ?c_Rule_losses ?k_Rule_losses ?l_Rule_states ?c_Rule_states ?k_Rule_states ?a_goes_on_within ?l_goes_on_within ?c_goes_on_within ?k_goes_on_within ?a_purse ?l_purse ?c_purse ?k_purse ?a_coin ?l_coin ?c_coin ?k_coin ?a_drawn_rule ?l_drawn_rule ?c_drawn_rule ?k_drawn_rule ?a_refused ?l_refused ?c_refused ?k_refused ?a_right ?l_right ?c_right ?k_right ?a_law ?l_law ?c_law ?k_law ?xl_InvalidNumber ?rv_InvalidNumber ?sa_InvalidNumber ?eC_InvalidNumber ?tC_InvalidNumber ?kC_InvalidNumber ?nv_InvalidNumber ?ga_InvalidNumber ?gg_InvalidNumber ?hd_InvalidNumber ?tI_InvalidNumber ?iC_InvalidNumber ?ss_InvalidNumber ?xl_InvalidState ?rv_InvalidState ?sa_InvalidState ?eC_InvalidState ?tC_InvalidState ?kC_InvalidState ?nv_InvalidState ?ga_InvalidState ?gg_InvalidState ?hd_InvalidState ?tI_InvalidState ?iC_InvalidState ?ss_InvalidState ?if_Rule ?pg_Rule ?hd_Rule ?po_Rule ?sa_Rule ?mk_Rule ?kc_Rule ?n_Rule_every ?n_Rule_losses ?n_Rule_states ?pget_Rule_every ?ptk_Rule_every ?pget_Rule_losses ?ptk_Rule_losses ?pget_Rule_states ?ptk_Rule_states ?cl_Rule ?cn_Rule ?ct_Rule ?co_Rule ?ci_Rule ?ex_InvalidState_InvalidNumber ?ab_abs ?ab_all ?ab_enumerate ?ab_int ?ab_isinstance ?ab_len ?ab_list ?ab_max ?ab_min ?ab_range ?ab_repr ?ab_tuple
    (case ac_InvalidNumber => first | k_is | rfl | decide +kernel)
    (case i_InvalidNumber => first | k_is | rfl | decide +kernel)
    (case ac_InvalidState => first | k_is | rfl | decide +kernel)
    (case i_InvalidState => first | k_is | rfl | decide +kernel)
    (case ac_Rule => first | k_is | rfl | decide +kernel)
    (case i_Rule => first | k_is | rfl | decide +kernel)
    (case pt_Rule_every => first | k_is | rfl | decide +kernel)
    (case pr_Rule_every => first | k_is | rfl | decide +kernel)
    (case pt_Rule_losses => first | k_is | rfl | decide +kernel)
    (case pr_Rule_losses => first | k_is | rfl | decide +kernel)
    (case pt_Rule_states => first | k_is | rfl | decide +kernel)
    (case pr_Rule_states => first | k_is | rfl | decide +kernel)
    (case l_InvalidNumber__init => first | k_is | rfl | decide +kernel)
    (case c_InvalidNumber__init => first | k_is | rfl | decide +kernel)
    (case k_InvalidNumber__init => first | k_is | rfl | decide +kernel)
    (case l_InvalidState__init => first | k_is | rfl | decide +kernel)
    (case c_InvalidState__init => first | k_is | rfl | decide +kernel)
    (case k_InvalidState__init => first | k_is | rfl | decide +kernel)
    (case l_Rule__init => first | k_is | rfl | decide +kernel)
    (case c_Rule__init => first | k_is | rfl | decide +kernel)
    (case k_Rule__init => first | k_is | rfl | decide +kernel)
    (case l_Rule_every => first | k_is | rfl | decide +kernel)
    (case c_Rule_every => first | k_is | rfl | decide +kernel)
    (case k_Rule_every => first | k_is | rfl | decide +kernel)
    (case l_Rule_losses => first | k_is | rfl | decide +kernel)
    (case c_Rule_losses => first | k_is | rfl | decide +kernel)
    (case k_Rule_losses => first | k_is | rfl | decide +kernel)
    (case l_Rule_states => first | k_is | rfl | decide +kernel)
    (case c_Rule_states => first | k_is | rfl | decide +kernel)
    (case k_Rule_states => first | k_is | rfl | decide +kernel)
    (case a_goes_on_within => first | k_is | rfl | decide +kernel)
    (case l_goes_on_within => first | k_is | rfl | decide +kernel)
    (case c_goes_on_within => first | k_is | rfl | decide +kernel)
    (case k_goes_on_within => first | k_is | rfl | decide +kernel)
    (case a_purse => first | k_is | rfl | decide +kernel)
    (case l_purse => first | k_is | rfl | decide +kernel)
    (case c_purse => first | k_is | rfl | decide +kernel)
    (case k_purse => first | k_is | rfl | decide +kernel)
    (case a_coin => first | k_is | rfl | decide +kernel)
    (case l_coin => first | k_is | rfl | decide +kernel)
    (case c_coin => first | k_is | rfl | decide +kernel)
    (case k_coin => first | k_is | rfl | decide +kernel)
    (case a_drawn_rule => first | k_is | rfl | decide +kernel)
    (case l_drawn_rule => first | k_is | rfl | decide +kernel)
    (case c_drawn_rule => first | k_is | rfl | decide +kernel)
    (case k_drawn_rule => first | k_is | rfl | decide +kernel)
    (case a_refused => first | k_is | rfl | decide +kernel)
    (case l_refused => first | k_is | rfl | decide +kernel)
    (case c_refused => first | k_is | rfl | decide +kernel)
    (case k_refused => first | k_is | rfl | decide +kernel)
    (case a_right => first | k_is | rfl | decide +kernel)
    (case l_right => first | k_is | rfl | decide +kernel)
    (case c_right => first | k_is | rfl | decide +kernel)
    (case k_right => first | k_is | rfl | decide +kernel)
    (case a_law => first | k_is | rfl | decide +kernel)
    (case l_law => first | k_is | rfl | decide +kernel)
    (case c_law => first | k_is | rfl | decide +kernel)
    (case k_law => first | k_is | rfl | decide +kernel)
    (case xl_InvalidNumber => first | k_is | rfl | decide +kernel)
    (case rv_InvalidNumber => first | k_is | rfl | decide +kernel)
    (case sa_InvalidNumber => first | k_is | rfl | decide +kernel)
    (case eC_InvalidNumber => first | k_is | rfl | decide +kernel)
    (case tC_InvalidNumber => first | k_is | rfl | decide +kernel)
    (case kC_InvalidNumber => first | k_is | rfl | decide +kernel)
    (case nv_InvalidNumber => first | k_is | rfl | decide +kernel)
    (case ga_InvalidNumber => first | k_is | rfl | decide +kernel)
    (case gg_InvalidNumber => first | k_is | rfl | decide +kernel)
    (case hd_InvalidNumber => first | k_is | rfl | decide +kernel)
    (case tI_InvalidNumber => first | k_is | rfl | decide +kernel)
    (case iC_InvalidNumber => first | k_is | rfl | decide +kernel)
    (case ss_InvalidNumber => first | k_is | rfl | decide +kernel)
    (case xl_InvalidState => first | k_is | rfl | decide +kernel)
    (case rv_InvalidState => first | k_is | rfl | decide +kernel)
    (case sa_InvalidState => first | k_is | rfl | decide +kernel)
    (case eC_InvalidState => first | k_is | rfl | decide +kernel)
    (case tC_InvalidState => first | k_is | rfl | decide +kernel)
    (case kC_InvalidState => first | k_is | rfl | decide +kernel)
    (case nv_InvalidState => first | k_is | rfl | decide +kernel)
    (case ga_InvalidState => first | k_is | rfl | decide +kernel)
    (case gg_InvalidState => first | k_is | rfl | decide +kernel)
    (case hd_InvalidState => first | k_is | rfl | decide +kernel)
    (case tI_InvalidState => first | k_is | rfl | decide +kernel)
    (case iC_InvalidState => first | k_is | rfl | decide +kernel)
    (case ss_InvalidState => first | k_is | rfl | decide +kernel)
    (case if_Rule => first | k_is | rfl | decide +kernel)
    (case pg_Rule => first | k_is | rfl | decide +kernel)
    (case hd_Rule => first | k_is | rfl | decide +kernel)
    (case po_Rule => first | k_is | rfl | decide +kernel)
    (case sa_Rule => first | k_is | rfl | decide +kernel)
    (case mk_Rule => first | k_is | rfl | decide +kernel)
    (case kc_Rule => first | k_is | rfl | decide +kernel)
    (case n_Rule_every => first | k_is | rfl | decide +kernel)
    (case n_Rule_losses => first | k_is | rfl | decide +kernel)
    (case n_Rule_states => first | k_is | rfl | decide +kernel)
    (case pget_Rule_every => first | k_is | rfl | decide +kernel)
    (case ptk_Rule_every => first | k_is | rfl | decide +kernel)
    (case pget_Rule_losses => first | k_is | rfl | decide +kernel)
    (case ptk_Rule_losses => first | k_is | rfl | decide +kernel)
    (case pget_Rule_states => first | k_is | rfl | decide +kernel)
    (case ptk_Rule_states => first | k_is | rfl | decide +kernel)
    (case cl_Rule => first | k_is | rfl | decide +kernel)
    (case cn_Rule => first | k_is | rfl | decide +kernel)
    (case ct_Rule => first | k_is | rfl | decide +kernel)
    (case co_Rule => first | k_is | rfl | decide +kernel)
    (case ci_Rule => first | k_is | rfl | decide +kernel)
    (case ex_InvalidState_InvalidNumber => first | k_is | rfl | decide +kernel)
    (case ab_abs => first | k_is | rfl | decide +kernel)
    (case ab_all => first | k_is | rfl | decide +kernel)
    (case ab_enumerate => first | k_is | rfl | decide +kernel)
    (case ab_int => first | k_is | rfl | decide +kernel)
    (case ab_isinstance => first | k_is | rfl | decide +kernel)
    (case ab_len => first | k_is | rfl | decide +kernel)
    (case ab_list => first | k_is | rfl | decide +kernel)
    (case ab_max => first | k_is | rfl | decide +kernel)
    (case ab_min => first | k_is | rfl | decide +kernel)
    (case ab_range => first | k_is | rfl | decide +kernel)
    (case ab_repr => first | k_is | rfl | decide +kernel)
    (case ab_tuple => first | k_is | rfl | decide +kernel)

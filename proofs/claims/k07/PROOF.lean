import PyProof.Rows.All
import Wide.All
import OpenK.AllK
import Wide.FinOn
import HandS.ForExc
import HandS.ForMost
import HandS.Conv
import HandS.ExcInit
import HandS.ExcField
import HandS.TryMany
import HandS.MakeKw
import HandS.MakeKwOnly
import HandS.Property
import HandS.IsInst
import HandS.Codes
import HandS.TupAny
import HandS.Wide
import HandS.SortInts
import HandS.Walk
import KE.KExcIs
import PySem.Challenge.RW_oneforall_k07_classes_of_errors
set_option Elab.async false
set_option linter.all false
set_option maxRecDepth 100000
set_option maxHeartbeats 4000000
/-! Ob1: calls that know that nothing is being shown (so that repr can be told), repr of data, powers, several named except clauses. -/
namespace Ob
open PySem PySem.Spec PyProof.Rows L2

/-! ### nothing is being shown -/
/-- room for k calls, and no repr runs around -/
structure Gd (k : Nat) (A : Around) : Prop where
  room : Room k A
  gs : A.guards = some []
theorem Gd.mono {j k : Nat} {A : Around} (g : Gd k A) (h : j ≤ k) : Gd j A := ⟨g.room.mono h, g.gs⟩
theorem Gd.deeper {k : Nat} {A : Around} (g : Gd (k + 1) A) (env : Env) : Gd k (A.deeper env) := ⟨g.room.deeper env, g.gs⟩

/-- a def's promise where nothing is being shown -/
structure FnG (P : Program) (w : World) (K : PySem.W.Frag) (mg : Str → Option Value) (base : Heap) (CX : CXT) (k : Nat) (f : Addr) (fd : FuncData) (ps : List Str) (sp : Sp) : Prop where
  many : ∀ vs H Q E, sp vs H Q E → vs.length = ps.length
  goes : ∀ (A : Around) (out : List Env) (s : Shared) (H : Hp) (ar : Args) (us : List Value) (vs : List V) (Q : VK) (E : XK), Gd k A → Env0 P w K mg base A out s H → BindsTo s fd ar (ps.zip us) →
    Vals vs us → sp vs H Q E → codeAny (model P w) A (.call (.ref f) ar) (CR CX out P w H s Q E) s

section
variable {P : Program} {w : World} {K : PySem.W.Frag} {mg : Str → Option Value} {base : Heap} {CX : CXT} {k : Nat} {f : Addr} {fd : FuncData} {ps : List Str} {sp : Sp}
theorem FnG.of (F : FnOk P w K mg base CX k f fd ps sp) : FnG P w K mg base CX k f fd ps sp :=
  ⟨F.len, fun A out s H ar us vs Q E g => F.run A out s H ar us vs Q E g.room⟩
theorem FnG.mono {j : Nat} (F : FnG P w K mg base CX j f fd ps sp) (h : j ≤ k) : FnG P w K mg base CX k f fd ps sp :=
  ⟨F.many, fun A out s H ar us vs Q E g => F.goes A out s H ar us vs Q E (g.mono h)⟩

/-- a def by its body, where nothing is being shown -/
theorem fnG_of {x qual : Str} {st : Stmt} {N : List Str} (F : Fun K x qual st f fd) (S : FnScope N ps (defScope st)) (many : ∀ vs H Q E, sp vs H Q E → vs.length = ps.length)
    (body : ∀ (cdv : Value) (A : Around) (out : List Env) (s : Shared) (H : Hp) (vs : List V) (Q : VK) (E : XK), Gd k (A.deeper (envOfC qual (defScope st) s.heap.objs.size f cdv)) → sp vs H Q E →
      ∃ t, PSs (cxOf CX P w K mg base N qual (defScope st) f cdv A out s H E) (defBody st) t ∧ t { nx := fun _ H' => Q .non H', rt := Q } (start N vs) H) :
    FnG P w K mg base CX (k + 1) f fd ps sp := by
  obtain ⟨oc, od, kV, doc, pm, an, cdv, ct, osl, rfl, lk, hcd⟩ := F.ex
  refine ⟨many, fun A out s H ar us vs Q E g e0 bd rv want => ?_⟩
  have cnt := many _ _ _ _ want
  have inK : K.In s.heap := e0.mod.kin.keeps fun b o e => (e0.bs b o e).1
  have nl : s.heap.NoLimit := e0.mod.nolimit.keeps fun b o e => (e0.bs b o e).1
  have kinds : ∀ y ∈ ps.zip us, (defScope st).names.lookup y.1 = some .local ∨ ((defScope st).names.lookup y.1 = some .cell ∧ ((cellsFrom (s.heap.objs.size + 1) (defScope st).names []).lookup y.1).isSome = true) := by
    rintro ⟨n, v⟩ hy
    cases S.par n (List.of_mem_zip hy).1 with
    | inl q => exact .inl q
    | inr q => exact .inr ⟨q, PySem.W.cellsFrom_some _ _ _ (.inl q)⟩
  refine codeAny_call_function g.room.depth (inK _ _ lk) rfl S.co S.gen rfl (PySem.W.codeRec_of inK hcd) (bd _ _ _ _ ?_)
  refine wpAny_newFunctionEnv_cells S.kind kinds fun ev hev st1 ic => ?_
  subst hev
  refine ⟨nl.keeps ic.toInCall.keep, codeAny_func ?_⟩
  obtain ⟨t, pt, rd⟩ := body cdv A out s H vs Q E (g.deeper _) want
  have J0 : Inv (cxOf CX P w K mg base N qual (defScope st) f cdv A out s H E) [] (start N vs) H st1 := inv_start S g.room.hd e0 cnt rv ic
  refine wpAny_mono (pt.run [] st1 (start N vs) H _ J0 rd) (fun fl s2 hs => ?_) fun e s2 hs => hs
  cases fl with
  | ret u =>
    obtain ⟨v, σ2, H2, J, rv2, q⟩ := hs
    exact ⟨v, H2, J.os, J.bare, J.base, J.hok, rv2, q⟩
  | next =>
    obtain ⟨σ2, H2, J, q⟩ := hs
    exact ⟨V.non, H2, J.os, J.bare, J.base, J.hok, rfl, q⟩
  | brk =>
    obtain ⟨_, _, _, no⟩ := hs
    exact False.elim no
  | cont =>
    obtain ⟨_, _, _, no⟩ := hs
    exact False.elim no
/-- .. and nothing that is raised leaves it -/
theorem fnG_ok {x qual : Str} {st : Stmt} {N : List Str} (F : Fun K x qual st f fd) (S : FnScope N ps (defScope st)) (many : ∀ vs H Q E, sp vs H Q E → vs.length = ps.length)
    (body : ∀ (cdv : Value) (A : Around) (out : List Env) (s : Shared) (H : Hp) (vs : List V) (Q : VK) (E : XK), Gd k (A.deeper (envOfC qual (defScope st) s.heap.objs.size f cdv)) → sp vs H Q E →
      ∃ t, PSs (cxOf CX0 P w K mg base N qual (defScope st) f cdv A out s H E).nox (defBody st) t ∧ t { nx := fun _ H' => Q .non H', rt := Q } (start N vs) H) :
    FnG P w K mg base CX0 (k + 1) f fd ps sp := by
  refine fnG_of F S many fun cdv A out s H vs Q E g want => ?_
  obtain ⟨t, h, q⟩ := body cdv A out s H vs Q E g want
  exact ⟨t, h.nox, q⟩
end

section
variable {X : Cx} {CX : CXT} {k : Nat} {f : Addr} {fd : FuncData} {ps : List Str} {sp : Sp} {dvs : List V} {ds : List Value} {E : XK} {x : Str} {p pos : Pos} {e : Expr} {es : List Expr} {t : TA}
theorem goG {pins : List (Addr × Obj)} {σ : L2.St} {H : Hp} {s : Shared} {Q : VK} {us : List Value} {vs : List V} (F : FnG X.prog X.w X.K X.mg X.base CX k f fd ps sp) (g : Gd k X.A) (bd : Binds X.K fd ps ds) (dv : Vals dvs ds) (px : Passes CX X E)
    (J : Inv X pins σ H s) (rv : Vals vs us) (want : sp (vs ++ dvs) H Q E) : wpAny (model X.prog X.w) X.A (call (.ref f) us) (EP X pins σ Q) X.xe s := by
  have rv2 : Vals (vs ++ dvs) (us ++ ds) := rv.append dv
  have cnt : (us ++ ds).length = ps.length := rv2.length.symm.trans (F.many _ _ _ _ want)
  refine wpAny_call (codeAny_mono (F.goes X.A X.stack s H ⟨us, []⟩ (us ++ ds) (vs ++ dvs) Q E g J.env0 (bd s us J.kIn cnt) rv2 want) ?_)
  intro r s2 hq
  match r, hq with
  | .error er, hq => exact px pins σ H s er s2 J hq
  | .ok (.ret u), hq => exact J.after hq
  | .ok .next, hq => exact False.elim hq
  | .ok .brk, hq => exact False.elim hq
  | .ok .cont, hq => exact False.elim hq
/-- f(e, ..) -/
theorem pe_callG (F : FnG X.prog X.w X.K X.mg X.base CX k f fd ps sp) (g : Gd k X.A) (hg : Gl X x) (hm : X.mg x = some (.ref f)) (hk : PySem.W.keepIn X.K (.ref f) = true) (bd : Binds X.K fd ps ds) (dv : Vals dvs ds) (px : Passes CX X E)
    (pa : PA X (e :: es) t) (hdb : (x == ("__debug__" : Str)) = false := by decide) (st : starEach (e :: es) X.env = (false, eval e X.env) :: starEach es X.env := by rfl)
    (pl : (backTo pos (starEach es X.env)).any (·.1) = false := by rfl) : PE X (.Call (.Name x p) (e :: es) [] pos) (tCall sp dvs E t) := by
  refine ⟨fun pins s σ H Q J h => wpAny_Call_Name_kw (ld_glob J hg hm ?_ hdb)⟩
  refine PySem.W.callWith_K (h₀ := X.base) J.ok.mod.kin hk (thn (pa.run pos pins s σ H _ J h) ?_) st pl
  rintro us s1 ⟨vs, H1, J1, rv, q⟩
  exact ⟨J1.kIn, goG F g bd dv px J1 rv q⟩
end

/-! ### the end of a law -/
theorem lawG_call {P : Program} {w : World} {K : PySem.W.Frag} {mg mb : Str → Option Value} {k : Nat} {fa a : Addr} {fd : FuncData} {x : Str} {sp : Sp} {s₁ : Shared} {vs : List Value} {ns : List Int}
    (inK : K.In s₁.heap) (gl : s₁.heap.Ns mainGlobals mg) (bl : s₁.heap.Ns builtinsNs mb) (bb : ∀ x : Str, x ≠ "__name__" → mb x = bootBuiltins x) (nl : s₁.heap.NoLimit) (gn : s₁.gens = #[])
    (la : s₁.heap.get? a = some { cls := .type "list", data := .seq vs.toArray }) (ia : IntsAre vs ns) (few : ns.length ≤ sizeLine) (g : Gd k callerA)
    (F : ∀ base : Heap, K.In base → base.Ns mainGlobals mg → FnG P w K mg base CX0 k fa fd [x] sp) (bd : ∀ (s : Shared) (u : Value), BindsTo s fd ⟨[u], []⟩ [(x, u)])
    (want : ∀ H : Hp, Only H → SqL K H a (ns.map V.int) → sp [.ref a] H (fun v _ => v = .bl true) fun _ _ _ => False) :
    codeAny (model P w) callerA (.call (.ref fa) ⟨[.ref a], []⟩) (fun r s' => r = .ok (.ret (.bool true)) ∧ OldK s₁.heap s'.heap ∧ s'.os = s₁.os ∧ AllBare s'.gens) s₁ := by
  have rv := vals_ints ia
  have cnt := ia.length
  have go : ∀ H : Hp, Only H → SqL K H a (ns.map V.int) → HOk P w H s₁.heap → (∀ b, H b ≠ none → b = a) → (H a ≠ none → K.lookup a = none) →
      codeAny (model P w) callerA (.call (.ref fa) ⟨[.ref a], []⟩) (fun r s' => r = .ok (.ret (.bool true)) ∧ OldK s₁.heap s'.heap ∧ s'.os = s₁.os ∧ AllBare s'.gens) s₁ := by
    intro H only sq hok onlyA notK
    have at_ : ∀ {b : Addr}, H b ≠ none → b = a := fun {b} h => onlyA b h
    have out : ∀ {b : Addr} {o : Obj} {es : Array DictEntry} {ep : Nat}, s₁.heap.get? b = some o → o.data = .dict es ep → H b = none := by
      intro b o es ep e d
      apply Classical.byContradiction
      intro h
      have eb := at_ h
      subst eb
      rw [la] at e
      cases e
      cases (show Data.seq vs.toArray _ = Data.dict es ep from d)
    have nsB : ∀ {b : Addr} {m : Str → Option Value}, s₁.heap.Ns b m → (hidT s₁.heap H).Ns b m := by
      rintro b m ⟨o, es, ep, e, d, r⟩
      exact ⟨o, es, ep, hidT_get e (out e d), d, r⟩
    have inB : K.In (hidT s₁.heap H) := by
      intro b o e
      refine hidT_get (inK b o e) ?_
      apply Classical.byContradiction
      intro h
      have eb := at_ h
      subst eb
      rw [notK h] at e
      cases e
    obtain ⟨mc, nl1, nl2⟩ := nl
    have M : Mod K mg (hidT s₁.heap H) := ⟨inB, nsB gl, ⟨mb, nsB bl, bb⟩, ⟨mc, nsB nl1, nl2⟩⟩
    have none_in : ∀ {b : Addr}, b ∉ frs ([] : List Env) := fun z => nomatch z
    have e0 : Env0 P w K mg (hidT s₁.heap H) callerA [] s₁ H :=
      ⟨rfl, M, fun b o e => of_hidT e, Nat.le_of_eq (hidT_size _ _), trivial, fun b hb => absurd hb none_in, hok, .of_eq gn⟩
    refine codeAny_mono ((F _ inB (nsB gl)).goes callerA [] s₁ H ⟨[.ref a], []⟩ [.ref a] [.ref a] _ _ g e0 (bd s₁ (.ref a)) (.cons rfl .nil) (want H only sq)) ?_
    intro r s2 h
    match r, h with
    | .error e, h => exact (show False from h).elim
    | .ok .next, h => exact False.elim h
    | .ok .brk, h => exact False.elim h
    | .ok .cont, h => exact False.elim h
    | .ok (.ret u), ⟨v, H2, os, bare, un, hok2, ru, q⟩ =>
      obtain rfl : v = .bl true := q
      obtain rfl : u = Value.bool true := ru
      refine ⟨rfl, OldK.of_keep fun b o e => ?_, os, bare⟩
      rcases only b with z | ⟨ob, xs, z⟩
      · exact un.keep b o e z none_in (fun y => nomatch y)
      · obtain ⟨e1, _⟩ := hok b _ z
        obtain ⟨e2, _⟩ := hok2 b _ (un.frzs b ob _ z)
        exact e2.trans (e1.symm.trans e)
  cases hk : K.lookup a with
  | some o =>
    have e := inK a o hk
    rw [la] at e
    cases e
    have nothing : ∀ b, (fun _ => none : Hp) b = none := fun _ => rfl
    exact go (fun _ => none) (fun _ => .inl rfl) (.inr ⟨_, vs.toArray, _, hk, rfl, rfl, rfl, by rw [List.size_toArray, cnt]; exact few, by simpa using rv⟩) (fun b u z => nomatch (show (none : Option HO) = some u from z)) (fun b z => absurd rfl z) fun z => absurd rfl z
  | none =>
    have hit : ∀ {b : Addr}, b = a → (fun b => if b = a then some (HO.frz { cls := .type "list", data := .seq vs.toArray } (.lst (ns.map V.int))) else none : Hp) b = some (HO.frz { cls := .type "list", data := .seq vs.toArray } (.lst (ns.map V.int))) := fun e => if_pos e
    have miss : ∀ {b : Addr}, b ≠ a → (fun b => if b = a then some (HO.frz { cls := .type "list", data := .seq vs.toArray } (.lst (ns.map V.int))) else none : Hp) b = none := fun e => if_neg e
    refine go (fun b => if b = a then some (.frz { cls := .type "list", data := .seq vs.toArray } (.lst (ns.map V.int))) else none) (fun b => ?_) (.inl (.inr ⟨_, hit rfl⟩)) (fun b u z => ?_) (fun b z => ?_) fun _ => hk
    · rcases Classical.em (b = a) with h | h
      · exact .inr ⟨_, _, hit h⟩
      · exact .inl (miss h)
    · rcases Classical.em (b = a) with h | h
      · have z2 := Option.some.inj ((hit h).symm.trans z)
        subst z2
        subst h
        exact ⟨la, by rw [List.length_map]; exact few, vs, _, rv, la⟩
      · exact nomatch ((miss h).symm.trans z)
    · rcases Classical.em (b = a) with h | h
      · exact h
      · exact absurd (miss h) z

/-- the goal that k_head leaves, from the law's promise -/
theorem walkG {l : PySem.W.OpenLaw} {n k : Nat} {q : Program} {loose : List Str} {XP : (Str → Option Value) → Heap → Prop} {YP : World → Heap → Prop} {d : DefRec} {K : Params → PySem.W.Frag} {sp : PySem.W.Frag → Sp} {x : Str}
    (most : l.most = some n) (few : n ≤ sizeLine) (nod : d.params.defaults = []) (g : Gd k callerA) (yk : ∀ (w : World) (h : Heap), YP w h → (K w.params).In h)
    (F : ∀ (w : World) (mg : Str → Option Value) (fa : Addr) (h : Heap), (K w.params).In h → h.Ns mainGlobals mg → mg d.name = some (.ref fa) →
      ∃ fd : FuncData, (∀ (s : Shared) (u : Value), BindsTo s fd ⟨[u], []⟩ [(x, u)]) ∧
        ∀ base : Heap, (K w.params).In base → base.Ns mainGlobals mg → FnG l.prog w (K w.params) mg base CX0 k fa fd [x] (sp (K w.params)))
    (want : ∀ (K : PySem.W.Frag) (H : Hp) (a : Addr) (ns : List Int), ns.length ≤ n → Only H → SqL K H a (ns.map V.int) → sp K [.ref a] H (fun v _ => v = .bl true) fun _ _ _ => False) :
    PySem.W.WalkO q loose XP YP l.row.toRowW d [] (fun f vs => PySem.call f vs) := by
  refine Att.attach_call most nod ?_
  intro w s0 s1 mg mb fa o pm cd doc a vs ns G Y ho hd hcd hmg hobj hints hlen hg
  have inK := yk w _ Y
  obtain ⟨fd, bd, hF⟩ := F w mg fa _ inK G.T.g hmg
  exact lawG_call inK G.T.g G.T.b G.T.builtins G.T.nolimit hg hobj hints (Nat.le_trans hlen few) g hF bd (fun H only sq => want _ H a ns hlen only sq)

end Ob
set_option Elab.async false
set_option linter.all false
set_option maxRecDepth 100000
set_option maxHeartbeats 4000000
namespace Ob
open PySem PySem.Spec PyProof.Rows L2
/-! ### repr of data -/
section
variable {X : Cx}
theorem noDict : ∀ (d : PyData) {K : PySem.W.Frag} {H : Hp} {x : V}, Dp K H x d → d.hasDict = false := by
  have main : ∀ (n : Nat) (d : PyData), sizeOf d ≤ n → ∀ {K : PySem.W.Frag} {H : Hp} {x : V}, Dp K H x d → d.hasDict = false := by
    intro n
    induction n with
    | zero => intro d hd; cases d <;> simp at hd
    | succ n ih =>
      intro d hd K H x h
      have all : ∀ (ds : List PyData), sizeOf ds ≤ n → ∀ {xs : List V}, DpAll K H xs ds → PyData.hasDictAll ds = false := by
        intro ds
        induction ds with
        | nil => intro _ xs _; simp only [PyData.hasDictAll]
        | cons y ys ihy =>
          intro hs xs hx
          cases hx with
          | cons h1 h2 =>
            have e1 : PyData.hasDict y = false := ih y (by simp at hs; omega) h1
            have e2 := ihy (by simp at hs; omega) h2
            simp only [PyData.hasDictAll, e1, e2, Bool.or_self]
      cases h with
      | non => simp only [PyData.hasDict]
      | bl b => simp only [PyData.hasDict]
      | int i => simp only [PyData.hasDict]
      | str z => simp only [PyData.hasDict]
      | lst h1 h2 => simp only [PyData.hasDict]; exact all _ (by simp at hd; omega) h2
      | tup h1 h2 => simp only [PyData.hasDict]; exact all _ (by simp at hd; omega) h2
  exact fun d => main _ d (Nat.le_refl _)
/-- repr(x), x data -/
def rRepr (K : PySem.W.Frag) : List V → Hp → VK → Prop := fun xs H Q => ∃ x d, xs = [x] ∧ Dp K H x d ∧ d.showable = true ∧ d.depth ≤ 50 ∧ d.shown.length ≤ sizeLine ∧ Q (.str d.shown) H
theorem call_repr {k : Nat} (g : Gd k X.A) : CallR X (.builtin "repr") (rRepr X.K) := by
  intro pins s σ H xs us Q I r h
  obtain ⟨x, d, rfl, hd, sh, dep, sz, q⟩ := h
  obtain ⟨u, rfl, ru⟩ : ∃ u, us = [u] ∧ RelV x u := by
    cases r with
    | cons a b => cases b; exact ⟨_, rfl, a⟩
  have nd := noDict d hd
  have un := g.room.un
  obtain ⟨as, rd⟩ := Dp.reads I d x u hd ru
  have fin : ∀ t : Nat, EP X pins σ Q (.str d.shown s.toks) { s with toks := t } := fun t => ⟨.str d.shown, H, I.tok t, ⟨_, rfl⟩, q⟩
  cases hd with
  | non =>
    cases ru
    exact PySem.P.repr_of_none ⟨.str "None", H, I.tok _, ⟨_, rfl⟩, by simpa only [PyData.shown] using q⟩
  | bl b =>
    cases ru
    exact PySem.P.repr_of_bool ⟨.str (if b then "True" else "False"), H, I.tok _, ⟨_, rfl⟩, by simpa only [PyData.shown] using q⟩
  | int i =>
    obtain ⟨t, rfl⟩ := ru
    exact PySem.P.repr_of_int (by simpa [PyData.showable] using sh) ⟨.str (toString i), H, I.tok _, ⟨_, rfl⟩, by simpa only [PyData.shown] using q⟩
  | str z =>
    obtain ⟨t, rfl⟩ := ru
    exact PySem.P.repr_of_str ⟨.str (reprText z), H, I.tok _, ⟨_, rfl⟩, by simpa only [PyData.shown] using q⟩ (by simpa only [PyData.shown] using sz)
  | lst h1 h2 =>
    cases ru
    refine repr_of_reads' rd sh (fun z => by rw [nd] at z; cases z) g.gs (by omega) (fun _ _ e => e) (fun h2 u tk kp => ?_) sz
    exact ⟨.str _, H, I.kept (t' := tk) kp, ⟨_, rfl⟩, q⟩
  | tup h1 h2 =>
    cases ru
    refine repr_of_reads' rd sh (fun z => by rw [nd] at z; cases z) g.gs (by omega) (fun _ _ e => e) (fun h2 u tk kp => ?_) sz
    exact ⟨.str _, H, I.kept (t' := tk) kp, ⟨_, rfl⟩, q⟩

/-! ### powers of ints of up to a thousand bits -/
def CPowW (i j : Int) : Prop := 0 ≤ j ∧ j ≤ 1000 ∧ i.natAbs.log2 < 1000
theorem op_powW : OpR X (binaryOp .Pow) (rI CPowW fun i j => .int (i ^ j.toNat)) := opI fun i j _ _ _ _ _ hc q => by
  obtain ⟨h0, h1, h2⟩ := hc
  refine pow_int h0 ?_ q
  have b : Builtin.Int.intBits i ≤ i.natAbs.log2 + 1 := by
    unfold Builtin.Int.intBits
    split <;> omega
  have c : (Builtin.Int.intBits i : Int) * j ≤ 1000 * 1000 := Int.mul_le_mul (by omega) h1 h0 (by decide)
  omega
theorem log2_lt {i : Int} {k : Nat} (hk : 0 < k) (h : i.natAbs < 2 ^ k) : i.natAbs.log2 < k := PySem.Flt.log2_lt_of hk h
end
end Ob
set_option Elab.async false
set_option linter.all false
set_option maxRecDepth 100000
set_option maxHeartbeats 4000000
namespace Ob
open PySem PySem.Spec PyProof.Rows L2
/-! ### try: .. except A as e: .. except B as e: .. -/
/-- one named clause: the class, the slot of the name, the suite's reading -/
structure Cl where
  cls : Value
  slot : Nat
  read : Addr → Value → Option Addr → TS
/-- the ends of a suite: the name goes -/
def unslot (i : Nat) (D : Ends) : Ends where
  nx := fun τ H => D.nx (τ.set i none) H
  rt := D.rt
  bk := fun τ H => D.bk (τ.set i none) H
  ct := fun τ H => D.ct (τ.set i none) H
/-- what the named clauses wish of an exception, one behind the other -/
def wCls (K : PySem.W.Frag) (Wo : WX) (D : Ends) : List Cl → WX
  | [] => Wo
  | c :: more => fun k d τ H => ∃ b, PySem.W.exmOne K k c.cls = some b ∧ (b = true → ∀ a, H a = none → c.read a k d (unslot c.slot D) (τ.set c.slot (some (.ref a))) H) ∧ (b = false → wCls K Wo D more k d τ H)
inductive ClsOk (X : Cx) : List ExceptHandler → List Cl → Prop
  | nil : ClsOk X [] []
  | cons {x n : Str} {c : Cl} {first : Stmt} {suite : List Stmt} {np hp : Pos} {hs : List ExceptHandler} {cs : List Cl} (nm : Names X x c.cls) (sl : X.N[c.slot]? = some n) (lc : X.env.kindOf n = some .local)
      (rd : ∀ (a : Addr) (oe : Obj) (k : Value) (d : Option Addr) (pn : List (Addr × Obj)), Zc k d oe → (∃ vs, oe.data = .fields vs) → PSs (X.suite a ((a, oe) :: pn)) (first :: suite) (c.read a k d)) (more : ClsOk X hs cs) :
      ClsOk X (.ExceptHandler (some (.Name x np)) (some n) (first :: suite) hp :: hs) (c :: cs)
section
variable {X : Cx} {body : List Stmt} {hd1 : ExceptHandler} {hds : List ExceptHandler} {cs : List Cl} {pos : Pos} {tb : WX → TS} {Wo : WX}
theorem ps_try_cls (stk : X.stack = X.env :: X.outer) (own : X.env.frame = some X.env.locals) (nd : X.N.Nodup) (out : Takes X Wo)
    (bd : ∀ (W : WX) (pn : List (Addr × Obj)) (xe : Value → Shared → Prop), Takes (X.tr pn xe) W → PassesOwn (model X.prog X.w) X.A X.env xe → PSs (X.tr pn xe) body (tb W))
    (ok : ClsOk X (hd1 :: hds) cs) : PS X (.Try body (hd1 :: hds) [] [] pos) (fun D τ H => tb (wCls X.K Wo D cs) D τ H) := by
  refine ⟨fun pins s τ H D I rd => ?_⟩
  have xok := I.ok
  have frm : X.A.frames = some (X.env :: X.outer) := by rw [xok.frames, stk]
  refine wpAny_Try_except ?_
  refine wpAny_mono ((bd (wCls X.K Wo D cs) (X.pn ++ pins) (fun e s1 => wpAny (model X.prog X.w) X.A (noteFrame e X.env) (fun _ s2 => wpAny (model X.prog X.w) X.A (setFlight e none) (fun _ s3 =>
    wpAny (model X.prog X.w) X.A (handleBy e X.env (hd1 :: hds)) (SP X pins D) X.xe s3) X.xe s2) X.xe s1) (fun u s' air => ?_) PassesOwn.looking).run [] s τ H D (I.toTry _) rd) (fun f s1 fin => ?_) (fun e s1 he => he)
  · obtain ⟨a, B, sI, pins2, τ2, H2, k, d, rfl, J0, bare, up, sky0, fresh, os, gens, wish⟩ := air
    have J : Inv X pins τ2 H2 sI := J0.ofTry xok
    have sky : Sky B (X.env :: X.outer) a (Zc k d) X.env.locals s'.heap := stk ▸ sky0
    show wpAny (model X.prog X.w) X.A (noteFrame (.ref a) X.env) _ _ _
    refine Sky.land Zc.steady frm own sky fun h3 fl3 up3 => ?_
    have J3 : Inv X pins τ2 H2 { s' with heap := h3 } := J.landed bare fl3.1 (up.trans up3) os gens
    obtain ⟨oe3, fv3, at3, z3, dat3⟩ := fl3.there
    have off : ∀ {h : Heap} {o : Obj} {fv : Array Value}, h.FunFrames B (X.env :: X.outer) → h.get? a = some o → o.data = .fields fv → a ∉ frs (X.env :: X.outer) := by
      intro h o fv ff at_ dat mem
      obtain ⟨_, o2, at2, no⟩ := ff.mem mem
      cases at_.symm.trans at2
      exact no _ dat
    have apart := off fl3.2.2.1 at3 dat3
    have notL : a ≠ X.env.locals := fun z => apart (List.mem_filterMap.mpr ⟨X.env, List.mem_cons_self, by rw [own, z]⟩)
    have notF : a ∉ X.fs := by
      intro mem
      obtain ⟨e, he, q⟩ := List.mem_filterMap.mp mem
      exact apart (List.mem_filterMap.mpr ⟨e, List.mem_cons_of_mem _ he, q⟩)
    have S3 := J3.suite at3 dat3 fresh notL notF
    have each : ∀ {hl : List ExceptHandler} {cl : List Cl}, ClsOk X hl cl → wCls X.K Wo D cl k d τ2 H2 → wpAny (model X.prog X.w) X.A (handleBy (.ref a) X.env hl) (SP X pins D) X.xe { s' with heap := h3 } := by
      intro hl cl good
      induction good with
      | nil =>
        intro wish
        refine wpAny_handleBy_nil ?_
        obtain ⟨k1, k2, k3, oe, fv, T, oT, ts', he, hz, hdat, h1, hr⟩ := id fl3
        unfold PySem.passOn
        refine wpAny_bind (wpAny_field he hdat h1 ?_)
        rw [if_neg (show ¬ ((Value.ref T == Value.none) = true) from by simp)]
        have gone : wpAny (model X.prog X.w) X.A (setFlight (.ref a) X.env.frame) (fun _ s4 => wpAny (model X.prog X.w) X.A (throw (.ref a) : Sem Flow) (SP X pins D) X.xe s4) X.xe { s' with heap := h3 } := by
          rw [own]
          refine HandSPX.setFlight_upZ fl3 fun h4 held up4 => wpAny_throw (out _ _ ?_)
          exact ⟨a, B, sI, pins, τ2, H2, k, d, rfl, J, bare, (up.trans up3).trans up4, .inr (.inr (stk ▸ held)), fresh, os, gens, wish⟩
        first
          | exact wpAny_bind (wpAny_pure (wpAny_bind gone))
          | exact wpAny_bind gone
      | @cons x n c first suite np hp hs2 cs2 nm sl lc rdS more ih =>
        intro wish
        obtain ⟨b, isB, yes, no⟩ := wish
        refine wpAny_handleBy_cons (codeAny_handlers_test ?_) (by intro q; cases q)
        have ty : PySem.W.Looks (model X.prog X.w) h3 (typeOf (.ref a)) k := fun A Q E s kp q => wpAny_typeOf_ref (kp _ _ at3) (by rw [z3.1]; exact q)
        have ask := PySem.W.exm_one (M := model X.prog X.w) (J3.kIn) ty isB
        have named : ∀ {Q : Value → Shared → Prop} {E : Value → Shared → Prop}, Q c.cls { s' with heap := h3 } → wpAny (model X.prog X.w) (X.A.mark (some (.ref a))) (eval (.Name x np) X.env) Q E { s' with heap := h3 } := by
          intro Q E q
          obtain ⟨hg, hdbg, hm | ⟨hm, hv, hnn⟩⟩ := nm
          · exact ld_glob (X := X.suite a ((a, oe3) :: (X.pn ++ pins))) S3 hg hm q hdbg
          · exact ld_blt (X := X.suite a ((a, oe3) :: (X.pn ++ pins))) S3 hg hm hv q hnn hdbg
        refine named (ask.here ?_)
        cases b with
        | false =>
          show wpAny _ X.A (handleBy (.ref a) X.env hs2) _ _ _
          exact ih (no rfl)
        | true =>
          refine codeAny_handlers_suite_as ?_
          refine HandSPX.lands_againZ fl3 fun h4 fl4 up4 => ?_
          have J4 : Inv X pins τ2 H2 { s' with heap := h4 } := J.landed bare fl4.1 ((up.trans up3).trans up4) os gens
          obtain ⟨oe4, fv4, at4, z4, dat4⟩ := fl4.there
          have S4 := J4.suite at4 dat4 fresh notL notF
          refine store_ok (X := X.suite a ((a, oe4) :: (X.pn ++ pins))) (v := .ref a) S4 nd sl (.inl lc) rfl (fun s5 S5 => ?_) (.inr lc)
          refine wpAny_mono ((rdS a oe4 k d (X.pn ++ pins) z4 ⟨_, dat4⟩).run [] s5 _ H2 _ S5 (yes rfl a fresh)) (fun f s6 fin => ?_) (fun _ _ z => False.elim z)
          have clear : ∀ {τ6 : L2.St} {H6 : Hp} {Q : Shared → Prop}, Inv (X.suite a ((a, oe4) :: (X.pn ++ pins))) [] τ6 H6 s6 → (∀ s7, Inv X pins (τ6.set c.slot none) H6 s7 → Q s7) →
              wpAny (model X.prog X.w) X.A (do bindName X.env n .none; unbindBehindTheSuite X.env n hp) (fun _ s7 => Q s7) X.xe s6 := fun {τ6 H6 Q} S6 q => gone_ok (S6.unsuite xok) nd sl lc q
          cases f with
          | next =>
            obtain ⟨τ6, H6, S6, q6⟩ := fin
            exact clear S6 fun s7 J7 => ⟨_, _, J7, q6⟩
          | brk =>
            obtain ⟨τ6, H6, S6, q6⟩ := fin
            exact clear S6 fun s7 J7 => ⟨_, _, J7, q6⟩
          | cont =>
            obtain ⟨τ6, H6, S6, q6⟩ := fin
            exact clear S6 fun s7 J7 => ⟨_, _, J7, q6⟩
          | ret u =>
            obtain ⟨v6, τ6, H6, S6, r6, q6⟩ := fin
            exact clear S6 fun s7 J7 => ⟨_, _, _, J7, r6, q6⟩
    exact each ok wish
  · cases f with
    | next =>
      obtain ⟨τ2, H2, J, q⟩ := fin
      exact wpAny_execs_nil ⟨τ2, H2, J.ofTry xok, q⟩
    | brk =>
      obtain ⟨τ2, H2, J, q⟩ := fin
      exact ⟨τ2, H2, J.ofTry xok, q⟩
    | cont =>
      obtain ⟨τ2, H2, J, q⟩ := fin
      exact ⟨τ2, H2, J.ofTry xok, q⟩
    | ret u =>
      obtain ⟨v, τ2, H2, J, r, q⟩ := fin
      exact ⟨v, τ2, H2, J.ofTry xok, r, q⟩
end
end Ob
set_option Elab.async false
set_option linter.all false
set_option maxRecDepth 100000
set_option maxHeartbeats 4000000
namespace Ob
open PySem PySem.Spec PyProof.Rows L2
/-! ### own errors that store one value -/
/-- the error's own dict -/
def erD (v : V) : HO := .xd [(("value" : Str), v)]
theorem del_made {H : Hp} {a d : Addr} {o u1 u2 : HO} {z : HO} (hn : H a = none) (hd : H d = none) (ne : d ≠ a) : upd (del (upd (upd (upd H a o) d u1) a u2) a) d z = upd H d z := by
  funext b
  by_cases h1 : b = d
  · rw [h1, upd_same, upd_same]
  · rw [upd_ne h1, upd_ne h1]
    by_cases h2 : b = a
    · rw [h2, del_same, hn]
    · rw [del_ne h2, upd_ne h2, upd_ne h1, upd_ne h2]
/-- the promise of such an __init__ -/
def spErr (K : PySem.W.Frag) : Sp := fun vs H Q _ => ∃ (a C : Addr) (v : V), vs = [.ref a, v] ∧ OexC K C ∧ PySem.W.findIn K (.ref C) "value" = some none ∧ H a = some (exo a C none) ∧
  ∀ dx, H dx = none → dx ≠ a → Q .non (upd (upd H dx (exd dx [(("value" : Str), v)])) a (exo a C (some dx)))
/-- what the text says of such a class and its __init__ -/
structure ErrK (K : PySem.W.Frag) (mg : Str → Option Value) (nm : Str) (C fI : Addr) (fd : FuncData) (qual : Str) (st : Stmt) : Prop where
  ox : OexC K C
  nv : PySem.W.findIn K (.ref C) "value" = some none
  xf : XfC K C
  gl : mg nm = some (.ref C)
  iC : PySem.W.findIn K (.ref C) "__init__" = some (some (.ref fI))
  tI : PySem.W.typeIn K (.ref fI) = some (.type "function")
  fn : Fun K "__init__" qual st fI fd
  bd : Binds K fd ["self", "value"] []
  sc : FnScope ["self", "value"] ["self", "value"] (defScope st)
  body : ∃ p1 p2 p3 p4, defBody st = [.Assign [.Attribute (.Name "self" p1) "value" p2] (.Name "value" p3) p4]
section
variable {P : Program} {w : World} {K : PySem.W.Frag} {mg : Str → Option Value} {base : Heap} {nm qual : Str} {C fI : Addr} {fd : FuncData} {st : Stmt}
theorem ok_err (T : ErrK K mg nm C fI fd qual st) : FnOk P w K mg base (L2.CX P w) 1 fI fd ["self", "value"] (spErr K) := by
  refine T.fn.okX (k := 0) T.sc (fun vs H Q E h => ?_) (fun cdv A outer s H vs Q E hr h => ?_)
  · obtain ⟨a, C, v, rfl, _⟩ := h
    rfl
  · obtain ⟨a, C', v, rfl, ox, nv, ha, q⟩ := h
    obtain ⟨p1, p2, p3, p4, eb⟩ := T.body
    rw [eb]
    refine ⟨_, pss_one (ps_ost (pe_var (i := 0) rfl ((T.sc.par "self" (List.Mem.head _)).elim (fun z => .inl z) fun z => .inr (.inl z))) (pe_var (i := 1) rfl ((T.sc.par "value" (List.Mem.tail _ (List.Mem.head _))).elim (fun z => .inl z) fun z => .inr (.inl z)))), ?_⟩
    exact ⟨_, rfl, _, rfl, a, C', rfl, ox, nv, .inl ⟨ha, fun dx h1 h2 => q dx h1 h2⟩⟩
end
/-- C(e), an own error: its class, its new dict -/
def tErr (C : Addr) (te : TE) : L2.St → Hp → XK → Prop := fun σ H Q => te σ H fun v H1 => ∀ d, H1 d = none → Q (.ref C) (some d) (upd H1 d (erD v))
section
variable {X : Cx} {nm qual : Str} {C fI : Addr} {fd : FuncData} {st : Stmt} {e : Expr} {te : TE} {p pos pos2 : Pos} {W : WX}
theorem PE.mono {t u : TE} (h : PE X e t) (m : ∀ σ H Q, u σ H Q → t σ H Q) : PE X e u := ⟨fun pins s σ H Q I q => h.run pins s σ H Q I (m σ H Q q)⟩
theorem pmk_err (T : ErrK X.K X.mg nm C fI fd qual st) (hr : Room 2 X.A) (hg : Gl X nm) (he : PE X e te) (mono : ∀ σ H Q Q', (∀ v H1, Q v H1 → Q' v H1) → te σ H Q → te σ H Q') (hdb : (nm == ("__debug__" : Str)) = false := by decide)
    (sE : starEach [e] X.env = (false, eval e X.env) :: starEach [] X.env := by rfl) (hpl : (backTo pos (starEach [] X.env)).any (·.1) = false := by rfl) : PMk X (.Call (.Name nm p) [e] [] pos) (tErr C te) := by
  intro pins s σ H Q I h
  refine pmk_oex (CX := L2.CX X.prog X.w) (dvs := []) (ds := []) T.ox T.iC T.tI (ok_err T) hr T.bd .nil passL hg T.gl (pa_cons he pa_nil sE) hdb sE hpl pins s σ H Q I ?_
  refine mono _ _ _ _ (fun v H1 q => ⟨(by decide : 1 ≤ 1000), fun a ha => ?_⟩) h
  refine ⟨a, C, v, rfl, T.ox, T.nv, upd_same, fun dx h1 h2 => ⟨rfl, dx, [(("value" : Str), v)], upd_same, ?_, ?_, ?_⟩⟩
  · rw [upd_ne h2, upd_same]
  · rw [upd_ne h2] at h1
    exact h1
  · have h1' : H1 dx = none := by rw [upd_ne h2] at h1; exact h1
    rw [del_made ha h1' h2]
    exact q dx h1'
/-- raise C(e) -/
theorem ps_err (hc : X.calm = true) (tk : Takes X W) (T : ErrK X.K X.mg nm C fI fd qual st) (hr : Room 2 X.A) (hg : Gl X nm) (he : PE X e te) (mono : ∀ σ H Q Q', (∀ v H1, Q v H1 → Q' v H1) → te σ H Q → te σ H Q') (hdb : (nm == ("__debug__" : Str)) = false := by decide)
    (sE : starEach [e] X.env = (false, eval e X.env) :: starEach [] X.env := by rfl) (hpl : (backTo pos (starEach [] X.env)).any (·.1) = false := by rfl) :
    PS X (.Raise (some (.Call (.Name nm p) [e] [] pos)) none pos2) (fun _ σ H => tErr C te σ H fun cls d H' => W cls d σ H') := ps_raise hc tk (pmk_err T hr hg he mono hdb sE hpl)
end
theorem mono_var {i : Nat} : ∀ σ H (Q Q' : VK), (∀ v H1, Q v H1 → Q' v H1) → tVar i σ H Q → tVar i σ H Q' := fun _ _ _ _ h ⟨v, e, q⟩ => ⟨v, e, h _ _ q⟩
theorem mono_c {c : V} : ∀ σ H (Q Q' : VK), (∀ v H1, Q v H1 → Q' v H1) → tC c σ H Q → tC c σ H Q' := fun _ _ _ _ h q => h _ _ q
/-- e.value in the suite of an except clause -/
theorem pe_val {X : Cx} {nm qual : Str} {C fI : Addr} {fd : FuncData} {st : Stmt} {a : Addr} {oe : Obj} {cls : Value} {d : Option Addr} {pn : List (Addr × Obj)} {e : Expr} {te : TE} {pos : Pos} (T : ErrK X.K X.mg nm C fI fd qual st)
    (hz : Zc cls d oe) (hf : ∃ vs, oe.data = .fields vs) (he : PE (X.suite a ((a, oe) :: pn)) e te) (hb : attributeBase e "value" X.env (eval e X.env) = eval e X.env := by rfl) :
    PE (X.suite a ((a, oe) :: pn)) (.Attribute e "value" pos) (tXf a cls d C "value" te) := pe_xf T.xf T.nv hz hf he hb

/-! ### C(..) within a try: what is raised is wished for at the caller's slots -/
def tMakeS (C : Addr) (sp : Sp) (E : L2.St → XK) (t : TA) : TE := fun σ H Q => t σ H fun vs H1 => ∀ x dx, H1 x = none → H1 dx = none → dx ≠ x →
  sp (.ref x :: vs) (upd (upd H1 dx (.own x)) x (.ins C dx [])) (fun v H2 => v = .non ∧ Q (.ref x) H2) (E σ)
def tMakeKS (C : Addr) (m : Nat) (sp : Sp) (gV : List V → List V → List V) (E : L2.St → XK) (tk : TA) : TE := fun σ H Q => tk σ H fun zs H2 => zs.length = m ∧ ∀ x dx, H2 x = none → H2 dx = none → dx ≠ x →
  sp (gV [.ref x] zs) (upd (upd H2 dx (.own x)) x (.ins C dx [])) (fun v H3 => v = .non ∧ Q (.ref x) H3) (E σ)
section
variable {X : Cx} {CX : CXT} {k : Nat} {f C : Addr} {fd : FuncData} {ps ks : List Str} {sp : Sp} {E : L2.St → XK} {x : Str} {p pos : Pos} {e : Expr} {es : List Expr} {kws : List Keyword} {t tk : TA} {g : List Value → List Value → List Value} {gV : List V → List V → List V}
theorem goMakeS {pins : List (Addr × Obj)} {σ : L2.St} {H : Hp} {s : Shared} {Q : VK} {kw : List (Str × Value)} {us bs : List Value} {bv : List V} (M : Mk X.K C f) (F : FnOk X.prog X.w X.K X.mg X.base CX k f fd ps sp) (hr : Room (k + 1) X.A) (px : PassesAt CX X σ (E σ))
    (I : Inv X pins σ H s) (bd : ∀ s2 : Shared, X.K.In s2.heap → BindsTo s2 fd ⟨Value.ref (s.heap.objs.size + 1) :: us, kw⟩ (ps.zip bs)) (rb : Vals bv bs)
    (want : sp bv (upd (upd H s.heap.objs.size (.own (s.heap.objs.size + 1))) (s.heap.objs.size + 1) (.ins C s.heap.objs.size [])) (fun v H2 => v = .non ∧ Q (.ref (s.heap.objs.size + 1)) H2) (E σ)) :
    wpAny (model X.prog X.w) X.A (call (.ref C) us kw) (EP X pins σ Q) X.xe s := by
  have J := Inv.made (C := C) I
  refine wpAny_call (make_map (f := f) I.kIn M.makes M.init (beq_iff_eq.mp M.fn) (codeAny_mono (F.run _ X.stack _ _ ⟨Value.ref (s.heap.objs.size + 1) :: us, kw⟩ bs bv _ (E σ) (hr.make C us kw) (J.env0.make C us kw) (bd _ J.kIn) rb want) ?_))
  intro r s2 hq
  match r, hq with
  | .error er, hq => exact px pins _ _ er s2 J hq
  | .ok (.ret u), hq =>
    obtain ⟨v, H2, J2, rv, ev, q⟩ := J.after hq
    subst ev
    exact ⟨rv, ⟨V.ref (s.heap.objs.size + 1), H2, J2, rfl, q⟩⟩
  | .ok .next, hq => exact False.elim hq
  | .ok .brk, hq => exact False.elim hq
  | .ok .cont, hq => exact False.elim hq
theorem pe_makeS (M : Mk X.K C f) (F : FnOk X.prog X.w X.K X.mg X.base CX k f fd ps sp) (hr : Room (k + 1) X.A) (hg : Gl X x) (hm : X.mg x = some (.ref C)) (bd : Binds X.K fd ps []) (px : ∀ σ, PassesAt CX X σ (E σ)) (pa : PA X (e :: es) t)
    (hdb : (x == ("__debug__" : Str)) = false := by decide) (st : starEach (e :: es) X.env = (false, eval e X.env) :: starEach es X.env := by rfl) (pl : (backTo pos (starEach es X.env)).any (·.1) = false := by rfl) :
    PE X (.Call (.Name x p) (e :: es) [] pos) (tMakeS C sp E t) := by
  refine ⟨fun pins s σ H Q I h => wpAny_Call_Name_kw (ld_glob I hg hm ?_ hdb)⟩
  refine PySem.W.callWith_K (h₀ := X.base) I.ok.mod.kin M.kp (thn (pa.run pos pins s σ H _ I h) ?_) st pl
  rintro us s1 ⟨vs, H1, J, rv, q⟩
  refine ⟨J.kIn, ?_⟩
  have want := q (s1.heap.objs.size + 1) s1.heap.objs.size (J.hok.fresh (Nat.le_succ _)) (J.hok.fresh (Nat.le_refl _)) (Nat.ne_of_lt (Nat.lt_succ_self _))
  have rb : Vals (V.ref (s1.heap.objs.size + 1) :: vs) (Value.ref (s1.heap.objs.size + 1) :: us) := .cons rfl rv
  show wpAny _ _ (call (.ref C) us) _ _ _
  refine goMakeS (bs := Value.ref (s1.heap.objs.size + 1) :: us) (bv := V.ref (s1.heap.objs.size + 1) :: vs) M F hr (px σ) J (fun s2 i2 => ?_) rb want
  have cnt : (Value.ref (s1.heap.objs.size + 1) :: us).length = ps.length := rb.length.symm.trans (F.len _ _ _ _ want)
  have b := bd s2 (Value.ref (s1.heap.objs.size + 1) :: us) i2 (by rw [List.append_nil]; exact cnt)
  rw [List.append_nil] at b
  exact b
theorem pe_makeKS (M : Mk X.K C f) (F : FnOk X.prog X.w X.K X.mg X.base CX k f fd ps sp) (hr : Room (k + 1) X.A) (hg : Gl X x) (hm : X.mg x = some (.ref C)) (bd : KBn X.K fd ps 1 ks g gV) (px : ∀ σ, PassesAt CX X σ (E σ)) (pk : PK X kws tk)
    (hall : (backToKw pos (keywordEach kws X.env)).all (·.1.isSome) = true := by rfl) (hks : (backToKw pos (keywordEach kws X.env)).filterMap (·.1) = ks := by rfl) (hdb : (x == ("__debug__" : Str)) = false := by decide)
    (pl : ((backTo pos (starEach [] X.env)).any (·.1) || (backToKw pos (keywordEach kws X.env)).any (·.1.isNone)) = false := by rfl) :
    PE X (.Call (.Name x p) [] kws pos) (tMakeKS C ks.length sp gV E tk) := by
  refine ⟨fun pins s σ H Q I h => wpAny_Call_Name_kw (ld_glob I hg hm ?_ hdb)⟩
  refine PySem.W.callWith_KW0 (h₀ := X.base) I.ok.mod.kin M.kp hall ?_ pl
  refine thn (pk.run pos pins s σ H _ I h) ?_
  rintro ws s1 ⟨zs, H1, J, rz, l2, q⟩
  refine ⟨J.kIn, ?_⟩
  rw [hks]
  have want := q (s1.heap.objs.size + 1) s1.heap.objs.size (J.hok.fresh (Nat.le_succ _)) (J.hok.fresh (Nat.le_refl _)) (Nat.ne_of_lt (Nat.lt_succ_self _))
  have one : Vals [V.ref (s1.heap.objs.size + 1)] [Value.ref (s1.heap.objs.size + 1)] := .cons rfl .nil
  show wpAny _ _ (call (.ref C) [] (ks.zip ws)) _ _ _
  exact goMakeS (us := []) M F hr (px σ) J (fun s2 i2 => bd.to s2 [Value.ref (s1.heap.objs.size + 1)] ws i2 rfl (rz.length.symm.trans l2)) (bd.rel one rz) want
end
end Ob
namespace Ob
open PySem PySem.Spec PyProof.Rows L2
/-- which except clause takes which error of the program -/
theorem exm_two {K : PySem.W.Frag} {N S : Addr} {b : Bool} (h1 : PySem.W.subIn K (.ref S) (.type "BaseException") = some true) (h2 : PySem.W.isClsIn K S = true) (h3 : PySem.W.typeIn K (.ref S) = some (.type "type")) (h4 : PySem.W.subIn K (.ref N) (.ref S) = some b) :
    PySem.W.exmOne K (.ref N) (.ref S) = some b := by
  have e1 : (PySem.W.subIn K (.ref S) (.type "BaseException") == some true) = true := by rw [h1] <;> rfl
  have e3 : (PySem.W.clsIn K S).isSome = true := h2
  have e2 : ((PySem.W.clsIn K S).isSome && PySem.W.typeIn K (.ref S) == some (.type "type")) = true := by rw [e3, h3] <;> rfl
  unfold PySem.W.exmOne
  rw [if_pos e1]
  show (if ((PySem.W.clsIn K S).isSome && PySem.W.typeIn K (.ref S) == some (.type "type")) = true then PySem.W.subIn K (.ref N) (.ref S) else none) = some b
  rw [if_pos e2]
  exact h4
theorem exm_same {K : PySem.W.Frag} {S : Addr} (h1 : PySem.W.subIn K (.ref S) (.type "BaseException") = some true) (h2 : PySem.W.isClsIn K S = true) (h3 : PySem.W.typeIn K (.ref S) = some (.type "type")) (h4 : PySem.W.subIn K (.ref S) (.ref S) = some true) :
    PySem.W.exmOne K (.ref S) (.ref S) = some true := exm_two h1 h2 h3 h4
end Ob
set_option Elab.async false
set_option linter.all false
set_option maxRecDepth 100000
set_option maxHeartbeats 4000000
namespace Ob
open PySem PySem.Spec PyProof.Rows L2
/-! ### data in the heap -/
section
variable {K : PySem.W.Frag} {H H' : Hp}
mutual
/-- data without lists -/
def flat : PyData → Bool
  | .none => true | .bool _ => true | .int _ => true | .str _ => true
  | .tuple xs => flatAll xs
  | _ => false
def flatAll : List PyData → Bool
  | [] => true
  | x :: xs => flat x && flatAll xs
end
/-- tuples, and what is locked, are as they were -/
def Tk (H H' : Hp) : Prop := (∀ b xs, H b = some (.tup xs) → H' b = some (.tup xs)) ∧ ∀ b o u, H b = some (.frz o u) → H' b = some (.frz o u)
theorem Tk.refl : Tk H H := ⟨fun _ _ h => h, fun _ _ _ h => h⟩
theorem Tk.trans {H2 : Hp} (a : Tk H H') (b : Tk H' H2) : Tk H H2 := ⟨fun c xs h => b.1 c xs (a.1 c xs h), fun c o u h => b.2 c o u (a.2 c o u h)⟩
theorem Tk.same (s : Same H H') : Tk H H' := ⟨fun b xs h => s b _ h, fun b o u h => s b _ h⟩
theorem Tk.but {p : Addr} {ys : List V} (hp : H p = some (.lst ys)) (k : ∀ b o, H b = some o → b ≠ p → H' b = some o) : Tk H H' :=
  ⟨fun b xs h => k b _ h (fun z => by rw [z, hp] at h; cases h), fun b o u h => k b _ h (fun z => by rw [z, hp] at h; cases h)⟩
theorem Tk.seq (t : Tk H H') {a : Addr} {xs : List V} (h : SqT K H a xs) : SqT K H' a xs := by
  rcases h with (h | ⟨o, h⟩) | h
  · exact .inl (.inl (t.1 _ _ h))
  · exact .inl (.inr ⟨o, t.2 _ _ _ h⟩)
  · exact .inr h
theorem Same.tup (e : Same H H') {a : Addr} {xs : List V} (h : SqT K H a xs) : SqT K H' a xs := (Tk.same e).seq h
theorem Same.upd {a : Addr} {o : HO} (h : H a = none) : Same H (upd H a o) := fun b u e => by rw [upd_ne (ne_of_none e h)]; exact e
theorem Same.then {a : Addr} {o : HO} (s : Same H H') (h : H' a = none) : Same H (L2.upd H' a o) := s.trans (Same.upd h)
theorem dpAll_length : ∀ {xs : List V} {ds : List PyData}, DpAll K H xs ds → xs.length = ds.length
  | _, _, .nil => rfl
  | _, _, .cons _ t => congrArg Nat.succ (dpAll_length t)
theorem dpAll_get : ∀ {xs : List V} {ds : List PyData} {i : Nat} {x : V}, DpAll K H xs ds → xs[i]? = some x → ∃ d, ds[i]? = some d ∧ Dp K H x d
  | _, _, _, _, .nil, e => by simp at e
  | _, _, 0, _, .cons h _, e => by simp at e; subst e; exact ⟨_, rfl, h⟩
  | _, _, i + 1, x, .cons _ t, e => by
    obtain ⟨d, h1, h2⟩ := dpAll_get (i := i) (x := x) t (by simpa using e)
    exact ⟨d, by simpa using h1, h2⟩
theorem dpAll_at : ∀ {xs : List V} {ds : List PyData} {i : Nat} {d : PyData}, DpAll K H xs ds → ds[i]? = some d → ∃ x, xs[i]? = some x ∧ Dp K H x d
  | _, _, _, _, .nil, e => by simp at e
  | _, _, 0, _, .cons h _, e => by simp at e; subst e; exact ⟨_, rfl, h⟩
  | _, _, i + 1, x, .cons _ t, e => by
    obtain ⟨d, h1, h2⟩ := dpAll_at (i := i) (d := x) t (by simpa using e)
    exact ⟨d, by simpa using h1, h2⟩
theorem dpAll_app : ∀ {xs ys : List V} {ds es : List PyData}, DpAll K H xs ds → DpAll K H ys es → DpAll K H (xs ++ ys) (ds ++ es)
  | _, _, _, _, .nil, h => h
  | _, _, _, _, .cons h t, h' => .cons h (dpAll_app t h')
theorem dpAll_set : ∀ {xs : List V} {ds : List PyData} {x : V} {d : PyData} (i : Nat), DpAll K H xs ds → Dp K H x d → DpAll K H (xs.set i x) (ds.set i d)
  | _, _, _, _, _, .nil, _ => .nil
  | _, _, _, _, 0, .cons _ t, h => .cons h t
  | _, _, _, _, i + 1, .cons a t, h => .cons a (dpAll_set i t h)
theorem dpAll_take : ∀ {xs : List V} {ds : List PyData} (i : Nat), DpAll K H xs ds → DpAll K H (xs.take i) (ds.take i)
  | _, _, 0, _ => .nil
  | _, _, _ + 1, .nil => .nil
  | _, _, i + 1, .cons a t => .cons a (dpAll_take i t)
theorem dpAll_ints : ∀ (ns : List Int), DpAll K H (ns.map V.int) (ns.map PyData.int)
  | [] => .nil
  | n :: ns => .cons (.int n) (dpAll_ints ns)
mutual
theorem dp_keep (s : Same H H') : ∀ {v : V} {d : PyData}, Dp K H v d → Dp K H' v d
  | _, _, .non => .non
  | _, _, .bl b => .bl b
  | _, _, .int i => .int i
  | _, _, .str x => .str x
  | _, _, .lst h t => .lst (s.seq h) (dpAll_keep s t)
  | _, _, .tup h t => .tup (Same.tup s h) (dpAll_keep s t)
theorem dpAll_keep (s : Same H H') : ∀ {vs : List V} {ds : List PyData}, DpAll K H vs ds → DpAll K H' vs ds
  | _, _, .nil => .nil
  | _, _, .cons h t => .cons (dp_keep s h) (dpAll_keep s t)
end
mutual
theorem dp_flat (t : Tk H H') : ∀ {v : V} {d : PyData}, Dp K H v d → flat d = true → Dp K H' v d
  | _, _, .non, _ => .non
  | _, _, .bl b, _ => .bl b
  | _, _, .int i, _ => .int i
  | _, _, .str x, _ => .str x
  | _, _, .lst h r, f => by simp [flat] at f
  | _, _, .tup h r, f => .tup (t.seq h) (dpAll_flat t r (by simpa [flat] using f))
theorem dpAll_flat (t : Tk H H') : ∀ {vs : List V} {ds : List PyData}, DpAll K H vs ds → flatAll ds = true → DpAll K H' vs ds
  | _, _, .nil, _ => .nil
  | _, _, .cons h r, f => by
    simp only [flatAll, Bool.and_eq_true] at f
    exact .cons (dp_flat t h f.1) (dpAll_flat t r f.2)
end
theorem dp_tup {v : V} {ds : List PyData} (h : Dp K H v (.tuple ds)) : ∃ a xs, v = .ref a ∧ SqT K H a xs ∧ DpAll K H xs ds := by
  cases h with
  | tup h t => exact ⟨_, _, rfl, h, t⟩
theorem dp_lst {v : V} {ds : List PyData} (h : Dp K H v (.list ds)) : ∃ a xs, v = .ref a ∧ SqL K H a xs ∧ DpAll K H xs ds := by
  cases h with
  | lst h t => exact ⟨_, _, rfl, h, t⟩
theorem dp_int {v : V} {i : Int} (h : Dp K H v (.int i)) : v = .int i := by cases h; rfl
theorem dp_bool {v : V} {b : Bool} (h : Dp K H v (.bool b)) : v = .bl b := by cases h; rfl
theorem dp_str {v : V} {b : Str} (h : Dp K H v (.str b)) : v = .str b := by cases h; rfl
theorem dpAll_ints_inv : ∀ {xs : List V} {ns : List Int}, DpAll K H xs (ns.map PyData.int) → xs = ns.map V.int := by
  intro xs ns
  induction ns generalizing xs with
  | nil => intro h; cases h; rfl
  | cons n ns ih =>
    intro h
    cases h with
    | cons h t => rw [dp_int h, ih t]; rfl
end

/-! ### rows of states -/
abbrev Row := Bool × List Int
def rowD (r : Row) : PyData := .tuple (.bool r.1 :: r.2.map .int)
def rowV (r : Row) : List V := .bl r.1 :: r.2.map .int
def rowsD (rs : List Row) : List PyData := rs.map rowD
theorem flat_ints : ∀ ns : List Int, flatAll (ns.map PyData.int) = true
  | [] => by simp only [List.map_nil, flatAll]
  | n :: ns => by simp only [List.map_cons, flatAll, flat, flat_ints ns, Bool.and_self]
theorem flat_row (r : Row) : flat (rowD r) = true := by simp only [rowD, flat, flatAll, flat_ints, Bool.and_self]
theorem flat_rows : ∀ rs : List Row, flatAll (rowsD rs) = true
  | [] => by simp only [rowsD, List.map_nil, flatAll]
  | r :: rs => by
    have h := flat_rows rs
    simp only [rowsD] at h
    simp only [rowsD, List.map_cons, flatAll, flat_row, h, Bool.and_self]
section
variable {K : PySem.W.Frag} {H H' : Hp}
theorem row_of {v : V} {r : Row} (h : Dp K H v (rowD r)) : ∃ t, v = .ref t ∧ SqT K H t (rowV r) := by
  obtain ⟨t, xs, rfl, h1, h2⟩ := dp_tup h
  refine ⟨t, rfl, ?_⟩
  cases h2 with
  | cons a b =>
    rw [dp_bool a, dpAll_ints_inv b] at h1
    exact h1
theorem row_dp {t : Addr} {r : Row} (h : SqT K H t (rowV r)) : Dp K H (.ref t) (rowD r) := .tup h (.cons (.bl _) (dpAll_ints _))
theorem rows_len {xs : List V} {rs : List Row} (h : DpAll K H xs (rowsD rs)) : xs.length = rs.length := by
  rw [dpAll_length h]; unfold rowsD; simp
theorem rows_get {xs : List V} {rs : List Row} {i : Nat} {r : Row} (h : DpAll K H xs (rowsD rs)) (e : rs[i]? = some r) : ∃ t, xs[i]? = some (.ref t) ∧ SqT K H t (rowV r) := by
  obtain ⟨x, e1, h1⟩ := dpAll_at (i := i) (d := rowD r) h (by unfold rowsD; rw [List.getElem?_map, e]; rfl)
  obtain ⟨t, rfl, h2⟩ := row_of h1
  exact ⟨t, e1, h2⟩
theorem rows_keep (t : Tk H H') {xs : List V} {rs : List Row} (h : DpAll K H xs (rowsD rs)) : DpAll K H' xs (rowsD rs) := dpAll_flat t h (flat_rows rs)
theorem rows_lst {l : Addr} {xs : List V} {rs : List Row} (h : H l = some (.lst xs)) (r : DpAll K H xs (rowsD rs)) : Dp K H (.ref l) (.list (rowsD rs)) := .lst (SqL.of h) r
end

/-! ### how long a repr is, how deep -/
/-- ints below 2 ^ 150 -/
def small (i : Int) : Prop := i.natAbs < 2 ^ 150
theorem small_shows {i : Int} (h : small i) : (PyData.int i).showable = true := by
  simp only [PyData.showable]
  exact decide_eq_true (Nat.lt_trans (log2_lt (by decide) h) (by decide))
theorem small_len {i : Int} (h : small i) : (PyData.shown (.int i)).length ≤ 151 := by
  have e := PySem.int_text_length_le (k := 150) (by decide) (log2_lt (by decide) h)
  show (Str.ofString (toString i)).length ≤ 151
  rw [PySem.ofString_length]
  exact e
mutual
/-- all ints within are small; no text but of short signs -/
def tame : PyData → Prop
  | .none => True | .bool _ => True
  | .int i => small i
  | .str x => PyData.strOk x = true ∧ (x.cps.toList.all fun c => decide (c < 16 ^ 8)) = true
  | .list xs => tameAll xs
  | .tuple xs => tameAll xs
  | .dict _ => False
def tameAll : List PyData → Prop
  | [] => True
  | x :: xs => tame x ∧ tameAll xs
end
mutual
theorem tame_ok : ∀ d : PyData, tame d → d.showable = true ∧ d.leavesShort 151 = true
  | .none, _ => by simp [PyData.showable, PyData.leavesShort]
  | .bool _, _ => by simp [PyData.showable, PyData.leavesShort]
  | .int i, h => ⟨small_shows (by simpa [tame] using h), by simp only [PyData.leavesShort]; exact decide_eq_true (small_len (by simpa [tame] using h))⟩
  | .str x, h => by
    have q : PyData.strOk x = true ∧ (x.cps.toList.all fun c => decide (c < 16 ^ 8)) = true := by simpa only [tame] using h
    exact ⟨by simp only [PyData.showable], by simpa only [PyData.leavesShort] using q.2⟩
  | .list xs, h => by simpa only [PyData.showable, PyData.leavesShort] using tameAll_ok xs (by simpa [tame] using h)
  | .tuple xs, h => by simpa only [PyData.showable, PyData.leavesShort] using tameAll_ok xs (by simpa [tame] using h)
  | .dict _, h => by simp [tame] at h
theorem tameAll_ok : ∀ ds : List PyData, tameAll ds → PyData.showableAll ds = true ∧ PyData.leavesShortAll 151 ds = true
  | [], _ => by simp [PyData.showableAll, PyData.leavesShortAll]
  | x :: xs, h => by
    simp only [tameAll] at h
    obtain ⟨a, b⟩ := tame_ok x h.1
    obtain ⟨c, d⟩ := tameAll_ok xs h.2
    simp [PyData.showableAll, PyData.leavesShortAll, a, b, c, d]
end
theorem tame_len {d : PyData} (h : tame d) (w : d.weight ≤ 100000) : d.shown.length ≤ sizeLine := by
  have := PyData.shown_le 151 (by decide) d (tame_ok d h).2
  rw [sizeLine_eq]
  omega
theorem tame_ints : ∀ ns : List Int, (∀ n ∈ ns, small n) → tameAll (ns.map .int)
  | [], _ => by simp only [List.map_nil, tameAll]
  | n :: ns, h => by
    simp only [List.map_cons, tameAll, tame]
    exact ⟨h n (List.mem_cons_self ..), tame_ints ns fun m hm => h m (List.mem_cons_of_mem _ hm)⟩
theorem weight_int {i : Int} (h : small i) : (PyData.int i).weight ≤ 150 := by
  simp only [PyData.weight]
  have := log2_lt (i := i) (k := 150) (by decide) h
  split <;> omega
theorem weight_ints : ∀ ns : List Int, (∀ n ∈ ns, small n) → PyData.weightAll (ns.map .int) ≤ 151 * ns.length
  | [], _ => by simp [PyData.weightAll]
  | n :: ns, h => by
    have a := weight_int (h n (List.mem_cons_self ..))
    have b := weight_ints ns fun m hm => h m (List.mem_cons_of_mem _ hm)
    simp only [List.map_cons, PyData.weightAll, List.length_cons]
    omega
theorem depth_ints : ∀ ns : List Int, PyData.depthAll (ns.map .int) ≤ 1
  | [] => by simp [PyData.depthAll]
  | n :: ns => by
    have := depth_ints ns
    simp only [List.map_cons, PyData.depthAll, PyData.depth]
    omega
/-- a row whose next states are small, at most nine of them -/
def rowOk (r : Row) : Prop := r.2.length ≤ 9 ∧ ∀ n ∈ r.2, small n
theorem tame_row {r : Row} (h : rowOk r) : tame (rowD r) := by
  simp only [rowD, tame, tameAll, true_and]
  exact tame_ints _ h.2
theorem weight_row {r : Row} (h : rowOk r) : (rowD r).weight ≤ 1400 := by
  have := weight_ints _ h.2
  have := h.1
  simp only [rowD, PyData.weight, PyData.weightAll]
  omega
theorem depth_row (r : Row) : (rowD r).depth ≤ 3 := by
  have := depth_ints r.2
  simp only [rowD, PyData.depth, PyData.depthAll]
  omega
theorem tame_rows : ∀ rs : List Row, (∀ r ∈ rs, rowOk r) → tameAll (rowsD rs)
  | [], _ => by simp only [rowsD, List.map_nil, tameAll]
  | r :: rs, h => by
    have b := tame_rows rs fun m hm => h m (List.mem_cons_of_mem _ hm)
    simp only [rowsD] at b
    simp only [rowsD, List.map_cons, tameAll]
    exact ⟨tame_row (h r (List.mem_cons_self ..)), b⟩
theorem weight_rows : ∀ rs : List Row, (∀ r ∈ rs, rowOk r) → PyData.weightAll (rowsD rs) ≤ 1401 * rs.length
  | [], _ => by simp [rowsD, PyData.weightAll]
  | r :: rs, h => by
    have a := weight_row (h r (List.mem_cons_self ..))
    have b := weight_rows rs fun m hm => h m (List.mem_cons_of_mem _ hm)
    simp only [rowsD] at b
    simp only [rowsD, List.map_cons, PyData.weightAll, List.length_cons]
    omega
theorem depth_rows : ∀ rs : List Row, PyData.depthAll (rowsD rs) ≤ 3
  | [] => by simp [rowsD, PyData.depthAll]
  | r :: rs => by
    have a := depth_row r
    have b := depth_rows rs
    simp only [rowsD] at b
    simp only [rowsD, List.map_cons, PyData.depthAll]
    omega
/-- what repr asks of data: it is shown, not deep, not long -/
structure Shows (d : PyData) : Prop where
  sh : d.showable = true
  dep : d.depth ≤ 50
  len : d.shown.length ≤ sizeLine
theorem Shows.of {d : PyData} (t : tame d) (w : d.weight ≤ 100000) (p : d.depth ≤ 50) : Shows d := ⟨(tame_ok d t).1, p, tame_len t w⟩
theorem shows_rows {rs : List Row} (h : ∀ r ∈ rs, rowOk r) (n : rs.length ≤ 60) : Shows (.list (rowsD rs)) := by
  have a := tame_rows rs h
  have b := weight_rows rs h
  have c := depth_rows rs
  refine .of (by simpa only [tame] using a) ?_ ?_
  · simp only [PyData.weight]; omega
  · simp only [PyData.depth]; omega
theorem shows_row {r : Row} (h : rowOk r) : Shows (rowD r) := .of (tame_row h) (by have := weight_row h; omega) (by have := depth_row r; omega)
theorem shaped_of {d : PyData} (c : d.canLay0 = true) (p : d.depth ≤ 64) : SeqAt.shaped d = true := by
  show (d.canLay0 && decide (d.depth ≤ 64)) = true
  rw [c, decide_eq_true p] <;> rfl
mutual
theorem tame_lay : ∀ d : PyData, tame d → d.canLay0 = true
  | .none, _ => by simp [PyData.canLay0]
  | .bool _, _ => by simp [PyData.canLay0]
  | .int i, h => by simp [PyData.canLay0]
  | .str x, h => by
    have q : PyData.strOk x = true ∧ (x.cps.toList.all fun c => decide (c < 16 ^ 8)) = true := by simpa only [tame] using h
    simpa only [PyData.canLay0] using q.1
  | .list xs, h => by simp only [PyData.canLay0]; exact tameAll_lay xs (by simpa [tame] using h)
  | .tuple xs, h => by simp only [PyData.canLay0]; exact tameAll_lay xs (by simpa [tame] using h)
  | .dict _, h => by simp [tame] at h
theorem tameAll_lay : ∀ ds : List PyData, tameAll ds → PyData.canLayAll0 ds = true
  | [], _ => by simp [PyData.canLayAll0]
  | x :: xs, h => by
    simp only [tameAll] at h
    simp [PyData.canLayAll0, tame_lay x h.1, tameAll_lay xs h.2]
end
end Ob
set_option Elab.async false
set_option linter.all false
set_option maxRecDepth 100000
set_option maxHeartbeats 4000000
namespace Ob
open PySem PySem.Spec PyProof.Rows L2
/-! ### a purse: where draws come from; at most n so far -/
def Pu (n : Int) (o : HO) : Prop := ∃ a b c : Int, o = .lst [.int a, .int b, .int c] ∧ 0 ≤ a ∧ 0 ≤ b ∧ b < 2 ^ 80 ∧ 0 ≤ c ∧ c ≤ n
theorem Pu.mono {n m : Int} {o : HO} (h : Pu n o) (k : n ≤ m) : Pu m o := by
  obtain ⟨a, b, c, e, h1, h2, h3, h4, h5⟩ := h
  exact ⟨a, b, c, e, h1, h2, h3, h4, by omega⟩
/-- a draw: a number below m; the purse alone is changed -/
def spCoin : Sp := fun vs H Q _ => ∃ (p : Addr) (o : HO) (n m : Int), vs = [.ref p, .int m] ∧ H p = some o ∧ Pu n o ∧ n ≤ 10 ^ 12 ∧ 0 < m ∧ m < 2 ^ 200 ∧
  ∀ (k : Int) (u : HO), 0 ≤ k → k < m → Pu (n + 1) u → Q (.int k) (upd H p u)
/-- the purse of a script's place -/
def spPurse (K : PySem.W.Frag) : Sp := fun vs H Q _ => ∃ (a : Addr) (ns : List Int) (i : Nat), vs = [.ref a, .int i] ∧ SqL K H a (ns.map V.int) ∧ ns.length ≤ 63 ∧ i ≤ 100 ∧
  ∀ p u, H p = none → Pu 0 u → Q (.ref p) (upd H p u)
theorem pow_small {i : Int} {k e : Nat} (h0 : 0 ≤ i) (h : i < 2 ^ k) (hk : 0 < k) (hk2 : k ≤ 1000) (he : e ≤ 1000) : CPowW i (e : Int) := by
  refine ⟨by omega, by omega, ?_⟩
  have : i.natAbs < 2 ^ k := by
    have e1 : ((i.natAbs : Nat) : Int) = i := Int.natAbs_of_nonneg h0
    have e2 : ((2 ^ k : Nat) : Int) = 2 ^ k := by norm_cast
    omega
  exact Nat.lt_of_lt_of_le (log2_lt hk this) hk2
theorem div_small {i j : Int} (h0 : 0 < j) (h : j < 2 ^ 200) : CDivW i j := by
  refine ⟨h0, ?_⟩
  have : j.natAbs < 2 ^ 200 := by omega
  exact Nat.lt_of_lt_of_le (log2_lt (by decide) this) (by decide)
end Ob
set_option Elab.async false
set_option linter.all false
set_option maxRecDepth 100000
set_option maxHeartbeats 4000000
namespace Ob
open PySem PySem.Spec PyProof.Rows L2
/-! ### rules -/
def goodRow (n : Nat) (r : Row) : Bool := r.2.all fun k => decide (0 ≤ k) && decide (k < (n : Int))
def ruleF (e lo : Int) (l : Addr) : List (Str × V) := putF "_states" (.ref l) (putF "_losses" (.int lo) (putF "_every" (.int e) []))
theorem el_ne : ¬ (("_every" : Str) = "_losses") := by decide +kernel
theorem es_ne : ¬ (("_every" : Str) = "_states") := by decide +kernel
theorem ls_ne : ¬ (("_losses" : Str) = "_states") := by decide +kernel
theorem ruleF_every {e lo : Int} {l : Addr} : (ruleF e lo l).lookup ("_every" : Str) = some (.int e) := by
  unfold ruleF
  rw [lookup_putF, if_neg es_ne, lookup_putF, if_neg el_ne, lookup_putF, if_pos rfl]
theorem ruleF_losses {e lo : Int} {l : Addr} : (ruleF e lo l).lookup ("_losses" : Str) = some (.int lo) := by
  unfold ruleF
  rw [lookup_putF, if_neg ls_ne, lookup_putF, if_pos rfl]
theorem ruleF_states {e lo : Int} {l : Addr} : (ruleF e lo l).lookup ("_states" : Str) = some (.ref l) := by
  unfold ruleF
  rw [lookup_putF, if_pos rfl]
theorem ruleF_no {e lo : Int} {l : Addr} {m : Str} (h1 : ¬ m = "_every") (h2 : ¬ m = "_losses") (h3 : ¬ m = "_states") : (ruleF e lo l).lookup m = none := by
  unfold ruleF
  rw [lookup_putF, if_neg h3, lookup_putF, if_neg h2, lookup_putF, if_neg h1]
  rfl
/-- a rule stands at a; its list of states is its own -/
def RuleAt (K : PySem.W.Frag) (C : Addr) (H : Hp) (a : Addr) (e lo : Int) (rs : List Row) : Prop :=
  ∃ dx l xs, H a = some (.ins C dx (ruleF e lo l)) ∧ H l = some (.lst xs) ∧ DpAll K H xs (rowsD rs)
theorem RuleAt.keep {K : PySem.W.Frag} {C : Addr} {H H' : Hp} {a : Addr} {e lo : Int} {rs : List Row} (h : RuleAt K C H a e lo rs) (s : Same H H') : RuleAt K C H' a e lo rs := by
  obtain ⟨dx, l, xs, h1, h2, h3⟩ := h
  exact ⟨dx, l, xs, s _ _ h1, s _ _ h2, dpAll_keep s h3⟩
/-- a rule, made: a new object, its list new -/
def RuleNew (K : PySem.W.Frag) (C : Addr) (H H' : Hp) (a : Addr) (e lo : Int) (rs : List Row) : Prop :=
  ∃ dx l xs, H' a = some (.ins C dx (ruleF e lo l)) ∧ H' l = some (.lst xs) ∧ DpAll K H' xs (rowsD rs) ∧ H a = none ∧ H dx = none ∧ H l = none
theorem RuleNew.at_ {K : PySem.W.Frag} {C : Addr} {H H' : Hp} {a : Addr} {e lo : Int} {rs : List Row} (h : RuleNew K C H H' a e lo rs) : RuleAt K C H' a e lo rs := by
  obtain ⟨dx, l, xs, h1, h2, h3, _⟩ := h
  exact ⟨dx, l, xs, h1, h2, h3⟩
def spGoes (K : PySem.W.Frag) : Sp := fun vs H Q _ => ∃ (t : Addr) (r : Row) (m : Nat), vs = [.ref t, .int m] ∧ SqT K H t (rowV r) ∧ r.2.length ≤ 9 ∧ ∀ H', Same H H' → Q (.bl (goodRow m r)) H'
theorem cut_row (r : Row) : cutV (rowV r) (some 1) none = r.2.map V.int := by
  have h : HT.sIx (rowV r).length 0 (some 1) = 1 := by
    unfold HT.sIx rowV
    simp
  unfold cutV
  rw [h]
  show ((rowV r).drop 1).take ((rowV r).length - 1) = _
  unfold rowV
  simp only [List.drop_succ_cons, List.drop_zero, List.length_cons, List.length_map, Nat.add_sub_cancel]
  exact List.take_of_length_le (by simp)
/-- what is raised: the class, the value -/
def Raised (H : Hp) (E : XK) (C : Addr) (v : V) : Prop := ∀ (d : Addr) (H' : Hp), H d = none → Same H H' → H' d = some (erD v) → E (.ref C) (some d) H'
def spRuleInit (K : PySem.W.Frag) (C cN cS : Addr) : Sp := fun vs H Q E => ∃ (a dx l : Addr) (e lo : Int) (xs : List V) (rs : List Row), vs = [.ref a, .int e, .int lo, .ref l] ∧ H a = some (.ins C dx []) ∧ SqL K H l xs ∧ DpAll K H xs (rowsD rs) ∧
  (∀ r ∈ rs, r.2.length ≤ 9) ∧ rs.length ≤ 1000 ∧ (e < 1 → Raised H E cN (.int e)) ∧ (1 ≤ e → lo < 0 → Raised H E cN (.int lo)) ∧ (1 ≤ e → 0 ≤ lo → rs = [] → Raised H E cS (.int 0)) ∧
  (1 ≤ e → 0 ≤ lo → ∀ (i : Nat) (r : Row), rs[i]? = some r → goodRow rs.length r = false → (∀ (j : Nat) (q : Row), j < i → rs[j]? = some q → goodRow rs.length q = true) → Raised H E cS (.int i)) ∧
  (1 ≤ e → 0 ≤ lo → rs ≠ [] → (∀ r ∈ rs, goodRow rs.length r = true) → ∀ (l2 : Addr) (H' : Hp), H l2 = none → H' a = some (.ins C dx (ruleF e lo l2)) → H' l2 = some (.lst xs) →
    (∀ b o, H b = some o → b ≠ a → H' b = some o) → Q .non H')
end Ob
namespace Ob
open PySem PySem.Spec PyProof.Rows L2
theorem take_map_succ {α β : Type} {f : α → β} {l : List α} {i : Nat} {z : α} (h : l[i]? = some z) : (l.take (i + 1)).map f = (l.take i).map f ++ [f z] := by
  rw [List.take_add_one, h]
  simp
theorem map_get {α β : Type} {f : α → β} {l : List α} {i : Nat} {y : β} (h : (l.map f)[i]? = some y) : ∃ z, l[i]? = some z ∧ y = f z := by
  rw [List.getElem?_map] at h
  cases e : l[i]? with
  | none => rw [e] at h; cases h
  | some z => rw [e] at h; exact ⟨z, rfl, (Option.some.inj h).symm⟩
theorem sIx_one (n : Nat) : HT.sIx (n + 1) 0 (some 1) = 1 := by
  unfold HT.sIx
  simp
theorem few {n k : Nat} (h : n ≤ k) (hk : k < 16777216 := by decide) : n < sizeLine := by rw [sizeLine_eq]; omega
end Ob
namespace Ob
open PySem PySem.Spec PyProof.Rows L2
def spEvery (C : Addr) : Sp := fun vs H Q _ => ∃ (a dx : Addr) (e lo : Int) (l : Addr), vs = [.ref a] ∧ H a = some (.ins C dx (ruleF e lo l)) ∧ Q (.int e) H
def spLosses (C : Addr) : Sp := fun vs H Q _ => ∃ (a dx : Addr) (e lo : Int) (l : Addr), vs = [.ref a] ∧ H a = some (.ins C dx (ruleF e lo l)) ∧ Q (.int lo) H
def spStates (C : Addr) : Sp := fun vs H Q _ => ∃ (a dx : Addr) (e lo : Int) (l : Addr) (xs : List V), vs = [.ref a] ∧ H a = some (.ins C dx (ruleF e lo l)) ∧ H l = some (.lst xs) ∧ ∀ q, H q = none → Q (.ref q) (upd H q (.lst xs))
/-- all but the purse at p is as it was -/
def But (p : Addr) (H H' : Hp) : Prop := ∀ b o, H b = some o → b ≠ p → H' b = some o
theorem But.refl {p : Addr} {H : Hp} : But p H H := fun _ _ h _ => h
theorem But.trans {p : Addr} {H H1 H2 : Hp} (a : But p H H1) (b : But p H1 H2) : But p H H2 := fun c o h n => b c o (a c o h n) n
theorem But.same {p : Addr} {H H' : Hp} (s : Same H H') : But p H H' := fun b o h _ => s b o h
theorem But.upd {p : Addr} {H : Hp} {u : HO} : But p H (upd H p u) := fun b o h n => by rw [upd_ne n]; exact h
theorem But.free {p : Addr} {H H' : Hp} (b : But p H H') {l : Addr} (h : H' l = none) (n : l ≠ p) : H l = none := by
  cases q : H l with
  | none => rfl
  | some o => rw [b l o q n] at h; cases h
theorem But.tk {p : Addr} {H H' : Hp} {ys : List V} (b : But p H H') (hp : H p = some (.lst ys)) : Tk H H' := Tk.but hp b
/-- a drawn rule's numbers and rows -/
def spDrawn (K : PySem.W.Frag) : Sp := fun vs H Q _ => ∃ (p z : Addr) (n : Int) (o : HO) (s0 s1 s2 : Int), vs = [.ref p, .ref z] ∧ H p = some o ∧ Pu n o ∧ n ≤ 10 ^ 11 ∧ SqT K H z [.int s0, .int s1, .int s2] ∧
  0 < s0 ∧ s0 ≤ 60 ∧ 0 < s1 ∧ s1 ≤ 1000 ∧ 0 ≤ s2 ∧ s2 ≤ 1000 ∧
  ∀ (t l : Addr) (e lo : Int) (xs : List V) (rs : List Row) (H' : Hp) (u : HO), H t = none → H l = none → t ≠ l → H' t = some (.tup [.int e, .int lo, .ref l]) → H' l = some (.lst xs) → DpAll K H' xs (rowsD rs) → 1 ≤ e → e ≤ s1 → 0 ≤ lo → lo ≤ s2 →
    1 ≤ rs.length → (rs.length : Int) ≤ s0 → (∀ r ∈ rs, goodRow rs.length r = true ∧ r.2.length = 4) → H' p = some u → Pu (n + 1000) u → But p H H' → Q (.ref t) H'
end Ob
namespace Ob
open PySem PySem.Spec PyProof.Rows L2
theorem kbn_of {K : PySem.W.Frag} {x qual : Str} {st : Stmt} {f : Addr} {fd : FuncData} {ps ks : List Str} {n : Nat} {g : List Value → List Value → List Value} {gV : List V → List V → List V} (F : Fun K x qual st f fd)
    (h : ∀ (kV doc pm : Value) (an : Option Addr) (cdv ct : Value) (us ws : List Value), us.length = n → ws.length = ks.length → bindArgs (PySem.W.fnOf x qual (defArgs st) (defBody st) (defScope st) .none kV doc pm an cdv ct) ⟨us, ks.zip ws⟩ = pure (ps.zip (g us ws)))
    (rel : ∀ {vs : List V} {us : List Value} {zs : List V} {ws : List Value}, Vals vs us → Vals zs ws → Vals (gV vs zs) (g us ws)) : KBn K fd ps n ks g gV := by
  obtain ⟨oc, od, kV, doc, pm, an, cdv, ct, osl, rfl, lk, hcd⟩ := F.ex
  exact ⟨fun s us ws _ l1 l2 => .of_eq (h kV doc pm an cdv ct us ws l1 l2), rel⟩
/-- self and three keywords' values, in another order -/
def kw3 {α : Type} (f : α → α → α → α → List α) : List α → List α → List α
  | [a], [x, y, z] => f a x y z
  | _, _ => []
theorem kw3_rel {f : V → V → V → V → List V} {g : Value → Value → Value → Value → List Value} (h : ∀ {a x y z u1 u2 u3 u4}, RelV a u1 → RelV x u2 → RelV y u3 → RelV z u4 → Vals (f a x y z) (g u1 u2 u3 u4)) :
    ∀ {vs : List V} {us : List Value} {zs : List V} {ws : List Value}, Vals vs us → Vals zs ws → Vals (kw3 f vs zs) (kw3 g us ws) := by
  intro vs us zs ws r z
  cases r with
  | nil => exact .nil
  | cons r1 r2 =>
    cases r2 with
    | cons _ _ => exact .nil
    | nil =>
      cases z with
      | nil => exact .nil
      | cons z1 z2 =>
        cases z2 with
        | nil => exact .nil
        | cons z2 z3 =>
          cases z3 with
          | nil => exact .nil
          | cons z3 z4 =>
            cases z4 with
            | cons _ _ => exact .nil
            | nil => exact h r1 z1 z2 z3
/-- a pair of a word and a value is handed back -/
def TupEnd (H : Hp) (Q : VK) (nm : Str) (v : V) : Prop := ∀ (t : Addr) (H' : Hp), Same H H' → H' t = some (.tup [.str nm, v]) → Q (.ref t) H'
def spRefused (K : PySem.W.Frag) (C : Addr) : Sp := fun vs H Q _ => ∃ (l : Addr) (e lo : Int) (nm : Bool) (xs : List V) (rs : List Row), vs = [.int e, .int lo, .ref l, .bl nm] ∧ SqL K H l xs ∧ DpAll K H xs (rowsD rs) ∧
  (∀ r ∈ rs, r.2.length ≤ 9) ∧ rs.length ≤ 1000 ∧ (e < 1 → TupEnd H Q "number" (.int e)) ∧ (1 ≤ e → lo < 0 → TupEnd H Q "number" (.int lo)) ∧ (1 ≤ e → 0 ≤ lo → rs = [] → TupEnd H Q "state" (.int 0)) ∧
  (1 ≤ e → 0 ≤ lo → ∀ (i : Nat) (r : Row), rs[i]? = some r → goodRow rs.length r = false → (∀ (j : Nat) (q : Row), j < i → rs[j]? = some q → goodRow rs.length q = true) → TupEnd H Q "state" (.int i)) ∧
  (1 ≤ e → 0 ≤ lo → rs ≠ [] → (∀ r ∈ rs, goodRow rs.length r = true) → ∀ (a : Addr) (H' : Hp), Same H H' → RuleAt K C H' a e lo rs → Q (.ref a) H')
end Ob
namespace Ob
open PySem PySem.Spec PyProof.Rows L2
def pairD (nm : Str) (v : Int) : PyData := .tuple [.str nm, .int v]
theorem pair_dp {K : PySem.W.Frag} {H : Hp} {t : Addr} {nm : Str} {v : Int} (h : H t = some (.tup [.str nm, .int v])) : Dp K H (.ref t) (pairD nm v) := .tup (SqT.of h) (.cons (.str nm) (.cons (.int v) .nil))
theorem shows_pair {nm : Str} {v : Int} (h : small v) (n : nm.cps.size ≤ 1000) (t : tame (.str nm)) : Shows (pairD nm v) := by
  refine .of ?_ ?_ ?_
  · simp only [pairD, tame, tameAll, and_true]
    exact ⟨by simpa only [tame] using t, h⟩
  · have := weight_int h
    have e : PyData.weight (.str nm) = nm.cps.size := by simp [PyData.weight]
    simp only [pairD, PyData.weight, PyData.weightAll] at *
    omega
  · simp [pairD, PyData.depth, PyData.depthAll]
theorem tame_number : tame (.str "number") := by simp only [tame]; decide +kernel
theorem tame_state : tame (.str "state") := by simp only [tame]; decide +kernel
/-- the promise of a law's one look: it answers True; the purse alone is changed -/
def spRight : Sp := fun vs H Q _ => ∃ (p : Addr) (o : HO) (n : Int), vs = [.ref p] ∧ H p = some o ∧ Pu n o ∧ n ≤ 10 ^ 10 ∧ ∀ (H' : Hp) (u : HO), H' p = some u → Pu (n + 10 ^ 6) u → But p H H' → Q (.bl true) H'
def spLaw (K : PySem.W.Frag) : Sp := fun vs H Q _ => ∃ (a : Addr) (ns : List Int), vs = [.ref a] ∧ SqL K H a (ns.map V.int) ∧ ns.length ≤ 63 ∧ ∀ H', Q (.bl true) H'
theorem Pu.lst {n : Int} {o : HO} (h : Pu n o) : ∃ ys, o = .lst ys := by
  obtain ⟨a, b, c, e, _⟩ := h
  exact ⟨_, e⟩
theorem But.seqL {K : PySem.W.Frag} {p a : Addr} {H H' : Hp} {xs : List V} (b : But p H H') (h : SqL K H a xs) (n : a ≠ p) : SqL K H' a xs := by
  rcases h with (h | ⟨o, h⟩) | h
  · exact .inl (.inl (b _ _ h n))
  · exact .inl (.inr ⟨o, b _ _ h n⟩)
  · exact .inr h
/-- a purse made anew: what was before stands -/
theorem But.new {p : Addr} {H H1 H' : Hp} (s : Same H H1) (h : H p = none) (b : But p H1 H') : Same H H' := fun c o q => b c o (s c o q) (ne_of_none q h)
theorem small_40 {i : Int} (h1 : -(10 ^ 40 + 1) ≤ i) (h2 : i ≤ 10 ^ 40 + 1) : small i := by
  unfold small
  have : i.natAbs ≤ 10 ^ 40 + 1 := by omega
  exact Nat.lt_of_le_of_lt this (by decide)
end Ob
namespace Ob
open PySem PySem.Spec PyProof.Rows L2
/-- one of two, one of three written values -/
theorem at2 {a b : V} {k : Int} (h0 : 0 ≤ k) (h : k < 2) : ∃ v, atI [a, b] k = some v ∧ ((k = 0 ∧ v = a) ∨ (k = 1 ∧ v = b)) := by
  rcases (by omega : k = 0 ∨ k = 1) with rfl | rfl
  · exact ⟨a, rfl, .inl ⟨rfl, rfl⟩⟩
  · exact ⟨b, rfl, .inr ⟨rfl, rfl⟩⟩
theorem at3 {a b c : V} {k : Int} (h0 : 0 ≤ k) (h : k < 3) : ∃ v, atI [a, b, c] k = some v ∧ ((k = 0 ∧ v = a) ∨ (k = 1 ∧ v = b) ∨ (k = 2 ∧ v = c)) := by
  rcases (by omega : k = 0 ∨ k = 1 ∨ k = 2) with rfl | rfl | rfl
  · exact ⟨a, rfl, .inl ⟨rfl, rfl⟩⟩
  · exact ⟨b, rfl, .inr (.inl ⟨rfl, rfl⟩)⟩
  · exact ⟨c, rfl, .inr (.inr ⟨rfl, rfl⟩)⟩
theorem eqv_tame {d : PyData} (h : tame d) : PyData.eqv d d = true := PySem.SeqAt.eqv_refl d (tame_lay d h)
theorem goodRow_ok {n : Nat} {r : Row} (h : goodRow n r = true) (l : r.2.length = 4) (hn : n ≤ 1000) : rowOk r := by
  refine ⟨by omega, fun q hq => ?_⟩
  unfold goodRow at h
  have z := List.all_eq_true.mp h q hq
  rw [Bool.and_eq_true] at z
  have z0 := of_decide_eq_true z.1
  have z1 := of_decide_eq_true z.2
  unfold small
  have : q.natAbs < 1000 := by omega
  exact Nat.lt_trans this (by decide)
end Ob
namespace Ob
open PySem PySem.Spec PyProof.Rows L2
theorem eqv_ints_eq : ∀ {ns ms : List Int}, PyData.eqvAll (ns.map PyData.int) (ms.map PyData.int) = true → ns = ms
  | [], [], _ => rfl
  | [], _ :: _, h => by simp [PyData.eqvAll] at h
  | _ :: _, [], h => by simp [PyData.eqvAll] at h
  | n :: ns, m :: ms, h => by
    simp only [List.map_cons, PyData.eqvAll, PyData.eqv, Bool.and_eq_true, beq_iff_eq] at h
    rw [h.1, eqv_ints_eq h.2]
theorem eqv_row_eq {q r : Row} (h : PyData.eqv (rowD q) (rowD r) = true) : q = r := by
  obtain ⟨b, ns⟩ := q
  obtain ⟨c, ms⟩ := r
  simp only [rowD, PyData.eqv, PyData.eqvAll, Bool.and_eq_true, beq_iff_eq] at h
  rw [h.1, eqv_ints_eq h.2]
/-- a row with a wrong next state, made of another one -/
def spWrong (K : PySem.W.Frag) : Sp := fun vs H Q _ => ∃ (p t : Addr) (o : HO) (n m : Int) (r : Row), vs = [.ref p, .ref t, .int m] ∧ H p = some o ∧ Pu n o ∧ n ≤ 10 ^ 11 ∧ SqT K H t (rowV r) ∧ rowOk r ∧ r.2.length = 4 ∧ 1 ≤ m ∧ m ≤ 1000 ∧
  ∀ (T : Addr) (q : Row) (H' : Hp) (u : HO), H T = none → H' T = some (.tup (rowV q)) → q.2.length = 4 → rowOk q → goodRow m.toNat q = false → H' p = some u → Pu (n + 50) u → But p H H' → Q (.ref T) H'
theorem bad_of {m : Nat} {q : Row} {i : Nat} {z : Int} (h : q.2[i]? = some z) (b : z < 0 ∨ (m : Int) ≤ z) : goodRow m q = false := by
  rw [← Bool.not_eq_true]
  intro g
  unfold goodRow at g
  have x := List.all_eq_true.mp g z (List.mem_of_getElem? h)
  rw [Bool.and_eq_true] at x
  have x0 := of_decide_eq_true x.1
  have x1 := of_decide_eq_true x.2
  omega
end Ob
set_option Elab.async false
set_option linter.all false
set_option maxRecDepth 100000
set_option maxHeartbeats 4000000
namespace Ob
open PySem PySem.Spec PyProof.Rows PySem.HandSPX
section
variable {M : Model} {A : Around} {E : Value → Shared → Prop} {h : Heap} {g : Array GenState} {d : Drawn} {t : Nat} {os : OsState}
variable {nm q : Str} {C N : Addr} {bs bm bmB : List Value} {hdct : Bool} {sn : List Str} {sub : List Value} {ab : Bool} {col : Option Bool} {dd : Option Addr} {k0 k1 k2 k3 k5 : Option Value} {B newId initId : String}
/-- an own error made by keywords alone: what its maker is asked -/
theorem kwNew_check (F : ExcBaseFacts B newId initId bmB) (like : ∀ X : String, bm.contains (.type X) = bmB.contains (.type X)) {f : Str} {v : Value} {Q : Unit → Shared → Prop}
    (hC : h.get? C = some (excClassObj nm q C N bs bm hdct sn sub ab col dd k0 k1 k2 k3 k5 newId)) (fin : Q () ⟨h, g, d, t, os⟩) : wpAny M A (checkBuiltinCall newId ⟨[.ref C], [(f, v)]⟩) Q E ⟨h, g, d, t, os⟩ := by
  have isB : (Value.ref C :: bm).contains (.type B) = true := by rw [List.contains_cons, like, F.hasB, Bool.or_true]
  have star := F.noStar
  simp only [checkBuiltinCall, F.newKind, F.newSplit, F.newRow]
  repeat (first | refine wpAny_loadPart_at hC ?_ | (refine wpAny_isSubtype_exc hC ?_; rw [isB]) | refine wpAny_staticBase_exc hC ?_ | refine wpAny_madeBy_exc hC ?_ | simp only [bne_self_eq_false, Bool.false_eq_true, if_false] | wp_step)
  exact fin
end
section
variable {prog : Program} {w : World} {A : Around} {E : Value → Shared → Prop} {R : Result → Shared → Prop} {h : Heap} {g : Array GenState} {d : Drawn} {t : Nat} {os : OsState}
variable {nm q : Str} {C N : Addr} {bs bm bmB : List Value} {hdct : Bool} {sn : List Str} {sub : List Value} {ab : Bool} {col : Option Bool} {dd : Option Addr} {k0 k1 k2 k3 k5 : Option Value} {B newId initId : String}
/-- .. its maker: the words are not its own, the fields are those of an error without arguments -/
theorem kwNew (F : ExcBaseFacts B newId initId bmB) (like : ∀ X : String, bm.contains (.type X) = bmB.contains (.type X)) {f : Str} {v : Value}
    (hC : h.get? C = some (excClassObj nm q C N bs bm hdct sn sub ab col dd k0 k1 k2 k3 k5 newId))
    (fin : R (.ok (.ret (.ref (h.objs.size + 1)))) ⟨(h.push (PySem.W.kdv_tup [])).push (excO C h.objs.size), g, d, t, os⟩) : codeAny (model prog w) A (.builtin newId ⟨[.ref C], [(f, v)]⟩) R ⟨h, g, d, t, os⟩ := by
  have ends := F.ends
  have isB : (Value.ref C :: bm).contains (.type B) = true := by rw [List.contains_cons, like, F.hasB, Bool.or_true]
  have noA : (Value.ref C :: bm).contains (.type "AttributeError") = false := by rw [List.contains_cons, like, F.noAttr]; rfl
  have noN : (Value.ref C :: bm).contains (.type "NameError") = false := by rw [List.contains_cons, like, F.noName]; rfl
  refine codeAny_builtinAt F.entry ?_
  unfold Builtin.«BaseException.__new__»
  refine PySem.wpAt_bind ?_
  show PySem.wpAt _ _ _ (stack >>= _) _ _ _
  refine PySem.wpAt_bind (PySem.wpAt_stack fun p below => PySem.wpAt_of_wpAny ?_)
  wp_walk
  refine PySem.wpAt_of_wpAny ?_
  rw [F.owner]
  repeat (first | with_reducible refine wpAny_madeHere_exc F.canon hC ?_ | with_reducible refine wpAny_loadPart_at hC ?_ | (with_reducible refine wpAny_isSubtype_exc hC ?_; first | rw [isB] | rw [noA] | rw [noN]) | wp_step)
  all_goals try (rw [sizeLine_eq]; decide)
  show R _ _
  rw [Heap.size_push]
  exact fin
theorem kwTypeCheck {M : Model} {f : Str} {v : Value} {Q : Unit → Shared → Prop} (hC : h.get? C = some (excClassObj nm q C N bs bm hdct sn sub ab col dd k0 k1 k2 k3 k5 newId))
    (fin : Q () ⟨h, g, d, t, os⟩) : wpAny M A (checkBuiltinCall "type.__call__" ⟨[.ref C], [(f, v)]⟩) Q E ⟨h, g, d, t, os⟩ := by
  have sb := tc_sub
  have isT : (⟨h, g, d, t, os⟩ : Shared).TypeIs (.ref C) "type" := ⟨_, hC, rfl⟩
  simp only [checkBuiltinCall, tc_kind, tc_split]
  repeat (any_goals (first | assumption | with_reducible refine wpAny_loadPart_at hC ?_ | with_reducible refine wpAny_onRaise ?_ | with_reducible refine wpAny_map ?_ | wp_step))
  all_goals first | exact fin | exact wpAny_pure fin
/-- .. the class called -/
theorem kwType (F : ExcBaseFacts B newId initId bmB) (like : ∀ X : String, bm.contains (.type X) = bmB.contains (.type X)) {f : Str} {v : Value} {fI : Addr} {Q : Fin → Shared → Prop}
    (hC : h.get? C = some (excClassObj nm q C N bs bm hdct sn sub ab col dd k0 k1 k2 k3 k5 newId))
    (hi : PySem.W.Looks (model prog w) h (typeLookup (.ref C) "__init__") (some (.ref fI))) (hb : ∀ self, PySem.W.Looks (model prog w) h (bindSpecial (.ref fI) self) (.ref fI, [self]))
    (fin : codeAny (model prog w) A (.call (.ref fI) ⟨[.ref (h.objs.size + 1)], [(f, v)]⟩)
      (fun r s' => match r with | .ok (.ret x) => x = .none ∧ Q (.done (.ret (.ref (h.objs.size + 1)))) s' | .ok _ => False | .error e => E e s')
      ⟨(h.push (PySem.W.kdv_tup [])).push (excO C h.objs.size), g, d, t, os⟩) :
    wpAny (model prog w) A (Builtin.«type.__call__» ⟨[.ref C], [(f, v)]⟩) Q E ⟨h, g, d, t, os⟩ := by
  repeat (first | with_reducible refine wpAny_loadPart_at hC ?_ | with_reducible refine wpAny_madeBy_exc hC ?_ | wp_step)
  refine codeAny_call_builtin_code (Code.quiet_builtin _ F.quiet) (kwNew_check F like hC ?_)
  refine kwNew F like hC ?_
  show wpAny _ _ _ _ _ _
  have old : ∀ b o, h.get? b = some o → ((h.push (PySem.W.kdv_tup [])).push (excO C h.objs.size)).get? b = some o := fun b o e => Heap.get?_push_of_some _ (Heap.get?_push_of_some _ e)
  have hC' := old _ _ hC
  have mine : ((h.push (PySem.W.kdv_tup [])).push (excO C h.objs.size)).get? (h.objs.size + 1) = some (excO C h.objs.size) := by heap_get
  have itself : (Value.ref C :: bm).contains (.ref C) = true := by simp
  have i1 := hi.keeps old
  have b1 := (hb (.ref (h.objs.size + 1))).keeps old
  unfold isInstance
  repeat (first | with_reducible refine wpAny_loadPart_at mine ?_ | (with_reducible refine wpAny_isSubtype_exc hC' ?_; rw [itself]) | wp_step)
  show wpAny _ _ (typeLookup (.ref C) _) _ _ _
  refine i1.at ?_
  refine wpAny_holding (wpAny_bind (b1.at ?_))
  refine wpAny_bind (wpAny_call (codeAny_mono fin fun r s' z => ?_))
  rcases r with e | (x | _ | _ | _) <;> first | exact z | exact z.elim | skip
  obtain ⟨rfl, z⟩ := z
  first
    | exact wpAny_pure (wpAny_pure z)
    | (wp_walk; exact z)
theorem kwCall (F : ExcBaseFacts B newId initId bmB) (like : ∀ X : String, bm.contains (.type X) = bmB.contains (.type X)) {f : Str} {v : Value} {fI : Addr}
    (hC : h.get? C = some (excClassObj nm q C N bs bm hdct sn sub ab col dd k0 k1 k2 k3 k5 newId))
    (hi : PySem.W.Looks (model prog w) h (typeLookup (.ref C) "__init__") (some (.ref fI))) (hb : ∀ self, PySem.W.Looks (model prog w) h (bindSpecial (.ref fI) self) (.ref fI, [self]))
    (fin : codeAny (model prog w) (A.under (.builtin "type.__call__" ⟨[.ref C], [(f, v)]⟩)) (.call (.ref fI) ⟨[.ref (h.objs.size + 1)], [(f, v)]⟩) (PySem.W.InitBack (h.objs.size + 1) R)
      ⟨(h.push (PySem.W.kdv_tup [])).push (excO C h.objs.size), g, d, t, os⟩) :
    codeAny (model prog w) A (.call (.ref C) ⟨[], [(f, v)]⟩) R ⟨h, g, d, t, os⟩ := by
  have f1 := tc_lookup
  have f2 := tc_bind (.ref C)
  have isT : (⟨h, g, d, t, os⟩ : Shared).TypeIs (.ref C) "type" := ⟨_, hC, rfl⟩
  refine codeAny_of_tree ?_
  show wpAny _ _ (callAny (.ref C) _) _ _ _
  repeat (any_goals (first | assumption | with_reducible refine wpAny_loadPart_at hC ?_ | wp_step))
  refine ⟨rfl, ?_⟩
  refine codeAny_call_builtin_at (Code.quiet_builtin _ (by decide +kernel)) entry_typeCall (kwTypeCheck hC (kwType F like hC hi hb ?_))
  refine codeAny_mono fin fun r s' z => ?_
  rcases r with e | (x | _ | _ | _) <;> exact z
end
end Ob
namespace Ob
open PySem PySem.Spec PyProof.Rows L2
/-! ### own errors as values: made, asked, their value read -/
def erX (d : Addr) (v : V) : HO := exd d [(("value" : Str), v)]
/-- an error of the class at C stands at a, its dict at d, its value is v -/
def ErAt (H : Hp) (a C d : Addr) (v : V) : Prop := H a = some (exo a C (some d)) ∧ H d = some (erX d v)
theorem ErAt.keep {H H' : Hp} {a C d : Addr} {v : V} (h : ErAt H a C d v) (s : Same H H') : ErAt H' a C d v := ⟨s _ _ h.1, s _ _ h.2⟩
/-- C(e), C(value=e) -/
def tMkV (C : Addr) (te : TE) : TE := fun σ H Q => te σ H fun v H1 => ∀ a d H2, H1 a = none → H1 d = none → d ≠ a → Same H1 H2 → ErAt H2 a C d v → Q (.ref a) H2
theorem er_laid {H1 : Hp} {a C d : Addr} {v : V} (ha : H1 a = none) (hd : H1 d = none) (ne : d ≠ a) : Same H1 (upd (upd (upd H1 a (exo a C none)) d (erX d v)) a (exo a C (some d))) ∧ ErAt (upd (upd (upd H1 a (exo a C none)) d (erX d v)) a (exo a C (some d))) a C d v := by
  refine ⟨fun b o q => ?_, upd_same, by rw [upd_ne ne]; exact upd_same⟩
  rw [upd_ne (ne_of_none q ha), upd_ne (ne_of_none q hd), upd_ne (ne_of_none q ha)]
  exact q
section
variable {X : Cx} {nm qual : Str} {C fI : Addr} {fd : FuncData} {st : Stmt} {e : Expr} {te : TE} {p pos : Pos}
theorem mk_back {pins : List (Addr × Obj)} {σ : L2.St} {H1 : Hp} {a : Addr} {Q : VK} {J2s : Shared} (J2 : Inv X pins σ (upd H1 a (exo a C none)) J2s) (r : Result) (s2 : Shared)
    (hq : CR (L2.CX X.prog X.w) X.stack X.prog X.w (upd H1 a (exo a C none)) J2s (fun w' H2 => w' = .non ∧ Q (.ref a) H2) (fun _ _ _ => False) r s2) : PySem.W.InitBack a (wants (EP X pins σ Q) X.xe) r s2 := by
  match r, hq with
  | .error er, hq => exact (passL (X := X) pins σ _ _ er s2 J2 hq)
  | .ok (.ret u), hq =>
    obtain ⟨w', H2, J3, rv, ev, q⟩ := J2.after hq
    subst ev
    exact ⟨rv, ⟨V.ref a, H2, J3, rfl, q⟩⟩
  | .ok .next, hq => exact False.elim hq
  | .ok .brk, hq => exact False.elim hq
  | .ok .cont, hq => exact False.elim hq
/-- one value, then what is wanted of an error with it -/
def mkQ (C : Addr) (Q : VK) : List V → Hp → Prop := fun vs H1 => match vs with
  | [v] => ∀ a d H2, H1 a = none → H1 d = none → d ≠ a → Same H1 H2 → ErAt H2 a C d v → Q (.ref a) H2
  | _ => False
/-- the own __init__ runs on a fresh error -/
theorem er_run {pins : List (Addr × Obj)} {σ : L2.St} {H1 : Hp} {hp : Heap} {g : Array GenState} {dr : Drawn} {tk : Nat} {os : OsState} (T : ErrK X.K X.mg nm C fI fd qual st) (hr : Room 2 X.A) (J : Inv X pins σ H1 ⟨hp, g, dr, tk, os⟩)
    (v : V) (Q : VK) (q : ∀ a d H2, H1 a = none → H1 d = none → d ≠ a → Same H1 H2 → ErAt H2 a C d v → Q (.ref a) H2) {kw : List (Str × Value)} {us bs : List Value} (rb : Vals [v] bs)
    (bd : ∀ s2 : Shared, X.K.In s2.heap → BindsTo s2 fd ⟨Value.ref (hp.objs.size + 1) :: us, kw⟩ ((["self", "value"] : List Str).zip (Value.ref (hp.objs.size + 1) :: bs))) (ts : List Value) :
    Inv X pins σ (upd H1 (hp.objs.size + 1) (exo (hp.objs.size + 1) C none)) ⟨(hp.push (PySem.W.kdv_tup ts)).push (PySem.HandSPX.excO C hp.objs.size), g, dr, tk, os⟩ ∧
    ∀ A', A' = X.A.under (.builtin "type.__call__" ⟨.ref C :: us, kw⟩) → codeAny (model X.prog X.w) A' (.call (.ref fI) ⟨.ref (hp.objs.size + 1) :: us, kw⟩) (PySem.W.InitBack (hp.objs.size + 1) (wants (EP X pins σ Q) X.xe))
      ⟨(hp.push (PySem.W.kdv_tup ts)).push (PySem.HandSPX.excO C hp.objs.size), g, dr, tk, os⟩ := by
  have above : hp.objs.size ≤ hp.objs.size + 1 := Nat.le_succ _
  have na : H1 (hp.objs.size + 1) = none := J.hok.fresh above
  have old : ∀ b o, hp.get? b = some o → ((hp.push (PySem.W.kdv_tup ts)).push (PySem.HandSPX.excO C hp.objs.size)).get? b = some o := fun b o e => Heap.get?_push_of_some _ (Heap.get?_push_of_some _ e)
  have mine : ((hp.push (PySem.W.kdv_tup ts)).push (PySem.HandSPX.excO C hp.objs.size)).get? (hp.objs.size + 1) = some (PySem.HandSPX.excO C hp.objs.size) := by heap_get
  have J2 : Inv X pins σ (upd H1 (hp.objs.size + 1) (exo (hp.objs.size + 1) C none)) ⟨(hp.push (PySem.W.kdv_tup ts)).push (PySem.HandSPX.excO C hp.objs.size), g, dr, tk, os⟩ :=
    J.laid (t' := tk) (a := hp.objs.size + 1) (o := exo (hp.objs.size + 1) C none) (h' := (hp.push (PySem.W.kdv_tup ts)).push (PySem.HandSPX.excO C hp.objs.size)) old above (exo_ok mine)
  refine ⟨J2, ?_⟩
  rintro A' rfl
  have rb2 : Vals (V.ref (hp.objs.size + 1) :: [v]) (Value.ref (hp.objs.size + 1) :: bs) := .cons rfl rb
  refine codeAny_mono ((ok_err T).run _ X.stack _ _ ⟨Value.ref (hp.objs.size + 1) :: us, kw⟩ (Value.ref (hp.objs.size + 1) :: bs) _ (fun w' H2 => w' = .non ∧ Q (.ref (hp.objs.size + 1)) H2) (fun _ _ _ => False) (hr.make C us kw) (J2.env0.make C us kw) (bd _ J2.kIn) rb2 ?_) fun r s2 hq => mk_back J2 r s2 hq
  refine ⟨hp.objs.size + 1, C, v, rfl, T.ox, T.nv, upd_same, fun d h1 h2 => ⟨rfl, ?_⟩⟩
  have h1' : H1 d = none := by rw [upd_ne h2] at h1; exact h1
  obtain ⟨sm, er⟩ := er_laid (C := C) (v := v) na h1' h2
  exact q _ d _ na h1' h2 sm er
theorem pe_mkV (T : ErrK X.K X.mg nm C fI fd qual st) (hr : Room 2 X.A) (hg : Gl X nm) (he : PE X e te) (hdb : (nm == ("__debug__" : Str)) = false := by decide)
    (sE : starEach [e] X.env = (false, eval e X.env) :: starEach [] X.env := by rfl) (hpl : (backTo pos (starEach [] X.env)).any (·.1) = false := by rfl) : PE X (.Call (.Name nm p) [e] [] pos) (tMkV C te) := by
  refine ⟨fun pins s σ H Q I h => ?_⟩
  obtain ⟨nm', q', N, bs, bm, sn, sub, ab, col, dd, k0, k1, k2, k3, k5, hC, hbm⟩ := T.ox.cls
  refine wpAny_Call_Name_kw (ld_glob I hg T.gl ?_ hdb)
  refine PySem.W.callWith_K (h₀ := X.base) I.ok.mod.kin T.ox.kC (thn ((pa_cons he pa_nil sE).run pos pins s σ H (mkQ C Q) I h) ?_) sE hpl
  rintro us s1 ⟨vs, H1, J, rv, q⟩
  refine ⟨J.kIn, ?_⟩
  obtain ⟨v, rfl⟩ : ∃ v, vs = [v] := by
    match vs, q with
    | [v], _ => exact ⟨v, rfl⟩
    | [], q => exact False.elim q
    | _ :: _ :: _, q => exact False.elim q
  have q' : ∀ a d H2, H1 a = none → H1 d = none → d ≠ a → Same H1 H2 → ErAt H2 a C d v → Q (.ref a) H2 := q
  obtain ⟨u, rfl, ru⟩ : ∃ u, us = [u] ∧ RelV v u := by
    cases rv with
    | cons a b => cases b; exact ⟨_, rfl, a⟩
  show wpAny _ _ (call (.ref C) [u]) _ _ _
  obtain ⟨hp, g, dr, tk, os⟩ := s1
  obtain ⟨J2, fin⟩ := er_run T hr J v Q q' (kw := []) (us := [u]) (.cons ru .nil) (fun s2 i2 => (by
    have b := T.bd s2 [.ref (hp.objs.size + 1), u] i2 rfl
    exact b)) [u]
  exact wpAny_call (PySem.HandSPX.call_own PySem.F.excBase_ValueError (fun Y => PySem.HandSPX.refsVE_contains Y bm hbm) (J.kIn _ _ hC) (PySem.W.looks_findIn J.kIn T.iC) (fun self => PySem.W.bind_fn J.kIn self T.tI) (by rw [sizeLine_eq]; show 1 ≤ 16777216; decide) (fin _ rfl))
theorem pe_mkVK {kn : Str} {kpos : Pos} (T : ErrK X.K X.mg nm C fI fd qual st) (kb : ∀ (s2 : Shared) (a u : Value), X.K.In s2.heap → BindsTo s2 fd ⟨[a], [(kn, u)]⟩ [("self", a), ("value", u)]) (hr : Room 2 X.A) (hg : Gl X nm) (he : PE X e te) (hdb : (nm == ("__debug__" : Str)) = false := by decide)
    (hall : (backToKw pos (keywordEach [⟨some kn, e, kpos⟩] X.env)).all (·.1.isSome) = true := by rfl) (hks : (backToKw pos (keywordEach [⟨some kn, e, kpos⟩] X.env)).filterMap (·.1) = [kn] := by rfl)
    (hpl : ((backTo pos (starEach [] X.env)).any (·.1) || (backToKw pos (keywordEach [⟨some kn, e, kpos⟩] X.env)).any (·.1.isNone)) = false := by rfl) :
    PE X (.Call (.Name nm p) [] [⟨some kn, e, kpos⟩] pos) (tMkV C te) := by
  refine ⟨fun pins s σ H Q I h => ?_⟩
  obtain ⟨nm', q', N, bs, bm, sn, sub, ab, col, dd, k0, k1, k2, k3, k5, hC, hbm⟩ := T.ox.cls
  refine wpAny_Call_Name_kw (ld_glob I hg T.gl ?_ hdb)
  refine PySem.W.callWith_KW0 (h₀ := X.base) I.ok.mod.kin T.ox.kC hall (thn ((pk_cons he pk_nil).run pos pins s σ H (mkQ C Q) I h) ?_) hpl
  rintro us s1 ⟨vs, H1, J, rv, q⟩
  refine ⟨J.kIn, ?_⟩
  obtain ⟨v, rfl⟩ : ∃ v, vs = [v] := by
    match vs, q with
    | [v], _ => exact ⟨v, rfl⟩
    | [], q => exact False.elim q
    | _ :: _ :: _, q => exact False.elim q
  have q' : ∀ a d H2, H1 a = none → H1 d = none → d ≠ a → Same H1 H2 → ErAt H2 a C d v → Q (.ref a) H2 := q
  obtain ⟨u, rfl, ru⟩ : ∃ u, us = [u] ∧ RelV v u := by
    cases rv with
    | cons a b => cases b; exact ⟨_, rfl, a⟩
  rw [hks]
  show wpAny _ _ (call (.ref C) [] [(kn, u)]) _ _ _
  obtain ⟨hp, g, dr, tk, os⟩ := s1
  obtain ⟨J2, fin⟩ := er_run T hr J v Q q' (kw := [(kn, u)]) (us := []) (bs := [u]) (.cons ru .nil) (fun s2 i2 => kb s2 _ u i2) []
  exact wpAny_call (kwCall PySem.F.excBase_ValueError (fun Y => PySem.HandSPX.refsVE_contains Y bm hbm) (J.kIn _ _ hC) (PySem.W.looks_findIn J.kIn T.iC) (fun self => PySem.W.bind_fn J.kIn self T.tI) (fin _ rfl))
end
end Ob
set_option Elab.async false
set_option linter.all false
set_option maxRecDepth 100000
set_option maxHeartbeats 4000000
namespace Ob
open PySem PySem.Spec PyProof.Rows L2
/-! ### a kept error: its class asked, its value read -/
structure ErI (K : PySem.W.Frag) (C : Addr) : Prop where
  cl : (PySem.W.clsIn K C).isSome = true
  ga : PySem.W.findIn K (.ref C) "__getattribute__" = some (some (.builtin "BaseException.__getattribute__"))
  gg : PySem.W.findIn K (.ref C) "__getattr__" = some none
  ex : PySem.W.subIn K (.ref C) (.type "BaseException") = some true
  ca : PySem.W.findIn K (.ref C) "__class__" = some (some (.builtin "object.__class__"))
  cn : PySem.W.specialIn K (.builtin "object.__class__") "__get__" = some (some (.builtin "getset_descriptor.__get__"))
  ct : PySem.W.takesIn K (.builtin "object.__class__") = some true
  co : PySem.W.mroIn K C (.type "object") = some true
  hd : PySem.W.hasDictIn K C = true
  nv : PySem.W.findIn K (.ref C) "value" = some none
section
variable {X : Cx} {pins : List (Addr × Obj)} {σ : L2.St} {H : Hp} {s : Shared}
theorem er_inst {a C d : Addr} {v : V} (I : Inv X pins σ H s) (e : ErAt H a C d v) : ∃ (oe : Obj) (od : Obj) (u : Value), PySem.W.InstAt s.heap a oe C (some od) ∧ PySem.W.lookIn "value" od = some (some u) ∧ RelV v u := by
  obtain ⟨ea, ed⟩ := e
  obtain ⟨t1, ho⟩ := exo_at I.hok ea
  obtain ⟨mA, hns, hr⟩ := exd_at I.hok ed
  obtain ⟨od, hod, hl⟩ := lookIn_ns hns
  obtain ⟨u, hu, ru⟩ := RelO.some_of (v := v) (o := mA "value") (hr "value")
  exact ⟨_, od, u, ⟨ho, rfl, rfl, hod⟩, by rw [hl, hu], ru⟩
def rIsX (K : PySem.W.Frag) : List V → Hp → VK → Prop := fun xs H Q => ∃ (a C d : Addr) (v c : V) (u : Value) (b : Bool), xs = [.ref a, c] ∧ ClsV c u ∧ ErAt H a C d v ∧ ErI K C ∧ PySem.W.kitOne K (.ref C) u = some b ∧ Q (.bl b) H
theorem call_isX : CallR X (.builtin "isinstance") (rIsX X.K) := by
  intro pins s σ H xs us Q I r h
  obtain ⟨a, C, d, v, c, u, b, rfl, k, ea, T, e, q⟩ := h
  obtain ⟨u1, u2, rfl, r1, r2⟩ := vals2 r
  have e2 := k.eq r2
  subst e2
  cases (show u1 = Value.ref a from r1)
  obtain ⟨oe, od, _, J, _, _⟩ := er_inst I ea
  exact PySem.W.kia_one (PySem.W.kitx_exc T.cl T.ga T.gg T.ex T.ca T.cn T.ct T.co) I.kIn J e (fun z => nomatch z) fun tk => ⟨.bl b, H, I.tok tk, rfl, q⟩
def tXv (K : PySem.W.Frag) (te : TE) : TE := fun σ H Q => te σ H fun x H1 => ∃ (a C d : Addr) (v : V), x = .ref a ∧ ErAt H1 a C d v ∧ ErI K C ∧ Q v H1
theorem pe_xv {e : Expr} {te : TE} {pos : Pos} (he : PE X e te) (hb : attributeBase e "value" X.env (eval e X.env) = eval e X.env := by rfl) : PE X (.Attribute e "value" pos) (tXv X.K te) := by
  refine ⟨fun pins s σ H Q I h => ?_⟩
  refine attr_of hb (thn (he.run pins s σ H _ I h) fun u s1 hh => ?_)
  obtain ⟨x, H1, I1, rx, a, C, d, v, ex, ea, T, q⟩ := hh
  subst ex
  obtain rfl : u = Value.ref a := rx
  obtain ⟨oe, od, u, J, l, ru⟩ := er_inst I1 ea
  exact HandSPX.exc_get I1.kIn J T.ga T.gg T.ex (PySem.W.findObj_own T.hd T.nv rfl l) (handed_of ru) ⟨v, H1, I1.tok _, ru, q⟩
end
/-! ### lists of data and of empty dicts: their repr -/
inductive Th (K : PySem.W.Frag) (H : Hp) : V → PyData → Prop
  | dp {v : V} {d : PyData} : Dp K H v d → Th K H v d
  | dc {a : Addr} : H a = some (.dK []) → Th K H (.ref a) (.dict [])
abbrev ThAll (K : PySem.W.Frag) (H : Hp) : List V → List PyData → Prop := Paired (Th K H)
section
variable {X : Cx} {pins : List (Addr × Obj)} {σ : L2.St} {H : Hp} {s : Shared}
theorem th_reads (I : Inv X pins σ H s) {v : V} {u : Value} {d : PyData} (h : Th X.K H v d) (r : RelV v u) : ∃ as, Reads s.heap u d as ∧ (d.hasDict = true → sysModules ∉ as) := by
  cases h with
  | dp h =>
    obtain ⟨as, q⟩ := Dp.reads I d v u h r
    exact ⟨as, q, fun z => by rw [noDict d h] at z; cases z⟩
  | @dc a e =>
    cases r
    obtain ⟨_, hd, vs, kv, o, es, ep, h1, h2, h3, _, h5, _⟩ := dk_of I.hok e
    cases kv
    have e0 : es.toList = [] := by cases es with | mk l => cases l with | nil => rfl | cons x l => cases h5
    refine ⟨_, .dict (kvs := []) h1 h2.1 h3 (by rw [e0]; exact .nil) (by rw [e0]; exact .nil), fun _ => ?_⟩
    intro m
    have m1 : sysModules = a := by simpa using m
    rw [← m1] at hd
    simp at hd
theorem thAll_reads (I : Inv X pins σ H s) : ∀ {vs : List V} {us : List Value} {ds : List PyData}, ThAll X.K H vs ds → Vals vs us → PyData.showableAll ds = true → (∀ t ∈ PyData.shownAll ds, t.length ≤ sizeLine) →
    ∃ as bs, ReadsAll s.heap us ds as ∧ ReadAtMost s.heap (PyData.depthAll ds) bs ∧ ReprAllK X.prog X.w bs s.heap (PyData.depthAll ds) us (PyData.shownAll ds)
  | _, _, _, .nil, .nil, _, _ => ⟨_, [], .nil, (fun _ h => nomatch h), by simp only [PyData.shownAll]; exact .nil⟩
  | _, _, d :: ds, .cons h hs, .cons r rs, sh, hz => by
    have hs' : d.showable = true ∧ PyData.showableAll ds = true := by simpa [PyData.showableAll] using sh
    obtain ⟨a1, r1, sm⟩ := th_reads I h r
    obtain ⟨b1, hb1, k1⟩ := ReprK.of_reads (prog := X.prog) (w := X.w) r1 hs'.1 sm (hz _ (by simp only [PyData.shownAll]; exact List.mem_cons_self ..))
    obtain ⟨a2, b2, r2, hb2, k2⟩ := thAll_reads I hs rs hs'.2 fun t ht => hz t (by simp only [PyData.shownAll]; exact List.mem_cons_of_mem _ ht)
    refine ⟨_, b1 ++ b2, .cons r1 r2, ?_, ?_⟩
    · simp only [PyData.depthAll]
      exact (hb1.mono (Nat.le_max_left _ _)).append (hb2.mono (Nat.le_max_right _ _))
    · simp only [PyData.shownAll, PyData.depthAll]
      exact .cons ((k1.more fun b hb => List.mem_append_left _ hb).level_le (Nat.le_max_left _ _)) (k2.more_le (fun b hb => List.mem_append_right _ hb) (Nat.le_max_right _ _))
def rReprT (K : PySem.W.Frag) : List V → Hp → VK → Prop := fun xs H Q => ∃ (l : Addr) (vs : List V) (ds : List PyData), xs = [.ref l] ∧ SqL K H l vs ∧ ThAll K H vs ds ∧ (PyData.list ds).showable = true ∧ (PyData.list ds).depth ≤ 50 ∧ (PyData.list ds).shown.length ≤ sizeLine ∧ Q (.str (PyData.list ds).shown) H
theorem call_reprT {k : Nat} (g : Gd k X.A) : CallR X (.builtin "repr") (rReprT X.K) := by
  intro pins s σ H xs us Q I r h
  obtain ⟨l, vs, ds, rfl, hl, ht, sh, dep, sz, q⟩ := h
  obtain ⟨u, rfl, ru⟩ : ∃ u, us = [u] ∧ RelV (.ref l) u := by
    cases r with
    | cons a b => cases b; exact ⟨_, rfl, a⟩
  cases ru
  have un := g.room.un
  obtain ⟨its, rv, ⟨o, n, h1, h2, _, h3⟩, _⟩ := I.list hl
  have hz' : (listText (PyData.shownAll ds)).length ≤ sizeLine := by simpa only [PyData.shown] using sz
  obtain ⟨as, bs, h4, hb, hk⟩ := thAll_reads I ht rv (by simpa [PyData.showable] using sh) fun t ht => Nat.le_trans (listText_mem_le ht) hz'
  have hR : Reads s.heap (.ref l) (.list ds) _ := .list h1 h2 h3 h4
  have hna : l ∉ bs := not_mem_of_deeper hR (by simp only [PyData.depth]; omega) hb
  have dp2 : PyData.depthAll ds + 1 ≤ 50 := by simp only [PyData.depth] at dep; omega
  refine call_repr_slot (T := "list") (idr := "list.__repr__") (by omega) ⟨o, h1, h2⟩ F.slot_list_repr.toG ?_
  have fin : ∀ h' u tk, (∀ b o, s.heap.get? b = some o → h'.get? b = some o) → EP X pins σ Q (.str (PyData.list ds).shown u) { s with heap := h', toks := tk } := fun h' u tk kp => ⟨.str _, H, I.kept (t' := tk) kp, ⟨_, rfl⟩, q⟩
  simp only [PyData.shown] at fin
  cases its with
  | nil =>
    cases rv
    cases ht
    simp only [PyData.shownAll, listText_nil] at fin
    exact call_list_repr_empty ⟨o, h1, h2⟩ h1 h3 ⟨_, _, rfl, fin s.heap _ _ fun _ _ e => e⟩
  | cons x its =>
    refine call_list_reprK h1 h2 h3 hna (by simpa using hk.length_eq) (fun i y e => hk.item i y (by simpa using e)) (A := X.A.in1) g.gs (fun b _ => Clear.nil b) (by show X.A.units + 1 + _ < cLine; omega) (fun _ _ e => e) (fun h' u tk kp => ⟨_, _, rfl, fin h' u tk kp⟩) hz'
end
end Ob
set_option Elab.async false
set_option linter.all false
set_option maxRecDepth 100000
set_option maxHeartbeats 4000000
namespace Ob
open PySem PySem.Spec PyProof.Rows L2
/-! ### things of many kinds, lists among them that are made longer behind -/
inductive Tr
  | nu (n : Int) | wd (w : Str) | no | yes | tp (a : Addr) (n : Int) (w : Str) | pr (a b : Addr) (n : Int) (w : Str) | em (a : Addr) | dc (a : Addr)
namespace Tr
def val : Tr → V
  | .nu n => .int n | .wd w => .str w | .no => .non | .yes => .bl true | .tp a _ _ => .ref a | .pr a _ _ _ => .ref a | .em a => .ref a | .dc a => .ref a
def own : Tr → List Addr
  | .tp a _ _ => [a] | .pr a b _ _ => [a, b] | .em a => [a] | .dc a => [a] | _ => []
def more (aft : Bool) (k : Int) : List Int := if aft then [k] else []
def dat (aft : Bool) : Tr → PyData
  | .nu n => .int n | .wd w => .str w | .no => .none | .yes => .bool true | .tp _ n w => .tuple [.int n, .str w]
  | .pr _ _ n w => .list (.int n :: .list [.str w] :: (more aft 2).map .int) | .em _ => .list ((more aft 0).map .int) | .dc _ => .dict []
end Tr
def okW (w : Str) : Prop := PyData.strOk w = true ∧ (w.cps.toList.all fun c => decide (c < 16 ^ 8)) = true ∧ w.cps.size ≤ 20
def TrAt (aft : Bool) (H : Hp) : Tr → Prop
  | .nu n => small n | .wd w => okW w | .no => True | .yes => True
  | .tp a n w => small n ∧ okW w ∧ H a = some (.tup [.int n, .str w])
  | .pr a b n w => small n ∧ okW w ∧ H a = some (.lst (.int n :: .ref b :: (Tr.more aft 2).map .int)) ∧ H b = some (.lst [.str w])
  | .em a => H a = some (.lst ((Tr.more aft 0).map .int))
  | .dc a => H a = some (.dK [])
theorem tr_own {aft : Bool} {H : Hp} {t : Tr} (h : TrAt aft H t) : ∀ b ∈ t.own, ∃ o, H b = some o := by
  intro b hb
  cases t with
  | nu n => cases hb
  | wd w => cases hb
  | no => cases hb
  | yes => cases hb
  | tp a n w => rw [List.mem_singleton.mp hb]; exact ⟨_, h.2.2⟩
  | pr a c n w =>
    rcases List.mem_cons.mp hb with e | hb
    · rw [e]; exact ⟨_, h.2.2.1⟩
    · rw [List.mem_singleton.mp hb]; exact ⟨_, h.2.2.2⟩
  | em a => rw [List.mem_singleton.mp hb]; exact ⟨_, h⟩
  | dc a => rw [List.mem_singleton.mp hb]; exact ⟨_, h⟩
theorem tr_keep {aft : Bool} {H H' : Hp} {t : Tr} (h : TrAt aft H t) (k : ∀ b ∈ t.own, ∀ o, H b = some o → H' b = some o) : TrAt aft H' t := by
  cases t with
  | nu n => exact h
  | wd w => exact h
  | no => trivial
  | yes => trivial
  | tp a n w => exact ⟨h.1, h.2.1, k a (List.mem_cons_self ..) _ h.2.2⟩
  | pr a c n w => exact ⟨h.1, h.2.1, k a (List.mem_cons_self ..) _ h.2.2.1, k c (List.mem_cons_of_mem _ (List.mem_cons_self ..)) _ h.2.2.2⟩
  | em a => exact k a (List.mem_cons_self ..) _ h
  | dc a => exact k a (List.mem_cons_self ..) _ h
section
variable {K : PySem.W.Frag}
theorem tr_th {aft : Bool} {H : Hp} {t : Tr} (h : TrAt aft H t) : Th K H t.val (t.dat aft) := by
  cases t with
  | nu n => exact .dp (.int n)
  | wd w => exact .dp (.str w)
  | no => exact .dp .non
  | yes => exact .dp (.bl true)
  | tp a n w => exact .dp (.tup (SqT.of h.2.2) (.cons (.int n) (.cons (.str w) .nil)))
  | pr a c n w => exact .dp (.lst (SqL.of h.2.2.1) (.cons (.int n) (.cons (.lst (SqL.of h.2.2.2) (.cons (.str w) .nil)) (dpAll_ints _))))
  | em a => exact .dp (.lst (SqL.of h) (dpAll_ints _))
  | dc a => exact .dc h
end
structure Ok3 (d : PyData) : Prop where
  sh : d.showable = true
  lv : d.leavesShort 151 = true
  we : d.weight ≤ 1000
  dp : d.depth ≤ 5
theorem ok3_tame {d : PyData} (h : tame d) (w : d.weight ≤ 1000) (p : d.depth ≤ 5) : Ok3 d := ⟨(tame_ok d h).1, (tame_ok d h).2, w, p⟩
theorem more_small (aft : Bool) (k : Int) (h : small k) : (∀ n ∈ Tr.more aft k, small n) ∧ (Tr.more aft k).length ≤ 1 := by
  unfold Tr.more
  cases aft with
  | true => exact ⟨fun n hn => by
      have e : n = k := by simpa using hn
      rw [e]
      exact h, Nat.le_refl _⟩
  | false => exact ⟨fun n hn => by simp at hn, Nat.zero_le _⟩
theorem tr_ok {aft : Bool} {H : Hp} {t : Tr} (h : TrAt aft H t) : Ok3 (t.dat aft) := by
  have s0 : small 0 := by unfold small; decide
  have s2 : small 2 := by unfold small; decide
  cases t with
  | nu n => exact ok3_tame (by have h' : small n := h; simp only [Tr.dat, tame]; exact h') (Nat.le_trans (weight_int (show small n from h)) (by decide)) (by simp only [Tr.dat, PyData.depth]; omega)
  | wd w => exact ok3_tame (by simp only [Tr.dat, tame]; exact ⟨h.1, h.2.1⟩) (by have := h.2.2; simp only [Tr.dat, PyData.weight]; omega) (by simp only [Tr.dat, PyData.depth]; omega)
  | no => exact ok3_tame (by simp only [Tr.dat, tame]) (by simp only [Tr.dat, PyData.weight]; omega) (by simp only [Tr.dat, PyData.depth]; omega)
  | yes => exact ok3_tame (by simp only [Tr.dat, tame]) (by simp only [Tr.dat, PyData.weight]; omega) (by simp only [Tr.dat, PyData.depth]; omega)
  | tp a n w =>
    obtain ⟨h1, h2, _⟩ := h
    refine ok3_tame ?_ ?_ ?_
    · simp only [Tr.dat, tame, tameAll, and_true]
      exact ⟨h1, h2.1, h2.2.1⟩
    · have a1 := weight_int h1
      have a2 := h2.2.2
      simp only [Tr.dat, PyData.weight, PyData.weightAll] at a1 ⊢
      omega
    · simp only [Tr.dat, PyData.depth, PyData.depthAll]; omega
  | pr a c n w =>
    obtain ⟨h1, h2, _⟩ := h
    obtain ⟨m1, m2⟩ := more_small aft 2 s2
    refine ok3_tame ?_ ?_ ?_
    · simp only [Tr.dat, tame, tameAll, and_true]
      exact ⟨h1, ⟨h2.1, h2.2.1⟩, tame_ints _ m1⟩
    · have a1 := weight_int h1
      have a2 := h2.2.2
      have a3 := weight_ints _ m1
      simp only [Tr.dat, PyData.weight, PyData.weightAll] at a1 ⊢
      omega
    · have a1 := depth_ints (Tr.more aft 2)
      simp only [Tr.dat, PyData.depth, PyData.depthAll] at a1 ⊢
      omega
  | em a =>
    obtain ⟨m1, m2⟩ := more_small aft 0 s0
    refine ok3_tame ?_ ?_ ?_
    · simp only [Tr.dat, tame]
      exact tame_ints _ m1
    · have a3 := weight_ints _ m1
      simp only [Tr.dat, PyData.weight]
      omega
    · have a1 := depth_ints (Tr.more aft 0)
      simp only [Tr.dat, PyData.depth]
      omega
  | dc a => exact ⟨by simp [Tr.dat, PyData.showable, PyData.showableKv], by simp [Tr.dat, PyData.leavesShort, PyData.leavesShortKv], by simp [Tr.dat, PyData.weight, PyData.weightKv], by simp [Tr.dat, PyData.depth, PyData.depthKv]⟩
theorem ok3_list {ds : List PyData} (h : ∀ d ∈ ds, Ok3 d) (n : ds.length ≤ 20) : (PyData.list ds).showable = true ∧ (PyData.list ds).depth ≤ 50 ∧ (PyData.list ds).shown.length ≤ sizeLine := by
  have main : ∀ ds : List PyData, (∀ d ∈ ds, Ok3 d) → PyData.showableAll ds = true ∧ PyData.leavesShortAll 151 ds = true ∧ PyData.weightAll ds ≤ 1001 * ds.length ∧ PyData.depthAll ds ≤ 5 := by
    intro ds
    induction ds with
    | nil => intro _; simp [PyData.showableAll, PyData.leavesShortAll, PyData.weightAll, PyData.depthAll]
    | cons d ds ih =>
      intro h
      obtain ⟨a1, a2, a3, a4⟩ := ih fun x hx => h x (List.mem_cons_of_mem _ hx)
      obtain ⟨b1, b2, b3, b4⟩ := h d (List.mem_cons_self ..)
      refine ⟨by simp [PyData.showableAll, a1, b1], by simp [PyData.leavesShortAll, a2, b2], ?_, ?_⟩
      · simp only [PyData.weightAll, List.length_cons]; omega
      · simp only [PyData.depthAll]; omega
  obtain ⟨a1, a2, a3, a4⟩ := main ds h
  refine ⟨by simpa only [PyData.showable] using a1, by simp only [PyData.depth]; omega, ?_⟩
  have := PyData.shown_le 151 (by decide) (.list ds) (by simpa only [PyData.leavesShort] using a2)
  rw [sizeLine_eq]
  simp only [PyData.weight] at this
  omega
/-- a list thing's address, how long it is -/
def Tr.lst : Tr → Option (Addr × Int)
  | .pr a _ _ _ => some (a, 2) | .em a => some (a, 0) | _ => none
def Tr.seq (aft : Bool) : Tr → List V
  | .pr _ b n _ => .int n :: .ref b :: (Tr.more aft 2).map .int | .em _ => (Tr.more aft 0).map .int | _ => []
theorem tr_lst {aft : Bool} {H : Hp} {t : Tr} {a : Addr} {k : Int} (h : TrAt aft H t) (e : t.lst = some (a, k)) : t.val = .ref a ∧ a ∈ t.own ∧ H a = some (.lst (t.seq aft)) ∧ t.seq true = t.seq false ++ [.int k] ∧ ((t.seq false).length : Int) = k ∧ k ≤ 2 := by
  cases t with
  | nu n => cases e
  | wd w => cases e
  | no => cases e
  | yes => cases e
  | tp a n w => cases e
  | dc a => cases e
  | em b => cases e; exact ⟨rfl, List.mem_cons_self .., h, rfl, rfl, by decide⟩
  | pr b c n w => cases e; exact ⟨rfl, List.mem_cons_self .., h.2.2.1, rfl, rfl, by decide⟩
theorem tr_longer {H : Hp} {t : Tr} {a : Addr} {k : Int} (h : TrAt false H t) (e : t.lst = some (a, k)) : TrAt true (upd H a (.lst (t.seq true))) t := by
  cases t with
  | nu n => cases e
  | wd w => cases e
  | no => cases e
  | yes => cases e
  | tp a n w => cases e
  | dc a => cases e
  | em b => cases e; exact upd_same
  | pr b c n w =>
    cases e
    have ne : c ≠ a := fun z => by
      have h1 := h.2.2.1
      rw [← z, h.2.2.2] at h1
      cases h1
    exact ⟨h.1, h.2.1, upd_same, by rw [upd_ne ne]; exact h.2.2.2⟩
theorem tr_same {H : Hp} {t : Tr} (h : TrAt false H t) (e : t.lst = none) : TrAt true H t := by
  cases t with
  | em b => cases e
  | pr b c n w => cases e
  | nu n => exact h
  | wd w => exact h
  | no => trivial
  | yes => trivial
  | tp a n w => exact h
  | dc a => exact h
section
variable {K : PySem.W.Frag}
/-- isinstance(thing, list) -/
theorem tr_isl {aft : Bool} {H : Hp} {t : Tr} (h : TrAt aft H t) : ∃ ty, TyX K H t.val ty ∧ PySem.W.kitOne K ty (.type "list") = some t.lst.isSome := by
  cases t with
  | nu n => exact ⟨_, .base (.int n), kit_ty (show kitB "int" "list" = some false by decide +kernel)⟩
  | wd w => exact ⟨_, .base (.str w), kit_ty (show kitB "str" "list" = some false by decide +kernel)⟩
  | no => exact ⟨_, .base .non, kit_ty (show kitB "NoneType" "list" = some false by decide +kernel)⟩
  | yes => exact ⟨_, .base (.bl true), kit_ty (show kitB "bool" "list" = some false by decide +kernel)⟩
  | tp a n w => exact ⟨_, .base (.tup h.2.2), kit_ty (show kitB "tuple" "list" = some false by decide +kernel)⟩
  | pr a c n w => exact ⟨_, .base (.lst h.2.2.1), kit_ty (show kitB "list" "list" = some true by decide +kernel)⟩
  | em a => exact ⟨_, .base (.lst h), kit_ty (show kitB "list" "list" = some true by decide +kernel)⟩
  | dc a => exact ⟨_, .base (.dK h), kit_ty (show kitB "dict" "list" = some false by decide +kernel)⟩
end
/-- a drawn thing -/
def spThing : Sp := fun vs H Q _ => ∃ (p : Addr) (o : HO) (n : Int), vs = [.ref p] ∧ H p = some o ∧ Pu n o ∧ n ≤ 10 ^ 11 ∧
  ∀ (t : Tr) (H' : Hp) (u : HO), H' p = some u → Pu (n + 3) u → But p H H' → TrAt false H' t → (∀ b ∈ t.own, H b = none) → Q t.val H'
/-- a row's numbers in a drawn order -/
def spStirred (K : PySem.W.Frag) : Sp := fun vs H Q _ => ∃ (p l : Addr) (o : HO) (n : Int) (ns : List Int), vs = [.ref p, .ref l] ∧ H p = some o ∧ Pu n o ∧ n ≤ 10 ^ 11 ∧ SqL K H l (ns.map V.int) ∧ ns.length ≤ 60 ∧
  ∀ (f : Addr) (ms : List Int) (H' : Hp) (u : HO), H f = none → H' f = some (.lst (ms.map V.int)) → ms.length = ns.length → (∀ m ∈ ms, m ∈ ns) → H' p = some u → Pu (n + ns.length) u → But p H H' → Q (.ref f) H'
theorem mem_erase {α : Type} {l : List α} {k : Nat} {x : α} (h : x ∈ l.eraseIdx k) : x ∈ l := List.mem_of_mem_eraseIdx h
theorem eqv_nil {ns : List Int} : PyData.eqv (.list (ns.map .int)) (.list []) = decide (ns.length = 0) := by
  cases ns with
  | nil => simp [PyData.eqv, PyData.eqvAll]
  | cons n ns => simp [PyData.eqv, PyData.eqvAll]
theorem shaped_ints (ns : List Int) : SeqAt.shaped (.list (ns.map PyData.int)) = true := by
  have main : ∀ ns : List Int, PyData.canLayAll0 (ns.map PyData.int) = true := by
    intro ns
    induction ns with
    | nil => simp [PyData.canLayAll0]
    | cons n ns ih => simp only [List.map_cons, PyData.canLayAll0, PyData.canLay0, ih, Bool.and_self]
  refine shaped_of ?_ ?_
  · simp only [PyData.canLay0]; exact main ns
  · have := depth_ints ns
    simp only [PyData.depth]
    omega
theorem shaped_bls (bs : List Bool) : SeqAt.shaped (.list (bs.map PyData.bool)) = true := by
  have m1 : ∀ bs : List Bool, PyData.canLayAll0 (bs.map PyData.bool) = true := by
    intro bs
    induction bs with
    | nil => simp [PyData.canLayAll0]
    | cons n ns ih => simp only [List.map_cons, PyData.canLayAll0, PyData.canLay0, ih, Bool.and_self]
  have m2 : ∀ bs : List Bool, PyData.depthAll (bs.map PyData.bool) ≤ 1 := by
    intro bs
    induction bs with
    | nil => simp [PyData.depthAll]
    | cons n ns ih => simp only [List.map_cons, PyData.depthAll, PyData.depth]; omega
  refine shaped_of ?_ ?_
  · simp only [PyData.canLay0]; exact m1 bs
  · have := m2 bs
    simp only [PyData.depth]
    omega
theorem tame_bls (bs : List Bool) : tame (.list (bs.map PyData.bool)) := by
  simp only [tame]
  induction bs with
  | nil => simp only [List.map_nil, tameAll]
  | cons n ns ih => simp only [List.map_cons, tameAll, tame, true_and]; exact ih
theorem dpAll_bls {K : PySem.W.Frag} {H : Hp} : ∀ bs : List Bool, DpAll K H (bs.map V.bl) (bs.map PyData.bool)
  | [] => .nil
  | b :: bs => .cons (.bl b) (dpAll_bls bs)
/-- the word's first signs -/
theorem okW_cut (k : Int) (h0 : 0 ≤ k) (h : k < 12) : okW (cutS "asking-10.x" none (some k)) := by
  have main : ∀ k : Fin 12, okW (cutS "asking-10.x" none (some ((k : Nat) : Int))) := by
    unfold okW
    decide +kernel
  have := main ⟨k.toNat, by omega⟩
  have e : ((k.toNat : Nat) : Int) = k := Int.toNat_of_nonneg h0
  simpa only [e] using this
end Ob
set_option Elab.async false
set_option linter.all false
set_option maxRecDepth 100000
set_option maxHeartbeats 4000000
namespace Ob
open PySem PySem.Spec PyProof.Rows L2
/-! ### a thing and the error that keeps it -/
structure Kp where
  t : Tr
  e : Addr
  C : Addr
  d : Addr
structure KpAt (K : PySem.W.Frag) (aft : Bool) (H : Hp) (k : Kp) : Prop where
  tr : TrAt aft H k.t
  er : ErAt H k.e k.C k.d k.t.val
  ei : ErI K k.C
theorem exo_lst {e C : Addr} {d : Option Addr} {xs : List V} : exo e C d ≠ .lst xs := fun z => by
  have z' : HO.ext _ = HO.lst xs := z
  cases z'
theorem erX_lst {d : Addr} {v : V} {xs : List V} : erX d v ≠ .lst xs := fun z => by
  have z' : HO.ext _ = HO.lst xs := z
  cases z'
theorem ErAt.stay {H H' : Hp} {a C d : Addr} {v : V} (h : ErAt H a C d v) (k : ∀ b o, H b = some o → (∀ xs, o ≠ .lst xs) → H' b = some o) : ErAt H' a C d v := ⟨k _ _ h.1 fun _ => exo_lst, k _ _ h.2 fun _ => erX_lst⟩
theorem KpAt.stay {K : PySem.W.Frag} {aft : Bool} {H H' : Hp} {k : Kp} (h : KpAt K aft H k) (s1 : ∀ b o, H b = some o → (∀ xs, o ≠ .lst xs) → H' b = some o) (s2 : ∀ b ∈ k.t.own, ∀ o, H b = some o → H' b = some o) : KpAt K aft H' k :=
  ⟨tr_keep h.tr s2, h.er.stay s1, h.ei⟩
/-- the thing's own objects are new, and none of the lists at hand -/
def Apart (H : Hp) (p KL TL : Addr) (k : Kp) : Prop := ∀ b ∈ k.t.own, b ≠ p ∧ b ≠ KL ∧ b ≠ TL ∧ H b = none
def Sep (ks : List Kp) : Prop := ∀ (i j : Nat) (x y : Kp), i ≠ j → ks[i]? = some x → ks[j]? = some y → ∀ b ∈ x.t.own, b ∉ y.t.own
theorem Sep.add {ks : List Kp} (s : Sep ks) {k : Kp} (h : ∀ x ∈ ks, ∀ b ∈ x.t.own, b ∉ k.t.own) : Sep (ks ++ [k]) := by
  intro i j x y ne hi hj b hb hc
  have at_ : ∀ (i : Nat) (x : Kp), (ks ++ [k])[i]? = some x → ks[i]? = some x ∨ (i = ks.length ∧ x = k) := fun i x e => by
    rcases Nat.lt_trichotomy i ks.length with q | q | q
    · rw [List.getElem?_append_left q] at e
      exact .inl e
    · rw [q] at e
      simp at e
      exact .inr ⟨q, e.symm⟩
    · rw [List.getElem?_eq_none (by simp; omega)] at e
      cases e
  rcases at_ i x hi with hi | ⟨e1, e2⟩
  · rcases at_ j y hj with hj | ⟨e3, e4⟩
    · exact s i j x y ne hi hj b hb hc
    · rw [e4] at hc
      exact h x (List.mem_of_getElem? hi) b hb hc
  · rcases at_ j y hj with hj | ⟨e3, e4⟩
    · rw [e2] at hb
      exact h y (List.mem_of_getElem? hj) b hc hb
    · exact ne (e1.trans e3.symm)
theorem th_all {K : PySem.W.Frag} {H : Hp} : ∀ ks : List Kp, (∀ k ∈ ks, TrAt true H k.t) → ThAll K H (ks.map fun k => k.t.val) (ks.map fun k => k.t.dat true)
  | [], _ => .nil
  | k :: ks, h => .cons (tr_th (h k (List.mem_cons_self ..))) (th_all ks fun x hx => h x (List.mem_cons_of_mem _ hx))
end Ob
set_option Elab.async false
set_option linter.all false
set_option maxRecDepth 100000
set_option maxHeartbeats 4000000
namespace Lw
open PySem L2 Ob
open C8 (InsC call_isC tCut pss_cut)
def top (i : Nat) : Stmt := PySem.Challenge.pw_oneforall_k07_classes_of_errors.main.body.getD i (.Pass ⟨0, 0, 0, 0⟩)
abbrev s_StreamError__init : Stmt := inClass (top 1) 0
theorem sc_StreamError__init : FnScope ["self", "value"] ["self", "value"] (defScope s_StreamError__init) := ⟨rfl, rfl, rfl, by decide +kernel, rfl, by decide +kernel, by decide +kernel⟩
abbrev s_InvalidNumber__init : Stmt := inClass (top 2) 0
theorem sc_InvalidNumber__init : FnScope ["self", "value"] ["self", "value"] (defScope s_InvalidNumber__init) := ⟨rfl, rfl, rfl, by decide +kernel, rfl, by decide +kernel, by decide +kernel⟩
abbrev s_InvalidState__init : Stmt := inClass (top 3) 0
theorem sc_InvalidState__init : FnScope ["self", "value"] ["self", "value"] (defScope s_InvalidState__init) := ⟨rfl, rfl, rfl, by decide +kernel, rfl, by decide +kernel, by decide +kernel⟩
abbrev s_UnknownMember__init : Stmt := inClass (top 4) 0
theorem sc_UnknownMember__init : FnScope ["self", "value"] ["self", "value"] (defScope s_UnknownMember__init) := ⟨rfl, rfl, rfl, by decide +kernel, rfl, by decide +kernel, by decide +kernel⟩
abbrev s_TooManyLost__init : Stmt := inClass (top 5) 0
theorem sc_TooManyLost__init : FnScope ["self", "value"] ["self", "value"] (defScope s_TooManyLost__init) := ⟨rfl, rfl, rfl, by decide +kernel, rfl, by decide +kernel, by decide +kernel⟩
abbrev s_NothingToUndo__init : Stmt := inClass (top 6) 0
theorem sc_NothingToUndo__init : FnScope ["self", "value"] ["self", "value"] (defScope s_NothingToUndo__init) := ⟨rfl, rfl, rfl, by decide +kernel, rfl, by decide +kernel, by decide +kernel⟩
abbrev s_Unreadable__init : Stmt := inClass (top 7) 0
theorem sc_Unreadable__init : FnScope ["self", "value"] ["self", "value"] (defScope s_Unreadable__init) := ⟨rfl, rfl, rfl, by decide +kernel, rfl, by decide +kernel, by decide +kernel⟩
abbrev s_purse : Stmt := top 9
theorem sc_purse : FnScope ["script", "place", "cell"] ["script", "place"] (defScope s_purse) := ⟨rfl, rfl, rfl, by decide +kernel, rfl, by decide +kernel, by decide +kernel⟩
abbrev s_coin : Stmt := top 10
theorem sc_coin : FnScope ["purse", "many", "drawn", "stirred"] ["purse", "many"] (defScope s_coin) := ⟨rfl, rfl, rfl, by decide +kernel, rfl, by decide +kernel, by decide +kernel⟩
abbrev s_wv_stirred : Stmt := top 11
theorem sc_wv_stirred : FnScope ["purse", "row", "left", "found"] ["purse", "row"] (defScope s_wv_stirred) := ⟨rfl, rfl, rfl, by decide +kernel, rfl, by decide +kernel, by decide +kernel⟩
abbrev s_constructed : Stmt := top 12
theorem sc_constructed : FnScope ["rank", "thing", "named"] ["rank", "thing", "named"] (defScope s_constructed) := ⟨rfl, rfl, rfl, by decide +kernel, rfl, by decide +kernel, by decide +kernel⟩
abbrev s_classes : Stmt := top 13
theorem sc_classes : FnScope ["kept", "found"] ["kept"] (defScope s_classes) := ⟨rfl, rfl, rfl, by decide +kernel, rfl, by decide +kernel, by decide +kernel⟩
abbrev s_thing : Stmt := top 14
theorem sc_thing : FnScope ["purse", "number", "wording", "things"] ["purse"] (defScope s_thing) := ⟨rfl, rfl, rfl, by decide +kernel, rfl, by decide +kernel, by decide +kernel⟩
abbrev s_right : Stmt := top 15
theorem sc_right : FnScope ["purse", "kept", "things", "rank", "thing", "made", "at"] ["purse"] (defScope s_right) := ⟨rfl, rfl, rfl, by decide +kernel, rfl, by decide +kernel, by decide +kernel⟩
abbrev s_law : Stmt := top 16
theorem sc_law : FnScope ["script", "spot", "purse", "turn"] ["script"] (defScope s_law) := ⟨rfl, rfl, rfl, by decide +kernel, rfl, by decide +kernel, by decide +kernel⟩
structure Ad where
  f_StreamError__init : Addr
  d_StreamError__init : FuncData
  f_InvalidNumber__init : Addr
  d_InvalidNumber__init : FuncData
  f_InvalidState__init : Addr
  d_InvalidState__init : FuncData
  f_UnknownMember__init : Addr
  d_UnknownMember__init : FuncData
  f_TooManyLost__init : Addr
  d_TooManyLost__init : FuncData
  f_NothingToUndo__init : Addr
  d_NothingToUndo__init : FuncData
  f_Unreadable__init : Addr
  d_Unreadable__init : FuncData
  f_purse : Addr
  d_purse : FuncData
  f_coin : Addr
  d_coin : FuncData
  f_wv_stirred : Addr
  d_wv_stirred : FuncData
  f_constructed : Addr
  d_constructed : FuncData
  f_classes : Addr
  d_classes : FuncData
  f_thing : Addr
  d_thing : FuncData
  f_right : Addr
  d_right : FuncData
  f_law : Addr
  d_law : FuncData
  c_StreamError : Addr
  c_InvalidNumber : Addr
  c_InvalidState : Addr
  c_UnknownMember : Addr
  c_TooManyLost : Addr
  c_NothingToUndo : Addr
  c_Unreadable : Addr
structure Txt (K : PySem.W.Frag) (mg : Str → Option Value) (A : Ad) : Prop where
  F_StreamError__init : Fun K "__init__" "StreamError.__init__" s_StreamError__init A.f_StreamError__init A.d_StreamError__init
  B_StreamError__init : Binds K A.d_StreamError__init ["self", "value"] []
  F_InvalidNumber__init : Fun K "__init__" "InvalidNumber.__init__" s_InvalidNumber__init A.f_InvalidNumber__init A.d_InvalidNumber__init
  B_InvalidNumber__init : Binds K A.d_InvalidNumber__init ["self", "value"] []
  F_InvalidState__init : Fun K "__init__" "InvalidState.__init__" s_InvalidState__init A.f_InvalidState__init A.d_InvalidState__init
  B_InvalidState__init : Binds K A.d_InvalidState__init ["self", "value"] []
  F_UnknownMember__init : Fun K "__init__" "UnknownMember.__init__" s_UnknownMember__init A.f_UnknownMember__init A.d_UnknownMember__init
  B_UnknownMember__init : Binds K A.d_UnknownMember__init ["self", "value"] []
  F_TooManyLost__init : Fun K "__init__" "TooManyLost.__init__" s_TooManyLost__init A.f_TooManyLost__init A.d_TooManyLost__init
  B_TooManyLost__init : Binds K A.d_TooManyLost__init ["self", "value"] []
  F_NothingToUndo__init : Fun K "__init__" "NothingToUndo.__init__" s_NothingToUndo__init A.f_NothingToUndo__init A.d_NothingToUndo__init
  B_NothingToUndo__init : Binds K A.d_NothingToUndo__init ["self", "value"] []
  F_Unreadable__init : Fun K "__init__" "Unreadable.__init__" s_Unreadable__init A.f_Unreadable__init A.d_Unreadable__init
  B_Unreadable__init : Binds K A.d_Unreadable__init ["self", "value"] []
  F_purse : Fun K "_law_purse" "_law_purse" s_purse A.f_purse A.d_purse
  g_purse : mg "_law_purse" = some (.ref A.f_purse)
  B_purse : Binds K A.d_purse ["script", "place"] []
  F_coin : Fun K "_law_coin" "_law_coin" s_coin A.f_coin A.d_coin
  g_coin : mg "_law_coin" = some (.ref A.f_coin)
  B_coin : Binds K A.d_coin ["purse", "many"] []
  F_wv_stirred : Fun K "_law_wv_stirred" "_law_wv_stirred" s_wv_stirred A.f_wv_stirred A.d_wv_stirred
  g_wv_stirred : mg "_law_wv_stirred" = some (.ref A.f_wv_stirred)
  B_wv_stirred : Binds K A.d_wv_stirred ["purse", "row"] []
  F_constructed : Fun K "_law_constructed" "_law_constructed" s_constructed A.f_constructed A.d_constructed
  g_constructed : mg "_law_constructed" = some (.ref A.f_constructed)
  B_constructed : Binds K A.d_constructed ["rank", "thing", "named"] []
  F_classes : Fun K "_law_classes" "_law_classes" s_classes A.f_classes A.d_classes
  g_classes : mg "_law_classes" = some (.ref A.f_classes)
  B_classes : Binds K A.d_classes ["kept"] []
  F_thing : Fun K "_law_thing" "_law_thing" s_thing A.f_thing A.d_thing
  g_thing : mg "_law_thing" = some (.ref A.f_thing)
  B_thing : Binds K A.d_thing ["purse"] []
  F_right : Fun K "_law_right" "_law_right" s_right A.f_right A.d_right
  g_right : mg "_law_right" = some (.ref A.f_right)
  B_right : Binds K A.d_right ["purse"] []
  F_law : Fun K "law" "law" s_law A.f_law A.d_law
  g_law : mg "law" = some (.ref A.f_law)
  B_law : Binds K A.d_law ["script"] []
  g_StreamError : mg "StreamError" = some (.ref A.c_StreamError)
  x_StreamError : ErrK K mg "StreamError" A.c_StreamError A.f_StreamError__init A.d_StreamError__init "StreamError.__init__" s_StreamError__init
  em_StreamError : PySem.W.exmOne K (.ref A.c_StreamError) (.ref A.c_StreamError) = some true
  ei_StreamError : ErI K A.c_StreamError
  kv_StreamError : PySem.W.kitOne K (.ref A.c_StreamError) (.type "ValueError") = some true
  g_InvalidNumber : mg "InvalidNumber" = some (.ref A.c_InvalidNumber)
  x_InvalidNumber : ErrK K mg "InvalidNumber" A.c_InvalidNumber A.f_InvalidNumber__init A.d_InvalidNumber__init "InvalidNumber.__init__" s_InvalidNumber__init
  em_InvalidNumber : PySem.W.exmOne K (.ref A.c_InvalidNumber) (.ref A.c_InvalidNumber) = some true
  ei_InvalidNumber : ErI K A.c_InvalidNumber
  kv_InvalidNumber : PySem.W.kitOne K (.ref A.c_InvalidNumber) (.type "ValueError") = some true
  g_InvalidState : mg "InvalidState" = some (.ref A.c_InvalidState)
  x_InvalidState : ErrK K mg "InvalidState" A.c_InvalidState A.f_InvalidState__init A.d_InvalidState__init "InvalidState.__init__" s_InvalidState__init
  em_InvalidState : PySem.W.exmOne K (.ref A.c_InvalidState) (.ref A.c_InvalidState) = some true
  ei_InvalidState : ErI K A.c_InvalidState
  kv_InvalidState : PySem.W.kitOne K (.ref A.c_InvalidState) (.type "ValueError") = some true
  g_UnknownMember : mg "UnknownMember" = some (.ref A.c_UnknownMember)
  x_UnknownMember : ErrK K mg "UnknownMember" A.c_UnknownMember A.f_UnknownMember__init A.d_UnknownMember__init "UnknownMember.__init__" s_UnknownMember__init
  em_UnknownMember : PySem.W.exmOne K (.ref A.c_UnknownMember) (.ref A.c_UnknownMember) = some true
  ei_UnknownMember : ErI K A.c_UnknownMember
  kv_UnknownMember : PySem.W.kitOne K (.ref A.c_UnknownMember) (.type "ValueError") = some true
  g_TooManyLost : mg "TooManyLost" = some (.ref A.c_TooManyLost)
  x_TooManyLost : ErrK K mg "TooManyLost" A.c_TooManyLost A.f_TooManyLost__init A.d_TooManyLost__init "TooManyLost.__init__" s_TooManyLost__init
  em_TooManyLost : PySem.W.exmOne K (.ref A.c_TooManyLost) (.ref A.c_TooManyLost) = some true
  ei_TooManyLost : ErI K A.c_TooManyLost
  kv_TooManyLost : PySem.W.kitOne K (.ref A.c_TooManyLost) (.type "ValueError") = some true
  g_NothingToUndo : mg "NothingToUndo" = some (.ref A.c_NothingToUndo)
  x_NothingToUndo : ErrK K mg "NothingToUndo" A.c_NothingToUndo A.f_NothingToUndo__init A.d_NothingToUndo__init "NothingToUndo.__init__" s_NothingToUndo__init
  em_NothingToUndo : PySem.W.exmOne K (.ref A.c_NothingToUndo) (.ref A.c_NothingToUndo) = some true
  ei_NothingToUndo : ErI K A.c_NothingToUndo
  kv_NothingToUndo : PySem.W.kitOne K (.ref A.c_NothingToUndo) (.type "ValueError") = some true
  g_Unreadable : mg "Unreadable" = some (.ref A.c_Unreadable)
  x_Unreadable : ErrK K mg "Unreadable" A.c_Unreadable A.f_Unreadable__init A.d_Unreadable__init "Unreadable.__init__" s_Unreadable__init
  em_Unreadable : PySem.W.exmOne K (.ref A.c_Unreadable) (.ref A.c_Unreadable) = some true
  ei_Unreadable : ErI K A.c_Unreadable
  kv_Unreadable : PySem.W.kitOne K (.ref A.c_Unreadable) (.type "ValueError") = some true
  kk_InvalidNumber_InvalidNumber : PySem.W.kitOne K (.ref A.c_InvalidNumber) (.ref A.c_InvalidNumber) = some true
  kk_InvalidNumber_InvalidState : PySem.W.kitOne K (.ref A.c_InvalidNumber) (.ref A.c_InvalidState) = some false
  kk_InvalidNumber_NothingToUndo : PySem.W.kitOne K (.ref A.c_InvalidNumber) (.ref A.c_NothingToUndo) = some false
  kk_InvalidNumber_StreamError : PySem.W.kitOne K (.ref A.c_InvalidNumber) (.ref A.c_StreamError) = some true
  kk_InvalidNumber_TooManyLost : PySem.W.kitOne K (.ref A.c_InvalidNumber) (.ref A.c_TooManyLost) = some false
  kk_InvalidNumber_UnknownMember : PySem.W.kitOne K (.ref A.c_InvalidNumber) (.ref A.c_UnknownMember) = some false
  kk_InvalidNumber_Unreadable : PySem.W.kitOne K (.ref A.c_InvalidNumber) (.ref A.c_Unreadable) = some false
  kk_InvalidState_InvalidNumber : PySem.W.kitOne K (.ref A.c_InvalidState) (.ref A.c_InvalidNumber) = some false
  kk_InvalidState_InvalidState : PySem.W.kitOne K (.ref A.c_InvalidState) (.ref A.c_InvalidState) = some true
  kk_InvalidState_NothingToUndo : PySem.W.kitOne K (.ref A.c_InvalidState) (.ref A.c_NothingToUndo) = some false
  kk_InvalidState_StreamError : PySem.W.kitOne K (.ref A.c_InvalidState) (.ref A.c_StreamError) = some true
  kk_InvalidState_TooManyLost : PySem.W.kitOne K (.ref A.c_InvalidState) (.ref A.c_TooManyLost) = some false
  kk_InvalidState_UnknownMember : PySem.W.kitOne K (.ref A.c_InvalidState) (.ref A.c_UnknownMember) = some false
  kk_InvalidState_Unreadable : PySem.W.kitOne K (.ref A.c_InvalidState) (.ref A.c_Unreadable) = some false
  kk_NothingToUndo_InvalidNumber : PySem.W.kitOne K (.ref A.c_NothingToUndo) (.ref A.c_InvalidNumber) = some false
  kk_NothingToUndo_InvalidState : PySem.W.kitOne K (.ref A.c_NothingToUndo) (.ref A.c_InvalidState) = some false
  kk_NothingToUndo_NothingToUndo : PySem.W.kitOne K (.ref A.c_NothingToUndo) (.ref A.c_NothingToUndo) = some true
  kk_NothingToUndo_StreamError : PySem.W.kitOne K (.ref A.c_NothingToUndo) (.ref A.c_StreamError) = some true
  kk_NothingToUndo_TooManyLost : PySem.W.kitOne K (.ref A.c_NothingToUndo) (.ref A.c_TooManyLost) = some false
  kk_NothingToUndo_UnknownMember : PySem.W.kitOne K (.ref A.c_NothingToUndo) (.ref A.c_UnknownMember) = some false
  kk_NothingToUndo_Unreadable : PySem.W.kitOne K (.ref A.c_NothingToUndo) (.ref A.c_Unreadable) = some false
  kk_StreamError_InvalidNumber : PySem.W.kitOne K (.ref A.c_StreamError) (.ref A.c_InvalidNumber) = some false
  kk_StreamError_InvalidState : PySem.W.kitOne K (.ref A.c_StreamError) (.ref A.c_InvalidState) = some false
  kk_StreamError_NothingToUndo : PySem.W.kitOne K (.ref A.c_StreamError) (.ref A.c_NothingToUndo) = some false
  kk_StreamError_StreamError : PySem.W.kitOne K (.ref A.c_StreamError) (.ref A.c_StreamError) = some true
  kk_StreamError_TooManyLost : PySem.W.kitOne K (.ref A.c_StreamError) (.ref A.c_TooManyLost) = some false
  kk_StreamError_UnknownMember : PySem.W.kitOne K (.ref A.c_StreamError) (.ref A.c_UnknownMember) = some false
  kk_StreamError_Unreadable : PySem.W.kitOne K (.ref A.c_StreamError) (.ref A.c_Unreadable) = some false
  kk_TooManyLost_InvalidNumber : PySem.W.kitOne K (.ref A.c_TooManyLost) (.ref A.c_InvalidNumber) = some false
  kk_TooManyLost_InvalidState : PySem.W.kitOne K (.ref A.c_TooManyLost) (.ref A.c_InvalidState) = some false
  kk_TooManyLost_NothingToUndo : PySem.W.kitOne K (.ref A.c_TooManyLost) (.ref A.c_NothingToUndo) = some false
  kk_TooManyLost_StreamError : PySem.W.kitOne K (.ref A.c_TooManyLost) (.ref A.c_StreamError) = some true
  kk_TooManyLost_TooManyLost : PySem.W.kitOne K (.ref A.c_TooManyLost) (.ref A.c_TooManyLost) = some true
  kk_TooManyLost_UnknownMember : PySem.W.kitOne K (.ref A.c_TooManyLost) (.ref A.c_UnknownMember) = some false
  kk_TooManyLost_Unreadable : PySem.W.kitOne K (.ref A.c_TooManyLost) (.ref A.c_Unreadable) = some false
  kk_UnknownMember_InvalidNumber : PySem.W.kitOne K (.ref A.c_UnknownMember) (.ref A.c_InvalidNumber) = some false
  kk_UnknownMember_InvalidState : PySem.W.kitOne K (.ref A.c_UnknownMember) (.ref A.c_InvalidState) = some false
  kk_UnknownMember_NothingToUndo : PySem.W.kitOne K (.ref A.c_UnknownMember) (.ref A.c_NothingToUndo) = some false
  kk_UnknownMember_StreamError : PySem.W.kitOne K (.ref A.c_UnknownMember) (.ref A.c_StreamError) = some true
  kk_UnknownMember_TooManyLost : PySem.W.kitOne K (.ref A.c_UnknownMember) (.ref A.c_TooManyLost) = some false
  kk_UnknownMember_UnknownMember : PySem.W.kitOne K (.ref A.c_UnknownMember) (.ref A.c_UnknownMember) = some true
  kk_UnknownMember_Unreadable : PySem.W.kitOne K (.ref A.c_UnknownMember) (.ref A.c_Unreadable) = some false
  kk_Unreadable_InvalidNumber : PySem.W.kitOne K (.ref A.c_Unreadable) (.ref A.c_InvalidNumber) = some false
  kk_Unreadable_InvalidState : PySem.W.kitOne K (.ref A.c_Unreadable) (.ref A.c_InvalidState) = some false
  kk_Unreadable_NothingToUndo : PySem.W.kitOne K (.ref A.c_Unreadable) (.ref A.c_NothingToUndo) = some false
  kk_Unreadable_StreamError : PySem.W.kitOne K (.ref A.c_Unreadable) (.ref A.c_StreamError) = some true
  kk_Unreadable_TooManyLost : PySem.W.kitOne K (.ref A.c_Unreadable) (.ref A.c_TooManyLost) = some false
  kk_Unreadable_UnknownMember : PySem.W.kitOne K (.ref A.c_Unreadable) (.ref A.c_UnknownMember) = some false
  kk_Unreadable_Unreadable : PySem.W.kitOne K (.ref A.c_Unreadable) (.ref A.c_Unreadable) = some true
  b_ValueError : mg "ValueError" = none
  b_abs : mg "abs" = none
  b_int : mg "int" = none
  b_isinstance : mg "isinstance" = none
  b_len : mg "len" = none
  b_list : mg "list" = none
  b_max : mg "max" = none
  b_min : mg "min" = none
  b_range : mg "range" = none
  b_repr : mg "repr" = none
abbrev sp_law := spLaw
section
variable {P : Program} {w : World} {K : PySem.W.Frag} {mg : Str → Option Value} {base : Heap} {A : Ad}
theorem ok_coin (T : Txt K mg A) : FnOk P w K mg base CX0 1 A.f_coin A.d_coin ["purse", "many"] spCoin := by
  refine T.F_coin.ok sc_coin (fun vs H Q E h => ?_) (fun cdv A outer s H vs Q E hr h => ?_)
  · obtain ⟨p, o, n, m, rfl, _⟩ := h
    rfl
  · obtain ⟨p, o, n, m, rfl, hp, ⟨a, b, c, rfl, a0, b0, b1, c0, c1⟩, hn, m0, m1, k⟩ := h
    refine ⟨_, (pss_cons (ps_if (pt_cmpR op_gt (pe_ix ix_list (pv 0) pe_int (fun _ _ => rfl)) pe_int (nomark _)) (pss_cons (ps_set (i := 2) sc_coin.nd rfl (Or.inl rfl) (pe_op op_mod (pe_callTy call_int1 rfl T.b_int (by decide +kernel) (pa_cons (pe_ix ix_list (pv 0) pe_int (fun _ _ => rfl)) pa_nil)) (pv 1)))
      (pss_cons (ps_asg (pe_op op_fdivW (pe_ix ix_list (pv 0) pe_int (fun _ _ => rfl)) (pv 1)) (pg_sub (pv 0) pe_int set_list))
      (pss_one (ps_ret (pv 2))))) pss_nil)
      (pss_cons (ps_asg (pe_op op_add (pe_ix ix_list (pv 0) pe_int (fun _ _ => rfl)) pe_int) (pg_sub (pv 0) pe_int set_list))
      (pss_cons (ps_set (i := 3) sc_coin.nd rfl (Or.inl rfl) (pe_op op_mod (pe_op op_powW (pe_callTy call_int1 rfl T.b_int (by decide +kernel) (pa_cons (pe_op op_add (pe_ix ix_list (pv 0) pe_int (fun _ _ => rfl)) (pe_op op_mul pe_int (pe_ix ix_list (pv 0) pe_int (fun _ _ => rfl)))) pa_nil)) pe_int) (pe_op op_add (pe_op op_powW pe_int pe_int) pe_int)))
      (pss_cons (ps_set (i := 3) sc_coin.nd rfl (Or.inl rfl) (pe_op op_mod (pe_op op_powW (pe_callTy call_int1 rfl T.b_int (by decide +kernel) (pa_cons (pe_op op_add (pv 3) (pe_op op_mul pe_int (pe_ix ix_list (pv 0) pe_int (fun _ _ => rfl)))) pa_nil)) pe_int) (pe_op op_add (pe_op op_powW pe_int pe_int) pe_int)))
      (pss_one (ps_ret (pe_op op_mod (pe_callTy call_int1 rfl T.b_int (by decide +kernel) (pa_cons (pe_op op_fdivW (pv 3) pe_int) pa_nil)) (pv 1)))))))), ?_⟩
    refine ⟨_, rfl, _, _, _, _, rfl, rfl, SqL.of hp, atI_nat (j := 0) rfl, _, _, rfl, rfl, _, rfl, ?_⟩
    refine ite2 (fun ha => ?_) (fun ha => ?_)
    · refine ⟨_, rfl, _, _, _, _, rfl, rfl, SqL.of hp, atI_nat (j := 0) rfl, .inl ⟨_, rfl, _, rfl, _, _, rfl, rfl, m0, ?_⟩⟩
      refine ⟨_, rfl, _, _, _, _, rfl, rfl, SqL.of hp, atI_nat (j := 0) rfl, _, rfl, _, _, rfl, rfl, div_small m0 m1, _, rfl, _, _, _, 0, rfl, rfl, hp, rfl, _, rfl, ?_⟩
      exact k _ _ (Int.emod_nonneg _ (by omega)) (Int.emod_lt_of_pos _ m0) ⟨a / m, b, c, rfl, Int.ediv_nonneg a0 (by omega), b0, b1, c0, by omega⟩
    · refine ⟨_, rfl, _, _, _, _, rfl, rfl, SqL.of hp, atI_nat (j := 2) rfl, _, _, rfl, rfl, _, rfl, _, _, _, 2, rfl, rfl, hp, rfl, ?_⟩
      have hp1 : upd H p (.lst [.int a, .int b, .int (c + 1)]) p = some (.lst [.int a, .int b, .int (c + 1)]) := upd_same
      have x0 : 0 ≤ b + 2038074743 * (c + 1) := by omega
      have x1 : b + 2038074743 * (c + 1) < 2 ^ 100 := by omega
      refine ⟨_, rfl, _, _, _, _, rfl, rfl, SqL.of hp1, atI_nat (j := 1) rfl, _, rfl, _, _, _, _, rfl, rfl, SqL.of hp1, atI_nat (j := 2) rfl, _, _, rfl, rfl, .inl ⟨by decide, by decide⟩, _, _, rfl, rfl,
        .inl ⟨_, rfl, _, _, rfl, rfl, pow_small (e := 3) x0 x1 (by decide) (by decide) (by decide), _, _, rfl, rfl, ⟨by decide, by decide, by decide⟩, _, _, rfl, rfl, _, _, rfl, rfl, (by show (0 : Int) < 10 ^ (25 : Int).toNat + 13; decide), ?_⟩⟩
      have key : ∀ S : Int, 0 ≤ S → S < 10 ^ (25 : Int).toNat + 13 → 0 ≤ S + 982451653 * (c + 1) ∧ S + 982451653 * (c + 1) < 2 ^ 100 := fun S h1 h2 => by
        have h3 : S < 10 ^ 25 + 13 := h2
        omega
      have kS := key _ (Int.emod_nonneg ((b + 2038074743 * (c + 1)) ^ (3 : Int).toNat) (b := 10 ^ (25 : Int).toNat + 13) (by decide)) (Int.emod_lt_of_pos _ (by decide))
      refine ⟨_, rfl, _, rfl, _, _, _, _, rfl, rfl, SqL.of hp1, atI_nat (j := 2) rfl, _, _, rfl, rfl, .inl ⟨by decide, by decide⟩, _, _, rfl, rfl,
        .inl ⟨_, rfl, _, _, rfl, rfl, pow_small (e := 2) kS.1 kS.2 (by decide) (by decide) (by decide), _, _, rfl, rfl, ⟨by decide, by decide, by decide⟩, _, _, rfl, rfl, _, _, rfl, rfl, (by show (0 : Int) < 10 ^ (24 : Int).toNat + 7; decide), ?_⟩⟩
      refine ⟨_, rfl, _, _, rfl, rfl, ⟨by decide, by decide⟩, .inl ⟨_, rfl, _, rfl, _, _, rfl, rfl, m0, ?_⟩⟩
      exact k _ _ (Int.emod_nonneg _ (by omega)) (Int.emod_lt_of_pos _ m0) ⟨a, b, c + 1, rfl, a0, b0, b1, by omega, by omega⟩
theorem ok_purse (T : Txt K mg A) : FnOk P w K mg base CX0 1 A.f_purse A.d_purse ["script", "place"] (spPurse K) := by
  refine T.F_purse.ok sc_purse (fun vs H Q E h => ?_) (fun cdv A outer s H vs Q E hr h => ?_)
  · obtain ⟨a, ns, i, rfl, _⟩ := h
    rfl
  · obtain ⟨a, ns, i, rfl, hS, hlen, hi, k⟩ := h
    refine ⟨_, (pss_cons (ps_set (i := 2) sc_purse.nd rfl (Or.inl rfl) (pe_ifExp (pt_cmpR op_lt (pv 1) (pe_callB call_len rfl T.b_len (by decide +kernel) (pa_cons (pv 0) pa_nil)) (nomark _)) (pe_ix ix_list (pv 0) (pv 1) (fun _ _ => rfl)) pe_int))
      (pss_one (ps_ret (pe_lst (pa_cons (pe_callB (call_max2 rfl) rfl T.b_max (by decide +kernel) (pa_cons pe_int (pa_cons (pe_op op_sub (pe_callB call_abs rfl T.b_abs (by decide +kernel) (pa_cons (pv 2) pa_nil)) (pe_op op_powW pe_int pe_int)) pa_nil))) (pa_cons (pe_op op_mod (pe_callTy call_int1 rfl T.b_int (by decide +kernel) (pa_cons (pe_op op_add (pe_op op_add (pe_op op_mul (pv 2) pe_int) (pe_op op_mul (pv 1) pe_int)) pe_int) pa_nil)) (pe_op op_add (pe_op op_powW pe_int pe_int) pe_int)) (pa_cons pe_int pa_nil))))))), ?_⟩
    have hfew : ns.length ≤ sizeLine := Nat.le_trans hlen (by rw [sizeLine_eq]; decide)
    have fin : ∀ cell : Int, 0 ≤ (cell * 30011 + (i : Int) * 7368787 + 104729) % (10 ^ (24 : Int).toNat + 7) ∧ (cell * 30011 + (i : Int) * 7368787 + 104729) % (10 ^ (24 : Int).toNat + 7) < 2 ^ 80 := fun cell => by
      have h1 := Int.emod_nonneg (cell * 30011 + (i : Int) * 7368787 + 104729) (b := 10 ^ (24 : Int).toNat + 7) (by decide)
      have h2 := Int.emod_lt_of_pos (cell * 30011 + (i : Int) * 7368787 + 104729) (b := 10 ^ (24 : Int).toNat + 7) (by decide)
      have h3 : (10 : Int) ^ (24 : Int).toNat + 7 < 2 ^ 80 := by decide
      exact ⟨h1, Int.lt_trans h2 h3⟩
    refine ⟨_, rfl, _, rfl, _, _, rfl, .inl ⟨_, hS, rfl⟩, _, _, rfl, rfl, _, rfl, ?_⟩
    refine ite2 (fun c => ?_) (fun c => ?_)
    · have hi2 : i < ns.length := by
        have := of_decide_eq_true c
        simpa using this
      obtain ⟨z, hz⟩ : ∃ z, ns[i]? = some z := ⟨_, List.getElem?_eq_getElem hi2⟩
      refine ⟨_, rfl, _, rfl, _, _, _, _, rfl, rfl, hS, atI_nat (v := .int z) (by rw [List.getElem?_map, hz] <;> rfl), ?_⟩
      refine ⟨_, rfl, _, rfl, _, _, rfl, rfl, ⟨by decide, by decide, by decide⟩, _, _, rfl, rfl, _, _, rfl, ?_⟩
      refine ⟨_, rfl, _, _, rfl, rfl, .inr ⟨by decide, by decide⟩, _, rfl, _, _, rfl, rfl, .inr ⟨by decide, by decide⟩, _, _, rfl, rfl, _, _, rfl, rfl, .inl ⟨_, rfl, _, _, rfl, rfl, ⟨by decide, by decide, by decide⟩, _, _, rfl, rfl, _, _, rfl, rfl, (by show (0 : Int) < 10 ^ (24 : Int).toNat + 7; decide), ?_⟩⟩
      refine ⟨(by show 3 ≤ sizeLine; rw [sizeLine_eq]; decide), fun p np => k p _ np ⟨_, _, _, rfl, ?_, (fin z).1, (fin z).2, by decide, by decide⟩⟩
      split <;> omega
    · refine ⟨_, rfl, _, rfl, _, _, rfl, rfl, ⟨by decide, by decide, by decide⟩, _, _, rfl, rfl, _, _, rfl, ?_⟩
      refine ⟨_, rfl, _, _, rfl, rfl, .inr ⟨by decide, by decide⟩, _, rfl, _, _, rfl, rfl, .inr ⟨by decide, by decide⟩, _, _, rfl, rfl, _, _, rfl, rfl, .inl ⟨_, rfl, _, _, rfl, rfl, ⟨by decide, by decide, by decide⟩, _, _, rfl, rfl, _, _, rfl, rfl, (by show (0 : Int) < 10 ^ (24 : Int).toNat + 7; decide), ?_⟩⟩
      refine ⟨(by show 3 ≤ sizeLine; rw [sizeLine_eq]; decide), fun p np => k p _ np ⟨_, _, _, rfl, ?_, (fin 0).1, (fin 0).2, by decide, by decide⟩⟩
      split <;> omega
theorem kbe_StreamError (T : Txt K mg A) : ∀ (s2 : Shared) (a u : Value), K.In s2.heap → BindsTo s2 A.d_StreamError__init ⟨[a], [("value", u)]⟩ [("self", a), ("value", u)] := by
  obtain ⟨oc, od, kV, doc, pm, an, cdv, ct, osl, e, lk, hcd⟩ := T.F_StreamError__init.ex
  rw [e]
  exact fun s2 a u _ => .of_eq rfl
theorem kbe_InvalidNumber (T : Txt K mg A) : ∀ (s2 : Shared) (a u : Value), K.In s2.heap → BindsTo s2 A.d_InvalidNumber__init ⟨[a], [("value", u)]⟩ [("self", a), ("value", u)] := by
  obtain ⟨oc, od, kV, doc, pm, an, cdv, ct, osl, e, lk, hcd⟩ := T.F_InvalidNumber__init.ex
  rw [e]
  exact fun s2 a u _ => .of_eq rfl
theorem kbe_InvalidState (T : Txt K mg A) : ∀ (s2 : Shared) (a u : Value), K.In s2.heap → BindsTo s2 A.d_InvalidState__init ⟨[a], [("value", u)]⟩ [("self", a), ("value", u)] := by
  obtain ⟨oc, od, kV, doc, pm, an, cdv, ct, osl, e, lk, hcd⟩ := T.F_InvalidState__init.ex
  rw [e]
  exact fun s2 a u _ => .of_eq rfl
theorem kbe_UnknownMember (T : Txt K mg A) : ∀ (s2 : Shared) (a u : Value), K.In s2.heap → BindsTo s2 A.d_UnknownMember__init ⟨[a], [("value", u)]⟩ [("self", a), ("value", u)] := by
  obtain ⟨oc, od, kV, doc, pm, an, cdv, ct, osl, e, lk, hcd⟩ := T.F_UnknownMember__init.ex
  rw [e]
  exact fun s2 a u _ => .of_eq rfl
theorem kbe_TooManyLost (T : Txt K mg A) : ∀ (s2 : Shared) (a u : Value), K.In s2.heap → BindsTo s2 A.d_TooManyLost__init ⟨[a], [("value", u)]⟩ [("self", a), ("value", u)] := by
  obtain ⟨oc, od, kV, doc, pm, an, cdv, ct, osl, e, lk, hcd⟩ := T.F_TooManyLost__init.ex
  rw [e]
  exact fun s2 a u _ => .of_eq rfl
theorem kbe_NothingToUndo (T : Txt K mg A) : ∀ (s2 : Shared) (a u : Value), K.In s2.heap → BindsTo s2 A.d_NothingToUndo__init ⟨[a], [("value", u)]⟩ [("self", a), ("value", u)] := by
  obtain ⟨oc, od, kV, doc, pm, an, cdv, ct, osl, e, lk, hcd⟩ := T.F_NothingToUndo__init.ex
  rw [e]
  exact fun s2 a u _ => .of_eq rfl
theorem kbe_Unreadable (T : Txt K mg A) : ∀ (s2 : Shared) (a u : Value), K.In s2.heap → BindsTo s2 A.d_Unreadable__init ⟨[a], [("value", u)]⟩ [("self", a), ("value", u)] := by
  obtain ⟨oc, od, kV, doc, pm, an, cdv, ct, osl, e, lk, hcd⟩ := T.F_Unreadable__init.ex
  rw [e]
  exact fun s2 a u _ => .of_eq rfl
def StW (p l L F : Addr) (H : Hp) (n : Int) (ns : List Int) (m : Nat) (σ' : L2.St) (H' : Hp) : Prop := ∃ (xs ys : List Int) (u : HO), σ' = [some (.ref p), some (.ref l), some (.ref L), some (.ref F)] ∧ H' L = some (.lst (xs.map V.int)) ∧
  H' F = some (.lst (ys.map V.int)) ∧ xs.length = m ∧ xs.length + ys.length = ns.length ∧ (∀ x ∈ xs, x ∈ ns) ∧ (∀ y ∈ ys, y ∈ ns) ∧ H' p = some u ∧ Pu (n + ys.length) u ∧ But p H H'
theorem map_erase {α β : Type} (f : α → β) : ∀ (xs : List α) (k : Nat), (xs.map f).eraseIdx k = (xs.eraseIdx k).map f
  | [], _ => rfl
  | _ :: _, 0 => rfl
  | x :: xs, k + 1 => congrArg (f x :: ·) (map_erase f xs k)
theorem ok_wv_stirred (T : Txt K mg A) : FnOk P w K mg base CX0 3 A.f_wv_stirred A.d_wv_stirred ["purse", "row"] (spStirred K) := by
  refine T.F_wv_stirred.ok sc_wv_stirred (fun vs H Q E h => ?_) (fun cdv Ar outer s H vs Q E hr h => ?_)
  · obtain ⟨p, l, o, n, ns, rfl, _⟩ := h
    rfl
  · obtain ⟨p, l, o, n, ns, rfl, hp, pu, hn, hl, hlen, k⟩ := h
    refine ⟨_, (pss_cons (ps_par (i := 2) (j := 3) rfl sc_wv_stirred.nd rfl rfl (by decide) rfl rfl (pa_cons (pe_callTy call_list_of rfl T.b_list (by decide +kernel) (pa_cons (pv 1) pa_nil)) (pa_cons (pe_lst pa_nil) pa_nil)) rfl)
      (pss_cons (ps_while PassesOwn.never (pt_cmpR (op_neD hr.units) (pv 2) (pe_lst pa_nil) (nomark _))
      (pss_one (ps_expr (pe_bm PySem.F.plainAttrs_list PySem.F.slot_list_append PySem.F.type_list_append mt_append (pv 3) (pa_cons (pe_bm PySem.F.plainAttrs_list PySem.F.slot_list_pop PySem.F.type_list_pop mt_popAt (pv 2) (pa_cons (pe_call (ok_coin T) (hr.mono (by decide)) rfl T.g_coin T.F_coin.kp T.B_coin .nil pass0 (pa_cons (pv 0) (pa_cons (pe_callB call_len rfl T.b_len (by decide +kernel) (pa_cons (pv 2) pa_nil)) pa_nil))) pa_nil)) pa_nil)))))
      (pss_one (ps_ret (pv 3))))), ?_⟩
    refine ⟨_, rfl, l, _, rfl, .inl hl, fun L nL => ⟨Nat.zero_le _, fun F nF => ⟨_, _, rfl, ?_⟩⟩⟩
    have nLp : L ≠ p := (ne_of_none hp nL).symm
    have hL1 : upd H L (.lst (ns.map V.int)) L = some (.lst (ns.map V.int)) := upd_same
    have nFL : F ≠ L := (ne_of_none hL1 nF).symm
    have nF0 : H F = none := by rw [upd_ne nFL] at nF; exact nF
    have nFp : F ≠ p := (ne_of_none hp nF0).symm
    refine ⟨StW p l L F H n ns, ⟨ns.length, ns, [], o, rfl, by rw [upd_ne nFL.symm]; exact hL1, upd_same, rfl, rfl, fun x hx => hx, fun y hy => (by simp at hy), by rw [upd_ne nFp.symm, upd_ne nLp.symm]; exact hp, by simpa using pu, But.same ((Same.upd nL).trans (Same.upd nF))⟩, ?_⟩
    rintro m σ' H' ⟨xs, ys, u, rfl, hL, hF, rfl, tot, hx, hy, hu, puu, bt⟩
    refine ⟨_, rfl, Nat.zero_le _, fun Z nZ => ?_⟩
    have sZ : Same H' (upd H' Z (.lst [])) := Same.upd nZ
    refine ⟨.list (xs.map .int), .list [], .lst (SqL.of (sZ _ _ hL)) (dpAll_ints _), .lst (SqL.of upd_same) .nil, shaped_ints xs, shaped_ints [], _, rfl, ?_⟩
    rw [eqv_nil]
    refine ite2 (fun c => ?_) (fun c => ?_)
    · have pos : 0 < xs.length := by
        rcases Nat.eq_zero_or_pos xs.length with z | z
        · rw [z] at c
          simp at c
        · exact z
      refine ⟨StW p l L F H n ns (xs.length - 1), fun σ2 H2 z => ⟨xs.length - 1, by omega, z⟩, ?_⟩
      refine ⟨_, rfl, .inl ⟨rfl, _, SqL.of (sZ _ _ hF)⟩, _, rfl, .inl ⟨rfl, _, SqL.of (sZ _ _ hL)⟩, _, rfl, _, rfl, _, _, rfl, .inl ⟨_, SqL.of (sZ _ _ hL), rfl⟩, p, u, n + ys.length, _, rfl, sZ _ _ hu, puu, by omega, by rw [List.length_map]; omega, by rw [List.length_map]; omega, fun i u' i0 i1 pu' => ?_⟩
      rw [List.length_map] at i1
      have hk : i.toNat < xs.length := by omega
      have hL2 : upd (upd H' Z (.lst [])) p u' L = some (.lst (xs.map V.int)) := by rw [upd_ne nLp]; exact sZ _ _ hL
      refine ⟨L, _, i, i.toNat, .int xs[i.toNat], rfl, rfl, hL2, by omega, by omega, by rw [List.length_map]; exact PySem.seqIndex_of i0 (by omega), by simp [hk], ?_⟩
      refine ⟨F, _, _, rfl, rfl, (by rw [upd_ne nFL, upd_ne nFp]; exact sZ _ _ hF), by rw [List.length_map]; exact few (k := 100) (by omega), ?_⟩
      refine ⟨xs.eraseIdx i.toNat, ys ++ [xs[i.toNat]], u', rfl, ?_, ?_, ?_, ?_, fun x hm => hx x (mem_erase hm), fun y hm => ?_, ?_, ?_, fun b o' q nb => ?_⟩
      · rw [upd_ne nFL.symm, upd_same, map_erase]
      · rw [upd_same, List.map_append]
        rfl
      · exact List.length_eraseIdx_of_lt hk
      · rw [List.length_eraseIdx_of_lt hk, List.length_append, List.length_singleton]
        omega
      · rcases List.mem_append.mp hm with hm | hm
        · exact hy y hm
        · rw [List.mem_singleton.mp hm]
          exact hx _ (List.getElem_mem hk)
      · rw [upd_ne nFp.symm, upd_ne nLp.symm, upd_same]
      · rw [List.length_append, List.length_singleton]
        have e : n + ((ys.length + 1 : Nat) : Int) = n + ys.length + 1 := by omega
        rw [e]
        exact pu'
      · have h1 := bt b o' q nb
        rw [upd_ne (ne_of_none q nF0), upd_ne (ne_of_none q nL), upd_ne nb]
        exact sZ _ _ h1
    · have z : xs.length = 0 := by
        apply Classical.byContradiction
        intro z
        apply c
        simp [z]
      exact ⟨_, rfl, k F ys _ u nF0 (sZ _ _ hF) (by omega) hy (sZ _ _ hu) (puu.mono (by omega)) (bt.trans (But.same sZ))⟩
def bsOf (r : Int) : List Bool := (List.range 6).map fun i => r == 1 + ((i : Nat) : Int)
/-- what is so of the class with this rank -/
structure Made (K : PySem.W.Frag) (A : Ad) (r : Int) (C : Addr) : Prop where
  ei : ErI K C
  kv : PySem.W.kitOne K (.ref C) (.type "ValueError") = some true
  k0 : PySem.W.kitOne K (.ref C) (.ref A.c_StreamError) = some true
  k1 : PySem.W.kitOne K (.ref C) (.ref A.c_InvalidNumber) = some (r == 1)
  k2 : PySem.W.kitOne K (.ref C) (.ref A.c_InvalidState) = some (r == 2)
  k3 : PySem.W.kitOne K (.ref C) (.ref A.c_UnknownMember) = some (r == 3)
  k4 : PySem.W.kitOne K (.ref C) (.ref A.c_TooManyLost) = some (r == 4)
  k5 : PySem.W.kitOne K (.ref C) (.ref A.c_NothingToUndo) = some (r == 5)
  k6 : PySem.W.kitOne K (.ref C) (.ref A.c_Unreadable) = some (r == 6)
theorem bsOf_eq (r : Int) : bsOf r = [r == 1, r == 2, r == 3, r == 4, r == 5, r == 6] := rfl
def spMade (K : PySem.W.Frag) (A : Ad) : Sp := fun vs H Q _ => ∃ (r : Int) (v : V) (b : Bool), vs = [.int r, v, .bl b] ∧ 0 ≤ r ∧ r < 7 ∧
  ∀ (a C d : Addr) (H' : Hp), Same H H' → H a = none → ErAt H' a C d v → Made K A r C → Q (.ref a) H'
def spClasses (K : PySem.W.Frag) (A : Ad) : Sp := fun vs H Q _ => ∃ (a C d : Addr) (v : V) (r : Int), vs = [.ref a] ∧ ErAt H a C d v ∧ Made K A r C ∧
  ∀ (l : Addr) (H' : Hp), Same H H' → H' l = some (.lst (([true, true] ++ bsOf r).map V.bl)) → Q (.ref l) H'
theorem made_0 (T : Txt K mg A) : Made K A 0 A.c_StreamError := ⟨T.ei_StreamError, T.kv_StreamError, T.kk_StreamError_StreamError, T.kk_StreamError_InvalidNumber, T.kk_StreamError_InvalidState, T.kk_StreamError_UnknownMember, T.kk_StreamError_TooManyLost, T.kk_StreamError_NothingToUndo, T.kk_StreamError_Unreadable⟩
theorem made_1 (T : Txt K mg A) : Made K A 1 A.c_InvalidNumber := ⟨T.ei_InvalidNumber, T.kv_InvalidNumber, T.kk_InvalidNumber_StreamError, T.kk_InvalidNumber_InvalidNumber, T.kk_InvalidNumber_InvalidState, T.kk_InvalidNumber_UnknownMember, T.kk_InvalidNumber_TooManyLost, T.kk_InvalidNumber_NothingToUndo, T.kk_InvalidNumber_Unreadable⟩
theorem made_2 (T : Txt K mg A) : Made K A 2 A.c_InvalidState := ⟨T.ei_InvalidState, T.kv_InvalidState, T.kk_InvalidState_StreamError, T.kk_InvalidState_InvalidNumber, T.kk_InvalidState_InvalidState, T.kk_InvalidState_UnknownMember, T.kk_InvalidState_TooManyLost, T.kk_InvalidState_NothingToUndo, T.kk_InvalidState_Unreadable⟩
theorem made_3 (T : Txt K mg A) : Made K A 3 A.c_UnknownMember := ⟨T.ei_UnknownMember, T.kv_UnknownMember, T.kk_UnknownMember_StreamError, T.kk_UnknownMember_InvalidNumber, T.kk_UnknownMember_InvalidState, T.kk_UnknownMember_UnknownMember, T.kk_UnknownMember_TooManyLost, T.kk_UnknownMember_NothingToUndo, T.kk_UnknownMember_Unreadable⟩
theorem made_4 (T : Txt K mg A) : Made K A 4 A.c_TooManyLost := ⟨T.ei_TooManyLost, T.kv_TooManyLost, T.kk_TooManyLost_StreamError, T.kk_TooManyLost_InvalidNumber, T.kk_TooManyLost_InvalidState, T.kk_TooManyLost_UnknownMember, T.kk_TooManyLost_TooManyLost, T.kk_TooManyLost_NothingToUndo, T.kk_TooManyLost_Unreadable⟩
theorem made_5 (T : Txt K mg A) : Made K A 5 A.c_NothingToUndo := ⟨T.ei_NothingToUndo, T.kv_NothingToUndo, T.kk_NothingToUndo_StreamError, T.kk_NothingToUndo_InvalidNumber, T.kk_NothingToUndo_InvalidState, T.kk_NothingToUndo_UnknownMember, T.kk_NothingToUndo_TooManyLost, T.kk_NothingToUndo_NothingToUndo, T.kk_NothingToUndo_Unreadable⟩
theorem made_6 (T : Txt K mg A) : Made K A 6 A.c_Unreadable := ⟨T.ei_Unreadable, T.kv_Unreadable, T.kk_Unreadable_StreamError, T.kk_Unreadable_InvalidNumber, T.kk_Unreadable_InvalidState, T.kk_Unreadable_UnknownMember, T.kk_Unreadable_TooManyLost, T.kk_Unreadable_NothingToUndo, T.kk_Unreadable_Unreadable⟩
theorem pick_mk {C : Addr} {b : Bool} {σ : L2.St} {H : Hp} {Q : VK} {v : V} (h1 : σ[1]? = some (some v)) (h2 : σ[2]? = some (some (.bl b))) (k : ∀ a d H2, H a = none → H d = none → d ≠ a → Same H H2 → ErAt H2 a C d v → Q (.ref a) H2) :
    tIf (tB (tVar 2)) (tMkV C (tVar 1)) (tMkV C (tVar 1)) σ H Q := by
  refine ⟨_, h2, b, rfl, ?_⟩
  cases b with
  | true => exact ⟨_, h1, k⟩
  | false => exact ⟨_, h1, k⟩
theorem ok_constructed (T : Txt K mg A) : FnOk P w K mg base CX0 4 A.f_constructed A.d_constructed ["rank", "thing", "named"] (spMade K A) := by
  refine T.F_constructed.ok sc_constructed (fun vs H Q E h => ?_) (fun cdv Ar outer s H vs Q E hr h => ?_)
  · obtain ⟨r, v, b, rfl, _⟩ := h
    rfl
  · obtain ⟨r, v, b, rfl, r0, r7, k⟩ := h
    refine ⟨_, (pss_cons (ps_if (pt_cmpR op_eq (pv 0) pe_int (nomark _)) (pss_one (ps_ret (pe_ifExp (pt_val (pv 2)) (pe_mkVK T.x_StreamError (kbe_StreamError T) (hr.mono (by decide)) rfl (pv 1)) (pe_mkV T.x_StreamError (hr.mono (by decide)) rfl (pv 1))))) pss_nil)
      (pss_cons (ps_if (pt_cmpR op_eq (pv 0) pe_int (nomark _)) (pss_one (ps_ret (pe_ifExp (pt_val (pv 2)) (pe_mkVK T.x_InvalidNumber (kbe_InvalidNumber T) (hr.mono (by decide)) rfl (pv 1)) (pe_mkV T.x_InvalidNumber (hr.mono (by decide)) rfl (pv 1))))) pss_nil)
      (pss_cons (ps_if (pt_cmpR op_eq (pv 0) pe_int (nomark _)) (pss_one (ps_ret (pe_ifExp (pt_val (pv 2)) (pe_mkVK T.x_InvalidState (kbe_InvalidState T) (hr.mono (by decide)) rfl (pv 1)) (pe_mkV T.x_InvalidState (hr.mono (by decide)) rfl (pv 1))))) pss_nil)
      (pss_cons (ps_if (pt_cmpR op_eq (pv 0) pe_int (nomark _)) (pss_one (ps_ret (pe_ifExp (pt_val (pv 2)) (pe_mkVK T.x_UnknownMember (kbe_UnknownMember T) (hr.mono (by decide)) rfl (pv 1)) (pe_mkV T.x_UnknownMember (hr.mono (by decide)) rfl (pv 1))))) pss_nil)
      (pss_cons (ps_if (pt_cmpR op_eq (pv 0) pe_int (nomark _)) (pss_one (ps_ret (pe_ifExp (pt_val (pv 2)) (pe_mkVK T.x_TooManyLost (kbe_TooManyLost T) (hr.mono (by decide)) rfl (pv 1)) (pe_mkV T.x_TooManyLost (hr.mono (by decide)) rfl (pv 1))))) pss_nil)
      (pss_cons (ps_if (pt_cmpR op_eq (pv 0) pe_int (nomark _)) (pss_one (ps_ret (pe_ifExp (pt_val (pv 2)) (pe_mkVK T.x_NothingToUndo (kbe_NothingToUndo T) (hr.mono (by decide)) rfl (pv 1)) (pe_mkV T.x_NothingToUndo (hr.mono (by decide)) rfl (pv 1))))) pss_nil)
      (pss_one (ps_ret (pe_ifExp (pt_val (pv 2)) (pe_mkVK T.x_Unreadable (kbe_Unreadable T) (hr.mono (by decide)) rfl (pv 1)) (pe_mkV T.x_Unreadable (hr.mono (by decide)) rfl (pv 1))))))))))), ?_⟩
    refine ⟨_, rfl, rfl, _, rfl, ite2 (fun c => ?_) (fun c0 => ?_)⟩
    · have e : r = 0 := V.int.inj (of_decide_eq_true c)
      subst e
      exact pick_mk rfl rfl fun a d H2 na nd ne sm er => k a _ d H2 sm na er (made_0 T)
    refine ⟨_, rfl, rfl, _, rfl, ite2 (fun c => ?_) (fun c1 => ?_)⟩
    · have e : r = 1 := V.int.inj (of_decide_eq_true c)
      subst e
      exact pick_mk rfl rfl fun a d H2 na nd ne sm er => k a _ d H2 sm na er (made_1 T)
    refine ⟨_, rfl, rfl, _, rfl, ite2 (fun c => ?_) (fun c2 => ?_)⟩
    · have e : r = 2 := V.int.inj (of_decide_eq_true c)
      subst e
      exact pick_mk rfl rfl fun a d H2 na nd ne sm er => k a _ d H2 sm na er (made_2 T)
    refine ⟨_, rfl, rfl, _, rfl, ite2 (fun c => ?_) (fun c3 => ?_)⟩
    · have e : r = 3 := V.int.inj (of_decide_eq_true c)
      subst e
      exact pick_mk rfl rfl fun a d H2 na nd ne sm er => k a _ d H2 sm na er (made_3 T)
    refine ⟨_, rfl, rfl, _, rfl, ite2 (fun c => ?_) (fun c4 => ?_)⟩
    · have e : r = 4 := V.int.inj (of_decide_eq_true c)
      subst e
      exact pick_mk rfl rfl fun a d H2 na nd ne sm er => k a _ d H2 sm na er (made_4 T)
    refine ⟨_, rfl, rfl, _, rfl, ite2 (fun c => ?_) (fun c5 => ?_)⟩
    · have e : r = 5 := V.int.inj (of_decide_eq_true c)
      subst e
      exact pick_mk rfl rfl fun a d H2 na nd ne sm er => k a _ d H2 sm na er (made_5 T)
    have ns : ∀ j : Int, ¬ decide (V.int r = V.int j) = true → r ≠ j := fun j c e => c (decide_eq_true (congrArg V.int e))
    have e : r = 6 := by
      have := ns _ c0
      have := ns _ c1
      have := ns _ c2
      have := ns _ c3
      have := ns _ c4
      have := ns _ c5
      omega
    subst e
    exact pick_mk rfl rfl fun a d H2 na nd ne sm er => k a _ d H2 sm na er (made_6 T)
theorem ok_classes (T : Txt K mg A) : FnOk P w K mg base CX0 1 A.f_classes A.d_classes ["kept"] (spClasses K A) := by
  refine T.F_classes.ok sc_classes (fun vs H Q E h => ?_) (fun cdv Ar outer s H vs Q E hr h => ?_)
  · obtain ⟨a, C, d, v, r, rfl, _⟩ := h
    rfl
  · obtain ⟨a, C, d, v, r, rfl, ea, m, k⟩ := h
    refine ⟨_, (pss_cons (ps_set (i := 1) sc_classes.nd rfl (Or.inl rfl) (pe_lst (pa_cons (pe_callB call_isX rfl T.b_isinstance (by decide +kernel) (pa_cons (pv 0) (pa_cons (pe_bltn (v := .ty "ValueError") (u := .type "ValueError") rfl T.b_ValueError (by decide +kernel) rfl) pa_nil))) (pa_cons (pe_callB call_isX rfl T.b_isinstance (by decide +kernel) (pa_cons (pv 0) (pa_cons (pe_glob (v := .ref _) rfl T.g_StreamError rfl) pa_nil))) (pa_cons (pe_callB call_isX rfl T.b_isinstance (by decide +kernel) (pa_cons (pv 0) (pa_cons (pe_glob (v := .ref _) rfl T.g_InvalidNumber rfl) pa_nil))) pa_nil)))))
      (pss_cons (ps_set (i := 1) sc_classes.nd rfl (Or.inl rfl) (pe_op op_cat (pv 1) (pe_lst (pa_cons (pe_callB call_isX rfl T.b_isinstance (by decide +kernel) (pa_cons (pv 0) (pa_cons (pe_glob (v := .ref _) rfl T.g_InvalidState rfl) pa_nil))) (pa_cons (pe_callB call_isX rfl T.b_isinstance (by decide +kernel) (pa_cons (pv 0) (pa_cons (pe_glob (v := .ref _) rfl T.g_UnknownMember rfl) pa_nil))) pa_nil)))))
      (pss_cons (ps_set (i := 1) sc_classes.nd rfl (Or.inl rfl) (pe_op op_cat (pv 1) (pe_lst (pa_cons (pe_callB call_isX rfl T.b_isinstance (by decide +kernel) (pa_cons (pv 0) (pa_cons (pe_glob (v := .ref _) rfl T.g_TooManyLost rfl) pa_nil))) (pa_cons (pe_callB call_isX rfl T.b_isinstance (by decide +kernel) (pa_cons (pv 0) (pa_cons (pe_glob (v := .ref _) rfl T.g_NothingToUndo rfl) pa_nil))) pa_nil)))))
      (pss_one (ps_ret (pe_op op_cat (pv 1) (pe_lst (pa_cons (pe_callB call_isX rfl T.b_isinstance (by decide +kernel) (pa_cons (pv 0) (pa_cons (pe_glob (v := .ref _) rfl T.g_Unreadable rfl) pa_nil))) pa_nil)))))))), ?_⟩
    have few1 : 1 ≤ sizeLine := by rw [sizeLine_eq]; decide
    have few2 : 2 ≤ sizeLine := by rw [sizeLine_eq]; decide
    have few3 : 3 ≤ sizeLine := by rw [sizeLine_eq]; decide
    have few5 : 5 ≤ sizeLine := by rw [sizeLine_eq]; decide
    have few7 : 7 ≤ sizeLine := by rw [sizeLine_eq]; decide
    have few8 : 8 ≤ sizeLine := by rw [sizeLine_eq]; decide
    refine ⟨_, rfl, a, C, d, v, _, _, _, rfl, .ty _, ea, m.ei, m.kv, _, rfl, a, C, d, v, _, _, _, rfl, .own _, ea, m.ei, m.k0, _, rfl, a, C, d, v, _, _, _, rfl, .own _, ea, m.ei, m.k1, few3, fun L1 n1 => ?_⟩
    have s1 : Same H (upd H L1 (.lst [.bl true, .bl true, .bl (r == 1)])) := Same.upd n1
    have hL1 : upd H L1 (.lst [.bl true, .bl true, .bl (r == 1)]) L1 = some (.lst [.bl true, .bl true, .bl (r == 1)]) := upd_same
    generalize upd H L1 (.lst [.bl true, .bl true, .bl (r == 1)]) = H1 at s1 hL1 ⊢
    have ea1 := ea.keep s1
    refine ⟨_, rfl, _, rfl, a, C, d, v, _, _, _, rfl, .own _, ea1, m.ei, m.k2, _, rfl, a, C, d, v, _, _, _, rfl, .own _, ea1, m.ei, m.k3, few2, fun L2 n2 => ?_⟩
    have s2 : Same H1 (upd H1 L2 (.lst [.bl (r == 2), .bl (r == 3)])) := Same.upd n2
    have hL2 : upd H1 L2 (.lst [.bl (r == 2), .bl (r == 3)]) L2 = some (.lst [.bl (r == 2), .bl (r == 3)]) := upd_same
    generalize upd H1 L2 (.lst [.bl (r == 2), .bl (r == 3)]) = H2 at s2 hL2 ⊢
    refine ⟨L1, L2, _, _, rfl, rfl, s2 _ _ hL1, hL2, few5, fun L3 n3 => ?_⟩
    have s3 : Same H2 (upd H2 L3 (.lst ([.bl true, .bl true, .bl (r == 1)] ++ [.bl (r == 2), .bl (r == 3)]))) := Same.upd n3
    have hL3 : upd H2 L3 (.lst ([.bl true, .bl true, .bl (r == 1)] ++ [.bl (r == 2), .bl (r == 3)])) L3 = some (.lst ([.bl true, .bl true, .bl (r == 1)] ++ [.bl (r == 2), .bl (r == 3)])) := upd_same
    generalize upd H2 L3 (.lst ([.bl true, .bl true, .bl (r == 1)] ++ [.bl (r == 2), .bl (r == 3)])) = H3 at s3 hL3 ⊢
    have ea3 := (ea1.keep s2).keep s3
    refine ⟨_, rfl, _, rfl, a, C, d, v, _, _, _, rfl, .own _, ea3, m.ei, m.k4, _, rfl, a, C, d, v, _, _, _, rfl, .own _, ea3, m.ei, m.k5, few2, fun L4 n4 => ?_⟩
    have s4 : Same H3 (upd H3 L4 (.lst [.bl (r == 4), .bl (r == 5)])) := Same.upd n4
    have hL4 : upd H3 L4 (.lst [.bl (r == 4), .bl (r == 5)]) L4 = some (.lst [.bl (r == 4), .bl (r == 5)]) := upd_same
    generalize upd H3 L4 (.lst [.bl (r == 4), .bl (r == 5)]) = H4 at s4 hL4 ⊢
    refine ⟨L3, L4, _, _, rfl, rfl, s4 _ _ hL3, hL4, few7, fun L5 n5 => ?_⟩
    have s5 : Same H4 (upd H4 L5 (.lst ([.bl true, .bl true, .bl (r == 1), .bl (r == 2), .bl (r == 3)] ++ [.bl (r == 4), .bl (r == 5)]))) := Same.upd n5
    have hL5 : upd H4 L5 (.lst ([.bl true, .bl true, .bl (r == 1), .bl (r == 2), .bl (r == 3)] ++ [.bl (r == 4), .bl (r == 5)])) L5 = some (.lst ([.bl true, .bl true, .bl (r == 1), .bl (r == 2), .bl (r == 3)] ++ [.bl (r == 4), .bl (r == 5)])) := upd_same
    have ea5 := (ea3.keep s4).keep s5
    refine ⟨_, rfl, _, rfl, a, C, d, v, _, _, _, rfl, .own _, ea5, m.ei, m.k6, few1, fun L6 n6 => ?_⟩
    have s6 := Same.upd (o := .lst [.bl (r == 6)]) n6
    refine ⟨L5, L6, _, _, rfl, rfl, s6 _ _ hL5, upd_same, few8, fun L7 n7 => ?_⟩
    exact k L7 _ (((((s1.trans s2).trans s3).trans s4).trans s5).trans (s6.trans (Same.upd n7))) upd_same
theorem ok_thing (T : Txt K mg A) : FnOk P w K mg base CX0 3 A.f_thing A.d_thing ["purse"] spThing := by
  refine T.F_thing.ok sc_thing (fun vs H Q E h => ?_) (fun cdv Ar outer s H vs Q E hr h => ?_)
  · obtain ⟨p, o, n, rfl, _⟩ := h
    rfl
  · obtain ⟨p, o, n, rfl, hp, pu, hn, k⟩ := h
    refine ⟨_, (pss_cons (ps_set (i := 1) sc_thing.nd rfl (Or.inl rfl) (pe_op op_sub (pe_call (ok_coin T) (hr.mono (by decide)) rfl T.g_coin T.F_coin.kp T.B_coin .nil pass0 (pa_cons (pv 0) (pa_cons (pe_op op_powW pe_int pe_int) pa_nil))) (pe_op op_powW pe_int pe_int)))
      (pss_cons (ps_set (i := 2) sc_thing.nd rfl (Or.inl rfl) (pe_slice sl_str pe_str po_none (po_some (pe_call (ok_coin T) (hr.mono (by decide)) rfl T.g_coin T.F_coin.kp T.B_coin .nil pass0 (pa_cons (pv 0) (pa_cons pe_int pa_nil))))))
      (pss_cons (ps_set (i := 3) sc_thing.nd rfl (Or.inl rfl) (pe_lst (pa_cons (pv 1) (pa_cons (pv 2) (pa_cons pe_non (pa_cons pe_bl (pa_cons (pe_tup (pa_cons (pv 1) (pa_cons (pv 2) pa_nil))) (pa_cons (pe_lst (pa_cons (pv 1) (pa_cons (pe_lst (pa_cons (pv 2) pa_nil)) pa_nil))) (pa_cons pe_int (pa_cons (pe_lst pa_nil) (pa_cons pe_dnewK pa_nil)))))))))))
      (pss_one (ps_ret (pe_ix ix_list (pv 3) (pe_call (ok_coin T) (hr.mono (by decide)) rfl T.g_coin T.F_coin.kp T.B_coin .nil pass0 (pa_cons (pv 0) (pa_cons (pe_callB call_len rfl T.b_len (by decide +kernel) (pa_cons (pv 3) pa_nil)) pa_nil))) (fun _ _ => rfl))))))), ?_⟩
    have few1 : 1 ≤ sizeLine := by rw [sizeLine_eq]; decide
    have few2 : 2 ≤ sizeLine := by rw [sizeLine_eq]; decide
    have few9 : 9 ≤ sizeLine := by rw [sizeLine_eq]; decide
    refine ⟨_, rfl, _, _, rfl, rfl, ⟨by decide, by decide, by decide⟩, p, o, n, _, rfl, hp, pu, by omega, by decide, by decide, fun k0 u0 g0 g1 pu0 => ⟨_, _, rfl, rfl, ⟨by decide, by decide, by decide⟩, _, _, rfl, rfl, ?_⟩⟩
    refine ⟨_, rfl, p, u0, n + 1, 12, rfl, upd_same, pu0, by omega, by decide, by decide, fun k1 u1 f0 f1 pu1 => ⟨_, rfl, _, rfl, (by show (11 : Nat) ≤ sizeLine; rw [sizeLine_eq]; decide), ?_⟩⟩
    have b1 : But p H (upd (upd H p u0) p u1) := But.upd.trans But.upd
    have hp1 : upd (upd H p u0) p u1 p = some u1 := upd_same
    generalize upd (upd H p u0) p u1 = H1 at b1 hp1 ⊢
    have hW := okW_cut k1 f0 f1
    have hN : small (k0 - 10 ^ (8 : Int).toNat) := by
      have h1 : k0 < 10 ^ 9 := g1
      have e : (10 : Int) ^ (8 : Int).toNat = 100000000 := by decide
      rw [e]
      exact small_40 (by omega) (by omega)
    show gName 2 (.str (cutS "asking-10.x" none (some k1))) _ _ _
    generalize cutS "asking-10.x" none (some k1) = W at hW ⊢
    show (fun σ H' => _) ([some (.ref p), some (.int (k0 - 10 ^ (8 : Int).toNat)), some (.str W), none] : L2.St) H1
    generalize k0 - 10 ^ (8 : Int).toNat = num at hN ⊢
    refine ⟨_, rfl, _, rfl, _, rfl, _, rfl, few2, fun T nT => ⟨_, rfl, _, rfl, few1, fun L2 n2 => ⟨few2, fun L1 n1 => ⟨Nat.zero_le _, fun L0 n0 D nD => ⟨few9, fun L nL => ?_⟩⟩⟩⟩⟩
    have sT : Same H1 (upd H1 T (.tup [.int num, .str W])) := Same.upd nT
    have s2 := Same.then sT (o := .lst [.str W]) n2
    have s3 := Same.then s2 (o := .lst [.int num, .ref L2]) n1
    have s4 := Same.then s3 (o := .lst []) n0
    have s5 := Same.then s4 (o := .dK []) nD
    have s6 := Same.then s5 (o := .lst [V.int num, V.str W, V.non, V.bl true, V.ref T, V.ref L1, V.int 0, V.ref L0, V.ref D]) nL
    have fr : ∀ {x : Addr} {Hi : Hp}, Same H1 Hi → Hi x = none → H x = none ∧ x ≠ p := fun {x Hi} sm e => by
      have ne : x ≠ p := (ne_of_none (sm _ _ hp1) e).symm
      exact ⟨b1.free (sm.free e) ne, ne⟩
    obtain ⟨fT, pT⟩ := fr (Same.refl _) nT
    obtain ⟨f2, p2⟩ := fr sT n2
    obtain ⟨f1', p1⟩ := fr s2 n1
    obtain ⟨f0', p0⟩ := fr s3 n0
    obtain ⟨fD, pD⟩ := fr s4 nD
    have sm1 := Same.trans (Same.upd (o := .lst [.int num, .ref L2]) n1) (Same.trans (Same.upd (o := .lst []) n0) (Same.trans (Same.upd (o := .dK []) nD) (Same.upd (o := .lst [V.int num, V.str W, V.non, V.bl true, V.ref T, V.ref L1, V.int 0, V.ref L0, V.ref D]) nL)))
    have hT7 := (Same.trans (Same.upd (o := .lst [.str W]) n2) sm1) T _ upd_same
    have h27 := sm1 L2 _ upd_same
    have h17 := (Same.trans (Same.upd (o := .lst []) n0) (Same.trans (Same.upd (o := .dK []) nD) (Same.upd (o := .lst [V.int num, V.str W, V.non, V.bl true, V.ref T, V.ref L1, V.int 0, V.ref L0, V.ref D]) nL))) L1 _ upd_same
    have h07 := (Same.trans (Same.upd (o := .dK []) nD) (Same.upd (o := .lst [V.int num, V.str W, V.non, V.bl true, V.ref T, V.ref L1, V.int 0, V.ref L0, V.ref D]) nL)) L0 _ upd_same
    have hD7 := Same.upd (o := .lst [V.int num, V.str W, V.non, V.bl true, V.ref T, V.ref L1, V.int 0, V.ref L0, V.ref D]) nL D _ upd_same
    have hp7 := s6 _ _ hp1
    have pL : L ≠ p := (ne_of_none (s5 _ _ hp1) nL).symm
    have hL7 : (upd (upd (upd (upd (upd (upd H1 T (HO.tup [V.int num, V.str W])) L2 (HO.lst [V.str W])) L1 (HO.lst [V.int num, V.ref L2])) L0 (HO.lst [])) D (HO.dK [])) L (HO.lst [V.int num, V.str W, V.non, V.bl true, V.ref T, V.ref L1, V.int 0, V.ref L0, V.ref D])) L = some (HO.lst [V.int num, V.str W, V.non, V.bl true, V.ref T, V.ref L1, V.int 0, V.ref L0, V.ref D]) := upd_same
    generalize (upd (upd (upd (upd (upd (upd H1 T (HO.tup [V.int num, V.str W])) L2 (HO.lst [V.str W])) L1 (HO.lst [V.int num, V.ref L2])) L0 (HO.lst [])) D (HO.dK [])) L (HO.lst [V.int num, V.str W, V.non, V.bl true, V.ref T, V.ref L1, V.int 0, V.ref L0, V.ref D])) = H7 at s6 hT7 h27 h17 h07 hD7 hp7 hL7 ⊢
    refine ⟨_, rfl, _, rfl, _, rfl, _, _, rfl, .inl ⟨_, SqL.of hL7, rfl⟩, p, u1, n + 1 + 1, 9, rfl, hp7, pu1, by omega, by decide, by decide, fun k2 u2 e0 e1 pu2 => ?_⟩
    have bF : But p H (upd H7 p u2) := (b1.trans (But.same s6)).trans But.upd
    have hpF : upd H7 p u2 p = some u2 := upd_same
    have puF : Pu (n + 3) u2 := pu2.mono (by omega)
    have hLF : SqL K (upd H7 p u2) L [V.int num, V.str W, V.non, V.bl true, V.ref T, V.ref L1, V.int 0, V.ref L0, V.ref D] := SqL.of (by rw [upd_ne pL]; exact hL7)
    have hTF : upd H7 p u2 T = _ := (upd_ne pT).trans hT7
    have h2F : upd H7 p u2 L2 = _ := (upd_ne p2).trans h27
    have h1F : upd H7 p u2 L1 = _ := (upd_ne p1).trans h17
    have h0F : upd H7 p u2 L0 = _ := (upd_ne p0).trans h07
    have hDF : upd H7 p u2 D = _ := (upd_ne pD).trans hD7
    have cs : k2 = 0 ∨ k2 = 1 ∨ k2 = 2 ∨ k2 = 3 ∨ k2 = 4 ∨ k2 = 5 ∨ k2 = 6 ∨ k2 = 7 ∨ k2 = 8 := by omega
    rcases cs with rfl | rfl | rfl | rfl | rfl | rfl | rfl | rfl | rfl
    · exact ⟨L, _, _, _, rfl, rfl, hLF, atI_nat (j := 0) rfl, k (.nu num) _ u2 hpF puF bF hN (fun b hb => by cases hb)⟩
    · exact ⟨L, _, _, _, rfl, rfl, hLF, atI_nat (j := 1) rfl, k (.wd W) _ u2 hpF puF bF hW (fun b hb => by cases hb)⟩
    · exact ⟨L, _, _, _, rfl, rfl, hLF, atI_nat (j := 2) rfl, k .no _ u2 hpF puF bF trivial (fun b hb => by cases hb)⟩
    · exact ⟨L, _, _, _, rfl, rfl, hLF, atI_nat (j := 3) rfl, k .yes _ u2 hpF puF bF trivial (fun b hb => by cases hb)⟩
    · exact ⟨L, _, _, _, rfl, rfl, hLF, atI_nat (j := 4) rfl, k (.tp T num W) _ u2 hpF puF bF ⟨hN, hW, hTF⟩ (fun b hb => by rw [List.mem_singleton.mp hb]; exact fT)⟩
    · refine ⟨L, _, _, _, rfl, rfl, hLF, atI_nat (j := 5) rfl, k (.pr L1 L2 num W) _ u2 hpF puF bF ⟨hN, hW, h1F, h2F⟩ (fun b hb => ?_)⟩
      rcases List.mem_cons.mp hb with e | hb
      · rw [e]; exact f1'
      · rw [List.mem_singleton.mp hb]; exact f2
    · exact ⟨L, _, _, _, rfl, rfl, hLF, atI_nat (j := 6) rfl, k (.nu 0) _ u2 hpF puF bF (show small 0 by unfold small; decide) (fun b hb => by cases hb)⟩
    · exact ⟨L, _, _, _, rfl, rfl, hLF, atI_nat (j := 7) rfl, k (.em L0) _ u2 hpF puF bF h0F (fun b hb => by rw [List.mem_singleton.mp hb]; exact f0')⟩
    · exact ⟨L, _, _, _, rfl, rfl, hLF, atI_nat (j := 8) rfl, k (.dc D) _ u2 hpF puF bF hDF (fun b hb => by rw [List.mem_singleton.mp hb]; exact fD)⟩
theorem okG_right (T : Txt K mg A) : FnG P w K mg base CX0 7 A.f_right A.d_right ["purse"] spRight := by
  refine fnG_ok T.F_right sc_right (fun vs H Q E h => ?_) (fun cdv Ar outer s H vs Q E hg h => ?_)
  · obtain ⟨p, o, n, rfl, _⟩ := h
    rfl
  · obtain ⟨p, o, n, rfl, hp, pu, hn, k⟩ := h
    have hr := hg.room
    have few2 : 2 ≤ sizeLine := by rw [sizeLine_eq]; decide
    refine ⟨_, (pss_cons (ps_par (i := 1) (j := 2) rfl sc_right.nd rfl rfl (by decide) rfl rfl (pa_cons (pe_lst pa_nil) (pa_cons (pe_lst pa_nil) pa_nil)) rfl)
      (pss_cons (ps_for PassesOwn.never rfl (pi_list (pe_call (ok_wv_stirred T) (hr.mono (by decide)) rfl T.g_wv_stirred T.F_wv_stirred.kp T.B_wv_stirred .nil pass0 (pa_cons (pv 0) (pa_cons (pe_listRg rfl rfl T.b_list (prg_1 rfl T.b_range pe_int)) pa_nil)))) (pg_name (i := 3) sc_right.nd rfl (Or.inr rfl))
      (pss_cons (ps_set (i := 4) sc_right.nd rfl (Or.inl rfl) (pe_call (ok_thing T) (hr.mono (by decide)) rfl T.g_thing T.F_thing.kp T.B_thing .nil pass0 (pa_cons (pv 0) pa_nil)))
      (pss_cons (ps_set (i := 5) sc_right.nd rfl (Or.inl rfl) (pe_call (ok_constructed T) (hr.mono (by decide)) rfl T.g_constructed T.F_constructed.kp T.B_constructed .nil pass0 (pa_cons (pv 3) (pa_cons (pv 4) (pa_cons (pe_cmpR op_eq (pe_call (ok_coin T) (hr.mono (by decide)) rfl T.g_coin T.F_coin.kp T.B_coin .nil pass0 (pa_cons (pv 0) (pa_cons pe_int pa_nil))) pe_int (nomark _)) pa_nil)))))
      (pss_cons (ps_if (pt_cmpR (op_neD hr.units) (pe_call (ok_classes T) (hr.mono (by decide)) rfl T.g_classes T.F_classes.kp T.B_classes .nil pass0 (pa_cons (pv 5) pa_nil)) (pe_op op_cat (pe_lst (pa_cons pe_bl (pa_cons pe_bl pa_nil))) (pe_lc (own := [("at", 6)]) (g := gName 6) (tt := tYes) rfl sc_right.nd (pi_range2 rfl T.b_range (pa_cons pe_int (pa_cons pe_int pa_nil))) (blkOk_by (N := ["purse", "kept", "things", "rank", "thing", "made", "at"]) (sc := defScope s_right) (by decide +kernel)) (fun _ _ _ _ _ => pg_name (i := 6) sc_right.nd rfl (Or.inl rfl)) (fun _ _ _ _ _ => pts_nil) (fun _ _ _ _ _ => by exact (pe_cmpR op_eq (pv 3) (pv 6) (nomark _))))) (nomark _)) (pss_one (ps_ret pe_bl)) pss_nil)
      (pss_cons (ps_expr (pe_bm PySem.F.plainAttrs_list PySem.F.slot_list_append PySem.F.type_list_append mt_append (pv 1) (pa_cons (pv 5) pa_nil)))
      (pss_one (ps_expr (pe_bm PySem.F.plainAttrs_list PySem.F.slot_list_append PySem.F.type_list_append mt_append (pv 2) (pa_cons (pv 4) pa_nil)))))))))
      (pss_cons (ps_for PassesOwn.never rfl (pi_list (pv 2)) (pg_name (i := 4) sc_right.nd rfl (Or.inl rfl))
      (pss_one (ps_if (pt_val (pe_callB call_isi rfl T.b_isinstance (by decide +kernel) (pa_cons (pv 4) (pa_cons (pe_bltn (v := .ty "list") (u := .type "list") rfl T.b_list (by decide +kernel) rfl) pa_nil)))) (pss_one (ps_expr (pe_bm PySem.F.plainAttrs_list PySem.F.slot_list_append PySem.F.type_list_append mt_append (pv 4) (pa_cons (pe_callB call_len rfl T.b_len (by decide +kernel) (pa_cons (pv 4) pa_nil)) pa_nil)))) pss_nil)))
      (pss_one (ps_ret (pe_cmpR op_eq (pe_callB (call_reprT hg) rfl T.b_repr (by decide +kernel) (pa_cons (pe_lc (own := [("made", 5)]) (g := gName 5) (tt := tYes) rfl sc_right.nd (pi_list (pv 1)) (blkOk_by (N := ["purse", "kept", "things", "rank", "thing", "made", "at"]) (sc := defScope s_right) (by decide +kernel)) (fun _ _ _ _ _ => pg_name (i := 5) sc_right.nd rfl (Or.inl rfl)) (fun _ _ _ _ _ => pts_nil) (fun _ _ _ _ _ => by exact (show PE _ _ (tXv K (tVar 5)) from (pe_xv (pv 5))))) pa_nil)) (pe_callB (call_reprT hg) rfl T.b_repr (by decide +kernel) (pa_cons (pv 2) pa_nil)) (nomark _))))))), ?_⟩
    refine ⟨Nat.zero_le _, fun KL nKL => ⟨Nat.zero_le _, fun TL nTL => ⟨_, _, rfl, ?_⟩⟩⟩
    have hK0 : upd H KL (.lst []) KL = some (.lst []) := upd_same
    have pK : KL ≠ p := (ne_of_none hp nKL).symm
    have TK : TL ≠ KL := (ne_of_none hK0 nTL).symm
    have fT : H TL = none := by rw [upd_ne TK] at nTL; exact nTL
    have pT : TL ≠ p := (ne_of_none hp fT).symm
    have s0 : Same H (upd (upd H KL (.lst [])) TL (.lst [])) := (Same.upd nKL).trans (Same.upd nTL)
    have hKL : upd (upd H KL (.lst [])) TL (.lst []) KL = some (.lst []) := by rw [upd_ne TK.symm]; exact hK0
    have hTL : upd (upd H KL (.lst [])) TL (.lst []) TL = some (.lst []) := upd_same
    generalize upd (upd H KL (.lst [])) TL (.lst []) = H0 at s0 hKL hTL ⊢
    refine ⟨_, rfl, 7, rfl, ⟨by decide, by decide, by decide, by decide, by decide⟩, fun Rg nRg => ⟨p, Rg, o, n, [0, 1, 2, 3, 4, 5, 6], rfl, (Same.upd nRg) _ _ (s0 _ _ hp), pu, by omega, SqL.of upd_same, by decide, fun R ms H1 u1 fR hR hlen hmem hu1 pu1 b1 => ?_⟩⟩
    have pRg : Rg ≠ p := (ne_of_none (s0 _ _ hp) nRg).symm
    have b01 : But p H0 H1 := (But.same (Same.upd nRg)).trans b1
    have bH1 : But p H H1 := (But.same s0).trans b01
    have hKL1 := b01 _ _ hKL pK
    have hTL1 := b01 _ _ hTL pT
    have rR : R ≠ p ∧ R ≠ KL ∧ R ≠ TL := by
      refine ⟨fun e => ?_, fun e => ?_, fun e => ?_⟩
      · rw [e, (Same.upd nRg) _ _ (s0 _ _ hp)] at fR; cases fR
      · rw [e, (Same.upd nRg) _ _ hKL] at fR; cases fR
      · rw [e, (Same.upd nRg) _ _ hTL] at fR; cases fR
    have lenR : (ms.map V.int).length = 7 := by rw [List.length_map, hlen]; rfl
    refine ⟨R, rfl, ⟨_, SqL.of hR⟩, for_it (walk_list (K := K) (a := R) (xs := ms.map V.int)) (fun i σ Hi => ∃ (v3 v4 v5 : Option V) (ks : List Kp) (u : HO), σ = [some (.ref p), some (.ref KL), some (.ref TL), v3, v4, v5, none] ∧ Hi KL = some (.lst (ks.map fun k => V.ref k.e)) ∧
        Hi TL = some (.lst (ks.map fun k => k.t.val)) ∧ ks.length = i ∧ Hi p = some u ∧ Pu (n + 7 + 4 * i) u ∧ Hi R = some (.lst (ms.map V.int)) ∧ (∀ k ∈ ks, KpAt K false Hi k ∧ Apart H p KL TL k) ∧ Sep ks ∧ But p H Hi)
      ⟨none, none, none, [], u1, rfl, hKL1, hTL1, rfl, hu1, by simpa using pu1, hR, fun k hk => (by simp at hk), fun (i j : Nat) (x y : Kp) _ hi => (by simp at hi), bH1⟩ (fun i σ Hi _ hP => ?_) ?_ ?_⟩
    · obtain ⟨v3, v4, v5, ks, u, rfl, h1, h2, h3, h4, h5, h6, h7, h8⟩ := hP
      exact SqL.of h6
    · rintro i x σ Hi0 Hi hi ⟨v3, v4, v5, ks, u, rfl, hK, hT, hks, hu, puu, hRi, hall, sep, bt⟩ ⟨rfl, hx⟩
      have i7 : i < 7 := by omega
      obtain ⟨r, hr1, rfl⟩ := map_get hx
      have rm := hmem r (List.mem_of_getElem? hr1)
      have r07 : 0 ≤ r ∧ r < 7 := by
        simp at rm
        omega
      -- thing
      refine ⟨_, rfl, p, u, n + 7 + 4 * i, rfl, hu, puu, by omega, fun t Ha ua hua pua ba tr fr => ?_⟩
      -- made
      refine ⟨_, rfl, _, rfl, _, rfl, p, ua, n + 7 + 4 * i + 3, 2, rfl, hua, pua, by omega, by decide, by decide, fun k2 ub c0 c1 pub => ⟨rfl, r, t.val, _, rfl, r07.1, r07.2, fun a C d Hc smc na er m => ?_⟩⟩
      refine ⟨_, rfl, a, C, d, t.val, r, rfl, er, m, fun l4 H4 sm4 hl4 => ⟨few2, fun L1 n1 => ⟨1, 7, rfl, ⟨by decide, by decide, by decide, by decide⟩, fun D nD => ?_⟩⟩⟩
      have s5 : Same H4 (upd H4 L1 (.lst [.bl true, .bl true])) := Same.upd n1
      have hL1 : upd H4 L1 (.lst [.bl true, .bl true]) L1 = some (.lst [.bl true, .bl true]) := upd_same
      generalize upd H4 L1 (.lst [.bl true, .bl true]) = H5 at s5 hL1 nD ⊢
      refine lc_it (walk_range (lo := 1) (n := ((7 : Int) - 1).toNat)) (fun j Hj => Hj D = some (.lst ((List.range j).map fun i => V.bl (r == 1 + ((i : Nat) : Int)))) ∧ Same H5 Hj) ⟨upd_same, Same.upd nD⟩ (fun _ _ _ _ => trivial) ?_ ?_
      · rintro j x Hj0 Hj hj ⟨hD, sm⟩ ⟨rfl, rfl⟩
        refine ⟨rfl, _, rfl, _, rfl, rfl, _, hD, ?_, ?_, fun b o' e => by rw [upd_ne (ne_of_none e nD)]; exact sm b o' e⟩
        · rw [List.length_map, List.length_range]
          exact few (k := 100) (by have h6 : j < 6 := hj; omega)
        · rw [upd_same, List.range_succ, List.map_append, dec_int]
          rfl
      · rintro Hj ⟨hD, sm⟩
        refine ⟨L1, D, _, _, rfl, rfl, sm _ _ hL1, hD, (by show 8 ≤ sizeLine; rw [sizeLine_eq]; decide), fun L2 n2 => ?_⟩
        refine ⟨.list (([true, true] ++ bsOf r).map .bool), .list (([true, true] ++ bsOf r).map .bool), .lst (SqL.of (((s5.trans sm).trans (Same.upd n2)) _ _ hl4)) (dpAll_bls _), .lst (SqL.of upd_same) (dpAll_bls ([true, true] ++ bsOf r)), shaped_bls _, shaped_bls _, _, rfl, ?_⟩
        refine ite2 (fun c => ?_) (fun _ => ?_)
        · rw [eqv_tame (tame_bls _)] at c
          cases c
        · have sc6 : Same Hc (upd Hj L2 (.lst ([.bl true, .bl true] ++ (List.range ((7 : Int) - 1).toNat).map fun i => V.bl (r == 1 + ((i : Nat) : Int))))) := ((sm4.trans s5).trans sm).trans (Same.upd n2)
          generalize upd Hj L2 (.lst ([.bl true, .bl true] ++ (List.range ((7 : Int) - 1).toNat).map fun i => V.bl (r == 1 + ((i : Nat) : Int)))) = H6 at sc6 ⊢
          have sa6 : But p Ha H6 := But.upd.trans (But.same (smc.trans sc6))
          have bi6 : But p Hi H6 := ba.trans sa6
          have hK6 := bi6 _ _ hK pK
          have hT6 := bi6 _ _ hT pT
          have hp6 : H6 p = some ub := (smc.trans sc6) _ _ upd_same
          have er6 := er.keep sc6
          have lenK : (ks.map fun k => V.ref k.e).length < sizeLine := by rw [List.length_map]; exact few (k := 100) (by omega)
          have lenT : (ks.map fun k => k.t.val).length < sizeLine := by rw [List.length_map]; exact few (k := 100) (by omega)
          have hT6' : upd H6 KL (.lst ((ks.map fun k => V.ref k.e) ++ [.ref a])) TL = some (.lst (ks.map fun k => k.t.val)) := by rw [upd_ne TK]; exact hT6
          refine ⟨_, rfl, .inl ⟨rfl, _, SqL.of hK6⟩, _, rfl, KL, _, _, rfl, rfl, hK6, lenK, _, rfl, .inl ⟨rfl, _, SqL.of hT6'⟩, _, rfl, TL, _, _, rfl, rfl, hT6', lenT, ?_⟩
          have key : ∀ b o', H6 b = some o' → b ≠ KL → b ≠ TL → upd (upd H6 KL (.lst ((ks.map fun k => V.ref k.e) ++ [.ref a]))) TL (.lst ((ks.map fun k => k.t.val) ++ [t.val])) b = some o' := fun b o' q nk nt => by
            rw [upd_ne nt, upd_ne nk]
            exact q
          have keyI : ∀ b o', Hi b = some o' → b ≠ p → b ≠ KL → b ≠ TL → upd (upd H6 KL (.lst ((ks.map fun k => V.ref k.e) ++ [.ref a]))) TL (.lst ((ks.map fun k => k.t.val) ++ [t.val])) b = some o' := fun b o' q np nk nt => key b o' (bi6 b o' q np) nk nt
          have hKE : upd (upd H6 KL (.lst ((ks.map fun k => V.ref k.e) ++ [.ref a]))) TL (.lst ((ks.map fun k => k.t.val) ++ [t.val])) KL = some (.lst ((ks.map fun k => V.ref k.e) ++ [.ref a])) := by rw [upd_ne TK.symm]; exact upd_same
          have hTE : upd (upd H6 KL (.lst ((ks.map fun k => V.ref k.e) ++ [.ref a]))) TL (.lst ((ks.map fun k => k.t.val) ++ [t.val])) TL = some (.lst ((ks.map fun k => k.t.val) ++ [t.val])) := upd_same
          obtain ⟨ysp, eysp⟩ := puu.lst
          have hpl : Hi p = some (.lst ysp) := by rw [hu, eysp]
          have nl : ∀ {b l : Addr} {o' : HO} {xs : List V} {G : Hp}, G b = some o' → (∀ xs, o' ≠ .lst xs) → G l = some (.lst xs) → b ≠ l := fun {b l o' xs G} q n1 q2 e => by
            rw [e, q2] at q
            exact n1 _ (Option.some.inj q).symm
          have frN : ∀ b ∈ t.own, b ≠ p ∧ b ≠ KL ∧ b ≠ TL ∧ H b = none := fun b hb => by
            have hn := fr b hb
            have n1 : b ≠ p := (ne_of_none hu hn).symm
            exact ⟨n1, (ne_of_none hK hn).symm, (ne_of_none hT hn).symm, bt.free hn n1⟩
          refine ⟨_, _, _, ks ++ [⟨t, a, C, d⟩], ub, rfl, ?_, ?_, ?_, ?_, ?_, ?_, fun k hk => ?_, sep.add fun x hx b hb hc => ?_, fun b o' q nb => ?_⟩
          · rw [hKE, List.map_append]
            rfl
          · rw [hTE, List.map_append]
            rfl
          · rw [List.length_append, hks]
            rfl
          · exact key _ _ hp6 pK.symm pT.symm
          · have e : n + 7 + 4 * ((i + 1 : Nat) : Int) = n + 7 + 4 * i + 3 + 1 := by omega
            rw [e]
            exact pub
          · exact keyI _ _ hRi rR.1 rR.2.1 rR.2.2
          · rcases List.mem_append.mp hk with hk | hk
            · obtain ⟨kp, ap⟩ := hall k hk
              exact ⟨kp.stay (fun b o' q n1 => keyI b o' q (nl q n1 hpl) (nl q n1 hK) (nl q n1 hT)) fun b hb o' q => keyI b o' q (ap b hb).1 (ap b hb).2.1 (ap b hb).2.2.1, ap⟩
            · rw [List.mem_singleton.mp hk]
              refine ⟨⟨tr_keep tr fun b hb o' q => key b o' (sa6 b o' q (frN b hb).1) (frN b hb).2.1 (frN b hb).2.2.1, er6.stay fun b o' q n1 => key b o' q (nl q n1 hK6) (nl q n1 hT6), m.ei⟩, frN⟩
          · obtain ⟨o', q⟩ := tr_own (hall x hx).1.tr b hb
            rw [fr b hc] at q
            cases q
          · exact keyI b o' (bt b o' q nb) nb (ne_of_none q nKL) (ne_of_none q fT)
    · rintro σ Hs ⟨v3, v4, v5, ks, u, rfl, hK, hT, hks, hu, puu, hRi, hall, sep, bt⟩
      rw [lenR] at hks puu
      -- the lists among the things are made longer
      refine ⟨_, rfl, TL, rfl, ⟨_, SqL.of hT⟩, for_it (walk_list (K := K) (a := TL) (xs := ks.map fun k => k.t.val)) (fun j σ Hj => ∃ v4 : Option V, σ = [some (.ref p), some (.ref KL), some (.ref TL), v3, v4, v5, none] ∧ Hj KL = some (.lst (ks.map fun k => V.ref k.e)) ∧
        Hj TL = some (.lst (ks.map fun k => k.t.val)) ∧ Hj p = some u ∧ (∀ (m : Nat) (k : Kp), ks[m]? = some k → KpAt K (decide (m < j)) Hj k) ∧ But p H Hj)
        ⟨v4, rfl, hK, hT, hu, fun m k e => (hall k (List.mem_of_getElem? e)).1, bt⟩ (fun j σ Hj _ hP => ?_) ?_ ?_⟩
      · obtain ⟨_, _, _, h2, _⟩ := hP
        exact SqL.of h2
      · rintro j x σ Hj0 Hj hj ⟨v4, rfl, hKj, hTj, huj, hallj, btj⟩ ⟨rfl, hx⟩
        obtain ⟨k1, hk1, rfl⟩ := map_get hx
        have kp := hallj j k1 hk1
        have e0 : decide (j < j) = false := decide_eq_false (Nat.lt_irrefl j)
        rw [e0] at kp
        obtain ⟨ty, tyx, kit⟩ := tr_isl (K := K) kp.tr
        have ap := (hall k1 (List.mem_of_getElem? hk1)).2
        have eN : ∀ m, m ≠ j → decide (m < j + 1) = decide (m < j) := fun m ne => by
          have : m < j + 1 ↔ m < j := by omega
          simp [this]
        have eJ : decide (j < j + 1) = true := decide_eq_true (Nat.lt_succ_self j)
        refine ⟨_, rfl, _, _, ty, _, _, rfl, .ty _, tyx, kit, _, rfl, ite2 (fun c => ?_) (fun c => ?_)⟩
        · obtain ⟨⟨a, kk⟩, el⟩ := Option.isSome_iff_exists.mp c
          obtain ⟨ev, ma, hH, hs, hlen2, k2le⟩ := tr_lst kp.tr el
          rw [ev]
          refine ⟨_, rfl, .inl ⟨rfl, _, SqL.of hH⟩, _, rfl, _, _, rfl, .inl ⟨_, SqL.of hH, rfl⟩, a, _, _, rfl, rfl, hH, few (k := 100) (by omega), ?_⟩
          have es : k1.t.seq false ++ [V.int ((k1.t.seq false).length : Nat)] = k1.t.seq true := by rw [hs, hlen2]
          rw [es]
          obtain ⟨ap1, ap2, ap3, ap4⟩ := ap a ma
          have oth : ∀ b o', Hj b = some o' → b ≠ a → upd Hj a (.lst (k1.t.seq true)) b = some o' := fun b o' q nb => by rw [upd_ne nb]; exact q
          have na : ∀ b o', Hj b = some o' → (∀ xs, o' ≠ .lst xs) → b ≠ a := fun b o' q n1 e => by
            rw [e, hH] at q
            exact n1 _ (Option.some.inj q).symm
          refine ⟨_, rfl, oth _ _ hKj ap2.symm, oth _ _ hTj ap3.symm, oth _ _ huj ap1.symm, fun m k hk => ?_, fun b o' q nb => oth b o' (btj b o' q nb) (ne_of_none q ap4)⟩
          by_cases hm : m = j
          · subst hm
            rw [hk1] at hk
            cases hk
            rw [eJ]
            exact ⟨tr_longer kp.tr el, kp.er.stay fun b o' q n1 => oth b o' q (na b o' q n1), kp.ei⟩
          · rw [eN m hm]
            exact (hallj m k hk).stay (fun b o' q n1 => oth b o' q (na b o' q n1)) fun b hb o' q => oth b o' q fun e => sep m j k k1 hm hk hk1 b hb (e ▸ ma)
        · have el : k1.t.lst = none := by
            cases e : k1.t.lst with
            | none => rfl
            | some z => rw [e] at c; exact absurd rfl c
          refine ⟨_, rfl, hKj, hTj, huj, fun m k hk => ?_, btj⟩
          by_cases hm : m = j
          · subst hm
            rw [hk1] at hk
            cases hk
            rw [eJ]
            exact ⟨tr_same kp.tr el, kp.er, kp.ei⟩
          · rw [eN m hm]
            exact hallj m k hk
      · rintro σ Hf ⟨v4, rfl, hKf, hTf, huf, hallf, btf⟩
        have allT : ∀ k ∈ ks, KpAt K true Hf k := fun k hk => by
          obtain ⟨m, hm⟩ := List.getElem?_of_mem hk
          have h1 := hallf m k hm
          have lt : m < (ks.map fun k => k.t.val).length := by
            rw [List.length_map]
            exact (List.getElem?_eq_some_iff.mp hm).1
          rw [decide_eq_true lt] at h1
          exact h1
        -- the answer
        refine ⟨_, rfl, KL, rfl, ⟨_, SqL.of hKf⟩, fun D nD => lc_it (walk_list (K := K) (a := KL) (xs := ks.map fun k => V.ref k.e)) (fun j Hj => Hj D = some (.lst ((ks.take j).map fun k => k.t.val)) ∧ Same Hf Hj) ⟨upd_same, Same.upd nD⟩ (fun j Hj _ hP => SqL.of (hP.2 _ _ hKf)) ?_ ?_⟩
        · rintro j x Hj0 Hj hj ⟨hD, sm⟩ ⟨rfl, hx⟩
          obtain ⟨k1, hk1, rfl⟩ := map_get hx
          have kp := allT k1 (List.mem_of_getElem? hk1)
          refine ⟨rfl, _, rfl, k1.e, k1.C, k1.d, k1.t.val, rfl, kp.er.keep sm, kp.ei, _, hD, ?_, ?_, fun b o' e => by rw [upd_ne (ne_of_none e nD)]; exact sm b o' e⟩
          · rw [List.length_map, List.length_take]
            exact few (k := 100) (by omega)
          · rw [upd_same, take_map_succ hk1]
        · rintro Hj ⟨hD, sm⟩
          rw [List.length_map, List.take_length] at hD
          have trs : ∀ k ∈ ks, TrAt true Hj k.t := fun k hk => tr_keep (allT k hk).tr fun b _ o' q => sm b o' q
          obtain ⟨sh, dep, len⟩ := ok3_list (ds := ks.map fun k => k.t.dat true) (fun d hd => by
            obtain ⟨k, hk, rfl⟩ := List.mem_map.mp hd
            exact tr_ok (trs k hk)) (by rw [List.length_map]; omega)
          refine ⟨D, _, _, rfl, SqL.of hD, th_all ks trs, sh, dep, len, _, rfl, TL, _, _, rfl, SqL.of (sm _ _ hTf), th_all ks trs, sh, dep, len, rfl, ?_⟩
          rw [decide_eq_true rfl]
          exact k Hj u (sm _ _ huf) (puu.mono (by omega)) (btf.trans (But.same sm))
theorem okG_law (T : Txt K mg A) : FnG P w K mg base CX0 9 A.f_law A.d_law ["script"] (spLaw K) := by
  refine fnG_ok T.F_law sc_law (fun vs H Q E h => ?_) (fun cdv Ar outer s H vs Q E hg h => ?_)
  · obtain ⟨a, ns, rfl, _⟩ := h
    rfl
  · obtain ⟨a, ns, rfl, hS, hlen, k⟩ := h
    have hr := hg.room
    refine ⟨_, (pss_cons (ps_for PassesOwn.never rfl (pi_range1 rfl T.b_range (pa_cons (pe_callB (call_max2 rfl) rfl T.b_max (by decide +kernel) (pa_cons pe_int (pa_cons (pe_callB (call_min2 rfl) rfl T.b_min (by decide +kernel) (pa_cons pe_int (pa_cons (pe_callB call_len rfl T.b_len (by decide +kernel) (pa_cons (pv 0) pa_nil)) pa_nil))) pa_nil))) pa_nil)) (pg_name (i := 1) sc_law.nd rfl (Or.inl rfl))
      (pss_cons (ps_set (i := 2) sc_law.nd rfl (Or.inl rfl) (pe_call (ok_purse T) (hr.mono (by decide)) rfl T.g_purse T.F_purse.kp T.B_purse .nil pass0 (pa_cons (pv 0) (pa_cons (pv 1) pa_nil))))
      (pss_one (ps_for PassesOwn.never rfl (pi_range1 rfl T.b_range (pa_cons pe_int pa_nil)) (pg_name (i := 3) sc_law.nd rfl (Or.inl rfl))
      (pss_one (ps_if (pt_not (pt_val (pe_callG (okG_right T) (hg.mono (by decide)) rfl T.g_right T.F_right.kp T.B_right .nil pass0 (pa_cons (pv 2) pa_nil)))) (pss_one (ps_ret pe_bl)) pss_nil))))))
      (pss_one (ps_ret pe_bl))), ?_⟩
    refine ⟨_, rfl, _, _, rfl, .inl ⟨_, hS, rfl⟩, _, _, rfl, _, _, rfl, _, rfl, ?_, ?_, for_it walk_range (fun i σ Hi => ∃ v1 v2 v3 : Option V, σ = [some (.ref a), v1, v2, v3] ∧ Same H Hi) ⟨none, none, none, rfl, Same.refl _⟩ (fun _ _ _ _ _ => trivial) ?_ ?_⟩
    · split <;> split <;> omega
    · rw [List.length_map]
      split <;> split <;> omega
    · rintro i x σ H0 Hi hi ⟨v1, v2, v3, rfl, sm⟩ ⟨rfl, rfl⟩
      have hi100 : i ≤ 100 := by
        rw [List.length_map] at hi
        revert hi
        split <;> split <;> omega
      refine ⟨_, rfl, _, rfl, a, ns, i, congrArg (fun z => [V.ref a, V.int z]) (Int.zero_add _), sm.seq hS, hlen, hi100, fun p u np pu => ?_⟩
      have npH : H p = none := sm.free np
      refine ⟨_, rfl, by decide, by decide, for_it walk_range (fun j σ Hj => ∃ (v3 : Option V) (u : HO), σ = [some (.ref a), some (.int (0 + (i : Int))), some (.ref p), v3] ∧ Same H Hj ∧ Hj p = some u ∧ Pu (10 ^ 6 * j) u) ⟨_, u, rfl, Same.then sm np, upd_same, by simpa using pu⟩ (fun _ _ _ _ _ => trivial) ?_ ?_⟩
      · rintro j x σ H0 Hj hj ⟨v3, u, rfl, smj, hu, puj⟩ ⟨rfl, rfl⟩
        have j2 : j < 2 := hj
        refine ⟨_, rfl, p, u, 10 ^ 6 * (j : Int), rfl, hu, puj, by omega, fun H' u' hu' pu' but => ⟨_, rfl, ?_⟩⟩
        refine ⟨_, u', rfl, But.new smj npH but, hu', ?_⟩
        have e : (10 : Int) ^ 6 * ((j + 1 : Nat) : Int) = 10 ^ 6 * (j : Int) + 10 ^ 6 := by omega
        rw [e]
        exact pu'
      · rintro σ Hj ⟨v3, u, rfl, smj, hu, puj⟩
        exact ⟨_, _, _, rfl, smj⟩
    · rintro σ Hi ⟨v1, v2, v3, rfl, sm⟩
      exact k Hi
end
set_option maxHeartbeats 0 in
theorem all_mk {l : PySem.W.OpenLaw} {w : World} {K : PySem.W.Frag} {h : Heap} {mg : Str → Option Value} {fa : Addr} (X : K.In h) (G : h.Ns mainGlobals mg) (hfa : mg "law" = some (.ref fa))
    {f_StreamError__init : Addr} {od_StreamError__init an_StreamError__init : Option Addr} {sl_StreamError__init : Array (Option Value)} {oc_StreamError__init kV_StreamError__init dc_StreamError__init pm_StreamError__init cd_StreamError__init ct_StreamError__init : Value}
    {f_InvalidNumber__init : Addr} {od_InvalidNumber__init an_InvalidNumber__init : Option Addr} {sl_InvalidNumber__init : Array (Option Value)} {oc_InvalidNumber__init kV_InvalidNumber__init dc_InvalidNumber__init pm_InvalidNumber__init cd_InvalidNumber__init ct_InvalidNumber__init : Value}
    {f_InvalidState__init : Addr} {od_InvalidState__init an_InvalidState__init : Option Addr} {sl_InvalidState__init : Array (Option Value)} {oc_InvalidState__init kV_InvalidState__init dc_InvalidState__init pm_InvalidState__init cd_InvalidState__init ct_InvalidState__init : Value}
    {f_UnknownMember__init : Addr} {od_UnknownMember__init an_UnknownMember__init : Option Addr} {sl_UnknownMember__init : Array (Option Value)} {oc_UnknownMember__init kV_UnknownMember__init dc_UnknownMember__init pm_UnknownMember__init cd_UnknownMember__init ct_UnknownMember__init : Value}
    {f_TooManyLost__init : Addr} {od_TooManyLost__init an_TooManyLost__init : Option Addr} {sl_TooManyLost__init : Array (Option Value)} {oc_TooManyLost__init kV_TooManyLost__init dc_TooManyLost__init pm_TooManyLost__init cd_TooManyLost__init ct_TooManyLost__init : Value}
    {f_NothingToUndo__init : Addr} {od_NothingToUndo__init an_NothingToUndo__init : Option Addr} {sl_NothingToUndo__init : Array (Option Value)} {oc_NothingToUndo__init kV_NothingToUndo__init dc_NothingToUndo__init pm_NothingToUndo__init cd_NothingToUndo__init ct_NothingToUndo__init : Value}
    {f_Unreadable__init : Addr} {od_Unreadable__init an_Unreadable__init : Option Addr} {sl_Unreadable__init : Array (Option Value)} {oc_Unreadable__init kV_Unreadable__init dc_Unreadable__init pm_Unreadable__init cd_Unreadable__init ct_Unreadable__init : Value}
    {f_purse : Addr} {od_purse an_purse : Option Addr} {sl_purse : Array (Option Value)} {oc_purse kV_purse dc_purse pm_purse cd_purse ct_purse : Value}
    {f_coin : Addr} {od_coin an_coin : Option Addr} {sl_coin : Array (Option Value)} {oc_coin kV_coin dc_coin pm_coin cd_coin ct_coin : Value}
    {f_wv_stirred : Addr} {od_wv_stirred an_wv_stirred : Option Addr} {sl_wv_stirred : Array (Option Value)} {oc_wv_stirred kV_wv_stirred dc_wv_stirred pm_wv_stirred cd_wv_stirred ct_wv_stirred : Value}
    {f_constructed : Addr} {od_constructed an_constructed : Option Addr} {sl_constructed : Array (Option Value)} {oc_constructed kV_constructed dc_constructed pm_constructed cd_constructed ct_constructed : Value}
    {f_classes : Addr} {od_classes an_classes : Option Addr} {sl_classes : Array (Option Value)} {oc_classes kV_classes dc_classes pm_classes cd_classes ct_classes : Value}
    {f_thing : Addr} {od_thing an_thing : Option Addr} {sl_thing : Array (Option Value)} {oc_thing kV_thing dc_thing pm_thing cd_thing ct_thing : Value}
    {f_right : Addr} {od_right an_right : Option Addr} {sl_right : Array (Option Value)} {oc_right kV_right dc_right pm_right cd_right ct_right : Value}
    {f_law : Addr} {od_law an_law : Option Addr} {sl_law : Array (Option Value)} {oc_law kV_law dc_law pm_law cd_law ct_law : Value}
    {c_StreamError : Addr}
    {nm_StreamError qu_StreamError : Str} {N_StreamError : Addr} {bs_StreamError bm_StreamError : List Value} {sn_StreamError : List Str} {su_StreamError : List Value} {ab_StreamError : Bool} {co_StreamError : Option Bool} {dd_StreamError : Option Addr} {e0_StreamError e1_StreamError e2_StreamError e3_StreamError e5_StreamError : Option Value}
    {c_InvalidNumber : Addr}
    {nm_InvalidNumber qu_InvalidNumber : Str} {N_InvalidNumber : Addr} {bs_InvalidNumber bm_InvalidNumber : List Value} {sn_InvalidNumber : List Str} {su_InvalidNumber : List Value} {ab_InvalidNumber : Bool} {co_InvalidNumber : Option Bool} {dd_InvalidNumber : Option Addr} {e0_InvalidNumber e1_InvalidNumber e2_InvalidNumber e3_InvalidNumber e5_InvalidNumber : Option Value}
    {c_InvalidState : Addr}
    {nm_InvalidState qu_InvalidState : Str} {N_InvalidState : Addr} {bs_InvalidState bm_InvalidState : List Value} {sn_InvalidState : List Str} {su_InvalidState : List Value} {ab_InvalidState : Bool} {co_InvalidState : Option Bool} {dd_InvalidState : Option Addr} {e0_InvalidState e1_InvalidState e2_InvalidState e3_InvalidState e5_InvalidState : Option Value}
    {c_UnknownMember : Addr}
    {nm_UnknownMember qu_UnknownMember : Str} {N_UnknownMember : Addr} {bs_UnknownMember bm_UnknownMember : List Value} {sn_UnknownMember : List Str} {su_UnknownMember : List Value} {ab_UnknownMember : Bool} {co_UnknownMember : Option Bool} {dd_UnknownMember : Option Addr} {e0_UnknownMember e1_UnknownMember e2_UnknownMember e3_UnknownMember e5_UnknownMember : Option Value}
    {c_TooManyLost : Addr}
    {nm_TooManyLost qu_TooManyLost : Str} {N_TooManyLost : Addr} {bs_TooManyLost bm_TooManyLost : List Value} {sn_TooManyLost : List Str} {su_TooManyLost : List Value} {ab_TooManyLost : Bool} {co_TooManyLost : Option Bool} {dd_TooManyLost : Option Addr} {e0_TooManyLost e1_TooManyLost e2_TooManyLost e3_TooManyLost e5_TooManyLost : Option Value}
    {c_NothingToUndo : Addr}
    {nm_NothingToUndo qu_NothingToUndo : Str} {N_NothingToUndo : Addr} {bs_NothingToUndo bm_NothingToUndo : List Value} {sn_NothingToUndo : List Str} {su_NothingToUndo : List Value} {ab_NothingToUndo : Bool} {co_NothingToUndo : Option Bool} {dd_NothingToUndo : Option Addr} {e0_NothingToUndo e1_NothingToUndo e2_NothingToUndo e3_NothingToUndo e5_NothingToUndo : Option Value}
    {c_Unreadable : Addr}
    {nm_Unreadable qu_Unreadable : Str} {N_Unreadable : Addr} {bs_Unreadable bm_Unreadable : List Value} {sn_Unreadable : List Str} {su_Unreadable : List Value} {ab_Unreadable : Bool} {co_Unreadable : Option Bool} {dd_Unreadable : Option Addr} {e0_Unreadable e1_Unreadable e2_Unreadable e3_Unreadable e5_Unreadable : Option Value}
    (ac_StreamError : PySem.W.nsIn K mainGlobals "StreamError" = some (some (.ref c_StreamError)))
    (i_StreamError : PySem.W.findIn K (.ref c_StreamError) "__init__" = some (some (.ref f_StreamError__init)))
    (ac_InvalidNumber : PySem.W.nsIn K mainGlobals "InvalidNumber" = some (some (.ref c_InvalidNumber)))
    (i_InvalidNumber : PySem.W.findIn K (.ref c_InvalidNumber) "__init__" = some (some (.ref f_InvalidNumber__init)))
    (ac_InvalidState : PySem.W.nsIn K mainGlobals "InvalidState" = some (some (.ref c_InvalidState)))
    (i_InvalidState : PySem.W.findIn K (.ref c_InvalidState) "__init__" = some (some (.ref f_InvalidState__init)))
    (ac_UnknownMember : PySem.W.nsIn K mainGlobals "UnknownMember" = some (some (.ref c_UnknownMember)))
    (i_UnknownMember : PySem.W.findIn K (.ref c_UnknownMember) "__init__" = some (some (.ref f_UnknownMember__init)))
    (ac_TooManyLost : PySem.W.nsIn K mainGlobals "TooManyLost" = some (some (.ref c_TooManyLost)))
    (i_TooManyLost : PySem.W.findIn K (.ref c_TooManyLost) "__init__" = some (some (.ref f_TooManyLost__init)))
    (ac_NothingToUndo : PySem.W.nsIn K mainGlobals "NothingToUndo" = some (some (.ref c_NothingToUndo)))
    (i_NothingToUndo : PySem.W.findIn K (.ref c_NothingToUndo) "__init__" = some (some (.ref f_NothingToUndo__init)))
    (ac_Unreadable : PySem.W.nsIn K mainGlobals "Unreadable" = some (some (.ref c_Unreadable)))
    (i_Unreadable : PySem.W.findIn K (.ref c_Unreadable) "__init__" = some (some (.ref f_Unreadable__init)))
    (l_StreamError__init : K.lookup f_StreamError__init = some ⟨oc_StreamError__init, od_StreamError__init, .func (PySem.W.fnOf "__init__" "StreamError.__init__" (defArgs s_StreamError__init) (defBody s_StreamError__init) (defScope s_StreamError__init) .none kV_StreamError__init dc_StreamError__init pm_StreamError__init an_StreamError__init cd_StreamError__init ct_StreamError__init), sl_StreamError__init⟩)
    (c_StreamError__init : PySem.W.codeIn K cd_StreamError__init "StreamError.__init__" = true)
    (k_StreamError__init : PySem.W.keepIn K (.ref f_StreamError__init) = true)
    (l_InvalidNumber__init : K.lookup f_InvalidNumber__init = some ⟨oc_InvalidNumber__init, od_InvalidNumber__init, .func (PySem.W.fnOf "__init__" "InvalidNumber.__init__" (defArgs s_InvalidNumber__init) (defBody s_InvalidNumber__init) (defScope s_InvalidNumber__init) .none kV_InvalidNumber__init dc_InvalidNumber__init pm_InvalidNumber__init an_InvalidNumber__init cd_InvalidNumber__init ct_InvalidNumber__init), sl_InvalidNumber__init⟩)
    (c_InvalidNumber__init : PySem.W.codeIn K cd_InvalidNumber__init "InvalidNumber.__init__" = true)
    (k_InvalidNumber__init : PySem.W.keepIn K (.ref f_InvalidNumber__init) = true)
    (l_InvalidState__init : K.lookup f_InvalidState__init = some ⟨oc_InvalidState__init, od_InvalidState__init, .func (PySem.W.fnOf "__init__" "InvalidState.__init__" (defArgs s_InvalidState__init) (defBody s_InvalidState__init) (defScope s_InvalidState__init) .none kV_InvalidState__init dc_InvalidState__init pm_InvalidState__init an_InvalidState__init cd_InvalidState__init ct_InvalidState__init), sl_InvalidState__init⟩)
    (c_InvalidState__init : PySem.W.codeIn K cd_InvalidState__init "InvalidState.__init__" = true)
    (k_InvalidState__init : PySem.W.keepIn K (.ref f_InvalidState__init) = true)
    (l_UnknownMember__init : K.lookup f_UnknownMember__init = some ⟨oc_UnknownMember__init, od_UnknownMember__init, .func (PySem.W.fnOf "__init__" "UnknownMember.__init__" (defArgs s_UnknownMember__init) (defBody s_UnknownMember__init) (defScope s_UnknownMember__init) .none kV_UnknownMember__init dc_UnknownMember__init pm_UnknownMember__init an_UnknownMember__init cd_UnknownMember__init ct_UnknownMember__init), sl_UnknownMember__init⟩)
    (c_UnknownMember__init : PySem.W.codeIn K cd_UnknownMember__init "UnknownMember.__init__" = true)
    (k_UnknownMember__init : PySem.W.keepIn K (.ref f_UnknownMember__init) = true)
    (l_TooManyLost__init : K.lookup f_TooManyLost__init = some ⟨oc_TooManyLost__init, od_TooManyLost__init, .func (PySem.W.fnOf "__init__" "TooManyLost.__init__" (defArgs s_TooManyLost__init) (defBody s_TooManyLost__init) (defScope s_TooManyLost__init) .none kV_TooManyLost__init dc_TooManyLost__init pm_TooManyLost__init an_TooManyLost__init cd_TooManyLost__init ct_TooManyLost__init), sl_TooManyLost__init⟩)
    (c_TooManyLost__init : PySem.W.codeIn K cd_TooManyLost__init "TooManyLost.__init__" = true)
    (k_TooManyLost__init : PySem.W.keepIn K (.ref f_TooManyLost__init) = true)
    (l_NothingToUndo__init : K.lookup f_NothingToUndo__init = some ⟨oc_NothingToUndo__init, od_NothingToUndo__init, .func (PySem.W.fnOf "__init__" "NothingToUndo.__init__" (defArgs s_NothingToUndo__init) (defBody s_NothingToUndo__init) (defScope s_NothingToUndo__init) .none kV_NothingToUndo__init dc_NothingToUndo__init pm_NothingToUndo__init an_NothingToUndo__init cd_NothingToUndo__init ct_NothingToUndo__init), sl_NothingToUndo__init⟩)
    (c_NothingToUndo__init : PySem.W.codeIn K cd_NothingToUndo__init "NothingToUndo.__init__" = true)
    (k_NothingToUndo__init : PySem.W.keepIn K (.ref f_NothingToUndo__init) = true)
    (l_Unreadable__init : K.lookup f_Unreadable__init = some ⟨oc_Unreadable__init, od_Unreadable__init, .func (PySem.W.fnOf "__init__" "Unreadable.__init__" (defArgs s_Unreadable__init) (defBody s_Unreadable__init) (defScope s_Unreadable__init) .none kV_Unreadable__init dc_Unreadable__init pm_Unreadable__init an_Unreadable__init cd_Unreadable__init ct_Unreadable__init), sl_Unreadable__init⟩)
    (c_Unreadable__init : PySem.W.codeIn K cd_Unreadable__init "Unreadable.__init__" = true)
    (k_Unreadable__init : PySem.W.keepIn K (.ref f_Unreadable__init) = true)
    (a_purse : PySem.W.nsIn K mainGlobals "_law_purse" = some (some (.ref f_purse)))
    (l_purse : K.lookup f_purse = some ⟨oc_purse, od_purse, .func (PySem.W.fnOf "_law_purse" "_law_purse" (defArgs s_purse) (defBody s_purse) (defScope s_purse) .none kV_purse dc_purse pm_purse an_purse cd_purse ct_purse), sl_purse⟩)
    (c_purse : PySem.W.codeIn K cd_purse "_law_purse" = true)
    (k_purse : PySem.W.keepIn K (.ref f_purse) = true)
    (a_coin : PySem.W.nsIn K mainGlobals "_law_coin" = some (some (.ref f_coin)))
    (l_coin : K.lookup f_coin = some ⟨oc_coin, od_coin, .func (PySem.W.fnOf "_law_coin" "_law_coin" (defArgs s_coin) (defBody s_coin) (defScope s_coin) .none kV_coin dc_coin pm_coin an_coin cd_coin ct_coin), sl_coin⟩)
    (c_coin : PySem.W.codeIn K cd_coin "_law_coin" = true)
    (k_coin : PySem.W.keepIn K (.ref f_coin) = true)
    (a_wv_stirred : PySem.W.nsIn K mainGlobals "_law_wv_stirred" = some (some (.ref f_wv_stirred)))
    (l_wv_stirred : K.lookup f_wv_stirred = some ⟨oc_wv_stirred, od_wv_stirred, .func (PySem.W.fnOf "_law_wv_stirred" "_law_wv_stirred" (defArgs s_wv_stirred) (defBody s_wv_stirred) (defScope s_wv_stirred) .none kV_wv_stirred dc_wv_stirred pm_wv_stirred an_wv_stirred cd_wv_stirred ct_wv_stirred), sl_wv_stirred⟩)
    (c_wv_stirred : PySem.W.codeIn K cd_wv_stirred "_law_wv_stirred" = true)
    (k_wv_stirred : PySem.W.keepIn K (.ref f_wv_stirred) = true)
    (a_constructed : PySem.W.nsIn K mainGlobals "_law_constructed" = some (some (.ref f_constructed)))
    (l_constructed : K.lookup f_constructed = some ⟨oc_constructed, od_constructed, .func (PySem.W.fnOf "_law_constructed" "_law_constructed" (defArgs s_constructed) (defBody s_constructed) (defScope s_constructed) .none kV_constructed dc_constructed pm_constructed an_constructed cd_constructed ct_constructed), sl_constructed⟩)
    (c_constructed : PySem.W.codeIn K cd_constructed "_law_constructed" = true)
    (k_constructed : PySem.W.keepIn K (.ref f_constructed) = true)
    (a_classes : PySem.W.nsIn K mainGlobals "_law_classes" = some (some (.ref f_classes)))
    (l_classes : K.lookup f_classes = some ⟨oc_classes, od_classes, .func (PySem.W.fnOf "_law_classes" "_law_classes" (defArgs s_classes) (defBody s_classes) (defScope s_classes) .none kV_classes dc_classes pm_classes an_classes cd_classes ct_classes), sl_classes⟩)
    (c_classes : PySem.W.codeIn K cd_classes "_law_classes" = true)
    (k_classes : PySem.W.keepIn K (.ref f_classes) = true)
    (a_thing : PySem.W.nsIn K mainGlobals "_law_thing" = some (some (.ref f_thing)))
    (l_thing : K.lookup f_thing = some ⟨oc_thing, od_thing, .func (PySem.W.fnOf "_law_thing" "_law_thing" (defArgs s_thing) (defBody s_thing) (defScope s_thing) .none kV_thing dc_thing pm_thing an_thing cd_thing ct_thing), sl_thing⟩)
    (c_thing : PySem.W.codeIn K cd_thing "_law_thing" = true)
    (k_thing : PySem.W.keepIn K (.ref f_thing) = true)
    (a_right : PySem.W.nsIn K mainGlobals "_law_right" = some (some (.ref f_right)))
    (l_right : K.lookup f_right = some ⟨oc_right, od_right, .func (PySem.W.fnOf "_law_right" "_law_right" (defArgs s_right) (defBody s_right) (defScope s_right) .none kV_right dc_right pm_right an_right cd_right ct_right), sl_right⟩)
    (c_right : PySem.W.codeIn K cd_right "_law_right" = true)
    (k_right : PySem.W.keepIn K (.ref f_right) = true)
    (a_law : PySem.W.nsIn K mainGlobals "law" = some (some (.ref f_law)))
    (l_law : K.lookup f_law = some ⟨oc_law, od_law, .func (PySem.W.fnOf "law" "law" (defArgs s_law) (defBody s_law) (defScope s_law) .none kV_law dc_law pm_law an_law cd_law ct_law), sl_law⟩)
    (c_law : PySem.W.codeIn K cd_law "law" = true)
    (k_law : PySem.W.keepIn K (.ref f_law) = true)
    (xl_StreamError : K.lookup c_StreamError = some (excClassObj nm_StreamError qu_StreamError c_StreamError N_StreamError bs_StreamError bm_StreamError true sn_StreamError su_StreamError ab_StreamError co_StreamError dd_StreamError e0_StreamError e1_StreamError e2_StreamError e3_StreamError e5_StreamError "ValueError.__new__"))
    (rv_StreamError : PySem.HandSPX.refsVE bm_StreamError = true)
    (sa_StreamError : PySem.W.findIn K (.ref c_StreamError) "__setattr__" = some (some (.builtin "object.__setattr__")))
    (eC_StreamError : PySem.W.subIn K (.ref c_StreamError) (.type "BaseException") = some true)
    (tC_StreamError : PySem.W.typeIn K (.ref c_StreamError) = some (.type "type"))
    (kC_StreamError : PySem.W.keepIn K (.ref c_StreamError) = true)
    (nv_StreamError : PySem.W.findIn K (.ref c_StreamError) "value" = some none)
    (ga_StreamError : PySem.W.findIn K (.ref c_StreamError) "__getattribute__" = some (some (.builtin "BaseException.__getattribute__")))
    (gg_StreamError : PySem.W.findIn K (.ref c_StreamError) "__getattr__" = some none)
    (hd_StreamError : PySem.W.hasDictIn K c_StreamError = true)
    (tI_StreamError : PySem.W.typeIn K (.ref f_StreamError__init) = some (.type "function"))
    (iC_StreamError : PySem.W.isClsIn K c_StreamError = true)
    (ss_StreamError : PySem.W.subIn K (.ref c_StreamError) (.ref c_StreamError) = some true)
    (ca_StreamError : PySem.W.findIn K (.ref c_StreamError) "__class__" = some (some (.builtin "object.__class__")))
    (cn_StreamError : PySem.W.specialIn K (.builtin "object.__class__") "__get__" = some (some (.builtin "getset_descriptor.__get__")))
    (ct_StreamError : PySem.W.takesIn K (.builtin "object.__class__") = some true)
    (co_StreamError : PySem.W.mroIn K c_StreamError (.type "object") = some true)
    (kv_StreamError : PySem.W.kitOne K (.ref c_StreamError) (.type "ValueError") = some true)
    (xl_InvalidNumber : K.lookup c_InvalidNumber = some (excClassObj nm_InvalidNumber qu_InvalidNumber c_InvalidNumber N_InvalidNumber bs_InvalidNumber bm_InvalidNumber true sn_InvalidNumber su_InvalidNumber ab_InvalidNumber co_InvalidNumber dd_InvalidNumber e0_InvalidNumber e1_InvalidNumber e2_InvalidNumber e3_InvalidNumber e5_InvalidNumber "ValueError.__new__"))
    (rv_InvalidNumber : PySem.HandSPX.refsVE bm_InvalidNumber = true)
    (sa_InvalidNumber : PySem.W.findIn K (.ref c_InvalidNumber) "__setattr__" = some (some (.builtin "object.__setattr__")))
    (eC_InvalidNumber : PySem.W.subIn K (.ref c_InvalidNumber) (.type "BaseException") = some true)
    (tC_InvalidNumber : PySem.W.typeIn K (.ref c_InvalidNumber) = some (.type "type"))
    (kC_InvalidNumber : PySem.W.keepIn K (.ref c_InvalidNumber) = true)
    (nv_InvalidNumber : PySem.W.findIn K (.ref c_InvalidNumber) "value" = some none)
    (ga_InvalidNumber : PySem.W.findIn K (.ref c_InvalidNumber) "__getattribute__" = some (some (.builtin "BaseException.__getattribute__")))
    (gg_InvalidNumber : PySem.W.findIn K (.ref c_InvalidNumber) "__getattr__" = some none)
    (hd_InvalidNumber : PySem.W.hasDictIn K c_InvalidNumber = true)
    (tI_InvalidNumber : PySem.W.typeIn K (.ref f_InvalidNumber__init) = some (.type "function"))
    (iC_InvalidNumber : PySem.W.isClsIn K c_InvalidNumber = true)
    (ss_InvalidNumber : PySem.W.subIn K (.ref c_InvalidNumber) (.ref c_InvalidNumber) = some true)
    (ca_InvalidNumber : PySem.W.findIn K (.ref c_InvalidNumber) "__class__" = some (some (.builtin "object.__class__")))
    (cn_InvalidNumber : PySem.W.specialIn K (.builtin "object.__class__") "__get__" = some (some (.builtin "getset_descriptor.__get__")))
    (ct_InvalidNumber : PySem.W.takesIn K (.builtin "object.__class__") = some true)
    (co_InvalidNumber : PySem.W.mroIn K c_InvalidNumber (.type "object") = some true)
    (kv_InvalidNumber : PySem.W.kitOne K (.ref c_InvalidNumber) (.type "ValueError") = some true)
    (xl_InvalidState : K.lookup c_InvalidState = some (excClassObj nm_InvalidState qu_InvalidState c_InvalidState N_InvalidState bs_InvalidState bm_InvalidState true sn_InvalidState su_InvalidState ab_InvalidState co_InvalidState dd_InvalidState e0_InvalidState e1_InvalidState e2_InvalidState e3_InvalidState e5_InvalidState "ValueError.__new__"))
    (rv_InvalidState : PySem.HandSPX.refsVE bm_InvalidState = true)
    (sa_InvalidState : PySem.W.findIn K (.ref c_InvalidState) "__setattr__" = some (some (.builtin "object.__setattr__")))
    (eC_InvalidState : PySem.W.subIn K (.ref c_InvalidState) (.type "BaseException") = some true)
    (tC_InvalidState : PySem.W.typeIn K (.ref c_InvalidState) = some (.type "type"))
    (kC_InvalidState : PySem.W.keepIn K (.ref c_InvalidState) = true)
    (nv_InvalidState : PySem.W.findIn K (.ref c_InvalidState) "value" = some none)
    (ga_InvalidState : PySem.W.findIn K (.ref c_InvalidState) "__getattribute__" = some (some (.builtin "BaseException.__getattribute__")))
    (gg_InvalidState : PySem.W.findIn K (.ref c_InvalidState) "__getattr__" = some none)
    (hd_InvalidState : PySem.W.hasDictIn K c_InvalidState = true)
    (tI_InvalidState : PySem.W.typeIn K (.ref f_InvalidState__init) = some (.type "function"))
    (iC_InvalidState : PySem.W.isClsIn K c_InvalidState = true)
    (ss_InvalidState : PySem.W.subIn K (.ref c_InvalidState) (.ref c_InvalidState) = some true)
    (ca_InvalidState : PySem.W.findIn K (.ref c_InvalidState) "__class__" = some (some (.builtin "object.__class__")))
    (cn_InvalidState : PySem.W.specialIn K (.builtin "object.__class__") "__get__" = some (some (.builtin "getset_descriptor.__get__")))
    (ct_InvalidState : PySem.W.takesIn K (.builtin "object.__class__") = some true)
    (co_InvalidState : PySem.W.mroIn K c_InvalidState (.type "object") = some true)
    (kv_InvalidState : PySem.W.kitOne K (.ref c_InvalidState) (.type "ValueError") = some true)
    (xl_UnknownMember : K.lookup c_UnknownMember = some (excClassObj nm_UnknownMember qu_UnknownMember c_UnknownMember N_UnknownMember bs_UnknownMember bm_UnknownMember true sn_UnknownMember su_UnknownMember ab_UnknownMember co_UnknownMember dd_UnknownMember e0_UnknownMember e1_UnknownMember e2_UnknownMember e3_UnknownMember e5_UnknownMember "ValueError.__new__"))
    (rv_UnknownMember : PySem.HandSPX.refsVE bm_UnknownMember = true)
    (sa_UnknownMember : PySem.W.findIn K (.ref c_UnknownMember) "__setattr__" = some (some (.builtin "object.__setattr__")))
    (eC_UnknownMember : PySem.W.subIn K (.ref c_UnknownMember) (.type "BaseException") = some true)
    (tC_UnknownMember : PySem.W.typeIn K (.ref c_UnknownMember) = some (.type "type"))
    (kC_UnknownMember : PySem.W.keepIn K (.ref c_UnknownMember) = true)
    (nv_UnknownMember : PySem.W.findIn K (.ref c_UnknownMember) "value" = some none)
    (ga_UnknownMember : PySem.W.findIn K (.ref c_UnknownMember) "__getattribute__" = some (some (.builtin "BaseException.__getattribute__")))
    (gg_UnknownMember : PySem.W.findIn K (.ref c_UnknownMember) "__getattr__" = some none)
    (hd_UnknownMember : PySem.W.hasDictIn K c_UnknownMember = true)
    (tI_UnknownMember : PySem.W.typeIn K (.ref f_UnknownMember__init) = some (.type "function"))
    (iC_UnknownMember : PySem.W.isClsIn K c_UnknownMember = true)
    (ss_UnknownMember : PySem.W.subIn K (.ref c_UnknownMember) (.ref c_UnknownMember) = some true)
    (ca_UnknownMember : PySem.W.findIn K (.ref c_UnknownMember) "__class__" = some (some (.builtin "object.__class__")))
    (cn_UnknownMember : PySem.W.specialIn K (.builtin "object.__class__") "__get__" = some (some (.builtin "getset_descriptor.__get__")))
    (ct_UnknownMember : PySem.W.takesIn K (.builtin "object.__class__") = some true)
    (co_UnknownMember : PySem.W.mroIn K c_UnknownMember (.type "object") = some true)
    (kv_UnknownMember : PySem.W.kitOne K (.ref c_UnknownMember) (.type "ValueError") = some true)
    (xl_TooManyLost : K.lookup c_TooManyLost = some (excClassObj nm_TooManyLost qu_TooManyLost c_TooManyLost N_TooManyLost bs_TooManyLost bm_TooManyLost true sn_TooManyLost su_TooManyLost ab_TooManyLost co_TooManyLost dd_TooManyLost e0_TooManyLost e1_TooManyLost e2_TooManyLost e3_TooManyLost e5_TooManyLost "ValueError.__new__"))
    (rv_TooManyLost : PySem.HandSPX.refsVE bm_TooManyLost = true)
    (sa_TooManyLost : PySem.W.findIn K (.ref c_TooManyLost) "__setattr__" = some (some (.builtin "object.__setattr__")))
    (eC_TooManyLost : PySem.W.subIn K (.ref c_TooManyLost) (.type "BaseException") = some true)
    (tC_TooManyLost : PySem.W.typeIn K (.ref c_TooManyLost) = some (.type "type"))
    (kC_TooManyLost : PySem.W.keepIn K (.ref c_TooManyLost) = true)
    (nv_TooManyLost : PySem.W.findIn K (.ref c_TooManyLost) "value" = some none)
    (ga_TooManyLost : PySem.W.findIn K (.ref c_TooManyLost) "__getattribute__" = some (some (.builtin "BaseException.__getattribute__")))
    (gg_TooManyLost : PySem.W.findIn K (.ref c_TooManyLost) "__getattr__" = some none)
    (hd_TooManyLost : PySem.W.hasDictIn K c_TooManyLost = true)
    (tI_TooManyLost : PySem.W.typeIn K (.ref f_TooManyLost__init) = some (.type "function"))
    (iC_TooManyLost : PySem.W.isClsIn K c_TooManyLost = true)
    (ss_TooManyLost : PySem.W.subIn K (.ref c_TooManyLost) (.ref c_TooManyLost) = some true)
    (ca_TooManyLost : PySem.W.findIn K (.ref c_TooManyLost) "__class__" = some (some (.builtin "object.__class__")))
    (cn_TooManyLost : PySem.W.specialIn K (.builtin "object.__class__") "__get__" = some (some (.builtin "getset_descriptor.__get__")))
    (ct_TooManyLost : PySem.W.takesIn K (.builtin "object.__class__") = some true)
    (co_TooManyLost : PySem.W.mroIn K c_TooManyLost (.type "object") = some true)
    (kv_TooManyLost : PySem.W.kitOne K (.ref c_TooManyLost) (.type "ValueError") = some true)
    (xl_NothingToUndo : K.lookup c_NothingToUndo = some (excClassObj nm_NothingToUndo qu_NothingToUndo c_NothingToUndo N_NothingToUndo bs_NothingToUndo bm_NothingToUndo true sn_NothingToUndo su_NothingToUndo ab_NothingToUndo co_NothingToUndo dd_NothingToUndo e0_NothingToUndo e1_NothingToUndo e2_NothingToUndo e3_NothingToUndo e5_NothingToUndo "ValueError.__new__"))
    (rv_NothingToUndo : PySem.HandSPX.refsVE bm_NothingToUndo = true)
    (sa_NothingToUndo : PySem.W.findIn K (.ref c_NothingToUndo) "__setattr__" = some (some (.builtin "object.__setattr__")))
    (eC_NothingToUndo : PySem.W.subIn K (.ref c_NothingToUndo) (.type "BaseException") = some true)
    (tC_NothingToUndo : PySem.W.typeIn K (.ref c_NothingToUndo) = some (.type "type"))
    (kC_NothingToUndo : PySem.W.keepIn K (.ref c_NothingToUndo) = true)
    (nv_NothingToUndo : PySem.W.findIn K (.ref c_NothingToUndo) "value" = some none)
    (ga_NothingToUndo : PySem.W.findIn K (.ref c_NothingToUndo) "__getattribute__" = some (some (.builtin "BaseException.__getattribute__")))
    (gg_NothingToUndo : PySem.W.findIn K (.ref c_NothingToUndo) "__getattr__" = some none)
    (hd_NothingToUndo : PySem.W.hasDictIn K c_NothingToUndo = true)
    (tI_NothingToUndo : PySem.W.typeIn K (.ref f_NothingToUndo__init) = some (.type "function"))
    (iC_NothingToUndo : PySem.W.isClsIn K c_NothingToUndo = true)
    (ss_NothingToUndo : PySem.W.subIn K (.ref c_NothingToUndo) (.ref c_NothingToUndo) = some true)
    (ca_NothingToUndo : PySem.W.findIn K (.ref c_NothingToUndo) "__class__" = some (some (.builtin "object.__class__")))
    (cn_NothingToUndo : PySem.W.specialIn K (.builtin "object.__class__") "__get__" = some (some (.builtin "getset_descriptor.__get__")))
    (ct_NothingToUndo : PySem.W.takesIn K (.builtin "object.__class__") = some true)
    (co_NothingToUndo : PySem.W.mroIn K c_NothingToUndo (.type "object") = some true)
    (kv_NothingToUndo : PySem.W.kitOne K (.ref c_NothingToUndo) (.type "ValueError") = some true)
    (xl_Unreadable : K.lookup c_Unreadable = some (excClassObj nm_Unreadable qu_Unreadable c_Unreadable N_Unreadable bs_Unreadable bm_Unreadable true sn_Unreadable su_Unreadable ab_Unreadable co_Unreadable dd_Unreadable e0_Unreadable e1_Unreadable e2_Unreadable e3_Unreadable e5_Unreadable "ValueError.__new__"))
    (rv_Unreadable : PySem.HandSPX.refsVE bm_Unreadable = true)
    (sa_Unreadable : PySem.W.findIn K (.ref c_Unreadable) "__setattr__" = some (some (.builtin "object.__setattr__")))
    (eC_Unreadable : PySem.W.subIn K (.ref c_Unreadable) (.type "BaseException") = some true)
    (tC_Unreadable : PySem.W.typeIn K (.ref c_Unreadable) = some (.type "type"))
    (kC_Unreadable : PySem.W.keepIn K (.ref c_Unreadable) = true)
    (nv_Unreadable : PySem.W.findIn K (.ref c_Unreadable) "value" = some none)
    (ga_Unreadable : PySem.W.findIn K (.ref c_Unreadable) "__getattribute__" = some (some (.builtin "BaseException.__getattribute__")))
    (gg_Unreadable : PySem.W.findIn K (.ref c_Unreadable) "__getattr__" = some none)
    (hd_Unreadable : PySem.W.hasDictIn K c_Unreadable = true)
    (tI_Unreadable : PySem.W.typeIn K (.ref f_Unreadable__init) = some (.type "function"))
    (iC_Unreadable : PySem.W.isClsIn K c_Unreadable = true)
    (ss_Unreadable : PySem.W.subIn K (.ref c_Unreadable) (.ref c_Unreadable) = some true)
    (ca_Unreadable : PySem.W.findIn K (.ref c_Unreadable) "__class__" = some (some (.builtin "object.__class__")))
    (cn_Unreadable : PySem.W.specialIn K (.builtin "object.__class__") "__get__" = some (some (.builtin "getset_descriptor.__get__")))
    (ct_Unreadable : PySem.W.takesIn K (.builtin "object.__class__") = some true)
    (co_Unreadable : PySem.W.mroIn K c_Unreadable (.type "object") = some true)
    (kv_Unreadable : PySem.W.kitOne K (.ref c_Unreadable) (.type "ValueError") = some true)
    (kk_InvalidNumber_InvalidNumber : PySem.W.kitOne K (.ref c_InvalidNumber) (.ref c_InvalidNumber) = some true)
    (kk_InvalidNumber_InvalidState : PySem.W.kitOne K (.ref c_InvalidNumber) (.ref c_InvalidState) = some false)
    (kk_InvalidNumber_NothingToUndo : PySem.W.kitOne K (.ref c_InvalidNumber) (.ref c_NothingToUndo) = some false)
    (kk_InvalidNumber_StreamError : PySem.W.kitOne K (.ref c_InvalidNumber) (.ref c_StreamError) = some true)
    (kk_InvalidNumber_TooManyLost : PySem.W.kitOne K (.ref c_InvalidNumber) (.ref c_TooManyLost) = some false)
    (kk_InvalidNumber_UnknownMember : PySem.W.kitOne K (.ref c_InvalidNumber) (.ref c_UnknownMember) = some false)
    (kk_InvalidNumber_Unreadable : PySem.W.kitOne K (.ref c_InvalidNumber) (.ref c_Unreadable) = some false)
    (kk_InvalidState_InvalidNumber : PySem.W.kitOne K (.ref c_InvalidState) (.ref c_InvalidNumber) = some false)
    (kk_InvalidState_InvalidState : PySem.W.kitOne K (.ref c_InvalidState) (.ref c_InvalidState) = some true)
    (kk_InvalidState_NothingToUndo : PySem.W.kitOne K (.ref c_InvalidState) (.ref c_NothingToUndo) = some false)
    (kk_InvalidState_StreamError : PySem.W.kitOne K (.ref c_InvalidState) (.ref c_StreamError) = some true)
    (kk_InvalidState_TooManyLost : PySem.W.kitOne K (.ref c_InvalidState) (.ref c_TooManyLost) = some false)
    (kk_InvalidState_UnknownMember : PySem.W.kitOne K (.ref c_InvalidState) (.ref c_UnknownMember) = some false)
    (kk_InvalidState_Unreadable : PySem.W.kitOne K (.ref c_InvalidState) (.ref c_Unreadable) = some false)
    (kk_NothingToUndo_InvalidNumber : PySem.W.kitOne K (.ref c_NothingToUndo) (.ref c_InvalidNumber) = some false)
    (kk_NothingToUndo_InvalidState : PySem.W.kitOne K (.ref c_NothingToUndo) (.ref c_InvalidState) = some false)
    (kk_NothingToUndo_NothingToUndo : PySem.W.kitOne K (.ref c_NothingToUndo) (.ref c_NothingToUndo) = some true)
    (kk_NothingToUndo_StreamError : PySem.W.kitOne K (.ref c_NothingToUndo) (.ref c_StreamError) = some true)
    (kk_NothingToUndo_TooManyLost : PySem.W.kitOne K (.ref c_NothingToUndo) (.ref c_TooManyLost) = some false)
    (kk_NothingToUndo_UnknownMember : PySem.W.kitOne K (.ref c_NothingToUndo) (.ref c_UnknownMember) = some false)
    (kk_NothingToUndo_Unreadable : PySem.W.kitOne K (.ref c_NothingToUndo) (.ref c_Unreadable) = some false)
    (kk_StreamError_InvalidNumber : PySem.W.kitOne K (.ref c_StreamError) (.ref c_InvalidNumber) = some false)
    (kk_StreamError_InvalidState : PySem.W.kitOne K (.ref c_StreamError) (.ref c_InvalidState) = some false)
    (kk_StreamError_NothingToUndo : PySem.W.kitOne K (.ref c_StreamError) (.ref c_NothingToUndo) = some false)
    (kk_StreamError_StreamError : PySem.W.kitOne K (.ref c_StreamError) (.ref c_StreamError) = some true)
    (kk_StreamError_TooManyLost : PySem.W.kitOne K (.ref c_StreamError) (.ref c_TooManyLost) = some false)
    (kk_StreamError_UnknownMember : PySem.W.kitOne K (.ref c_StreamError) (.ref c_UnknownMember) = some false)
    (kk_StreamError_Unreadable : PySem.W.kitOne K (.ref c_StreamError) (.ref c_Unreadable) = some false)
    (kk_TooManyLost_InvalidNumber : PySem.W.kitOne K (.ref c_TooManyLost) (.ref c_InvalidNumber) = some false)
    (kk_TooManyLost_InvalidState : PySem.W.kitOne K (.ref c_TooManyLost) (.ref c_InvalidState) = some false)
    (kk_TooManyLost_NothingToUndo : PySem.W.kitOne K (.ref c_TooManyLost) (.ref c_NothingToUndo) = some false)
    (kk_TooManyLost_StreamError : PySem.W.kitOne K (.ref c_TooManyLost) (.ref c_StreamError) = some true)
    (kk_TooManyLost_TooManyLost : PySem.W.kitOne K (.ref c_TooManyLost) (.ref c_TooManyLost) = some true)
    (kk_TooManyLost_UnknownMember : PySem.W.kitOne K (.ref c_TooManyLost) (.ref c_UnknownMember) = some false)
    (kk_TooManyLost_Unreadable : PySem.W.kitOne K (.ref c_TooManyLost) (.ref c_Unreadable) = some false)
    (kk_UnknownMember_InvalidNumber : PySem.W.kitOne K (.ref c_UnknownMember) (.ref c_InvalidNumber) = some false)
    (kk_UnknownMember_InvalidState : PySem.W.kitOne K (.ref c_UnknownMember) (.ref c_InvalidState) = some false)
    (kk_UnknownMember_NothingToUndo : PySem.W.kitOne K (.ref c_UnknownMember) (.ref c_NothingToUndo) = some false)
    (kk_UnknownMember_StreamError : PySem.W.kitOne K (.ref c_UnknownMember) (.ref c_StreamError) = some true)
    (kk_UnknownMember_TooManyLost : PySem.W.kitOne K (.ref c_UnknownMember) (.ref c_TooManyLost) = some false)
    (kk_UnknownMember_UnknownMember : PySem.W.kitOne K (.ref c_UnknownMember) (.ref c_UnknownMember) = some true)
    (kk_UnknownMember_Unreadable : PySem.W.kitOne K (.ref c_UnknownMember) (.ref c_Unreadable) = some false)
    (kk_Unreadable_InvalidNumber : PySem.W.kitOne K (.ref c_Unreadable) (.ref c_InvalidNumber) = some false)
    (kk_Unreadable_InvalidState : PySem.W.kitOne K (.ref c_Unreadable) (.ref c_InvalidState) = some false)
    (kk_Unreadable_NothingToUndo : PySem.W.kitOne K (.ref c_Unreadable) (.ref c_NothingToUndo) = some false)
    (kk_Unreadable_StreamError : PySem.W.kitOne K (.ref c_Unreadable) (.ref c_StreamError) = some true)
    (kk_Unreadable_TooManyLost : PySem.W.kitOne K (.ref c_Unreadable) (.ref c_TooManyLost) = some false)
    (kk_Unreadable_UnknownMember : PySem.W.kitOne K (.ref c_Unreadable) (.ref c_UnknownMember) = some false)
    (kk_Unreadable_Unreadable : PySem.W.kitOne K (.ref c_Unreadable) (.ref c_Unreadable) = some true)
    (ab_ValueError : PySem.W.nsIn K mainGlobals "ValueError" = some none)
    (ab_abs : PySem.W.nsIn K mainGlobals "abs" = some none)
    (ab_int : PySem.W.nsIn K mainGlobals "int" = some none)
    (ab_isinstance : PySem.W.nsIn K mainGlobals "isinstance" = some none)
    (ab_len : PySem.W.nsIn K mainGlobals "len" = some none)
    (ab_list : PySem.W.nsIn K mainGlobals "list" = some none)
    (ab_max : PySem.W.nsIn K mainGlobals "max" = some none)
    (ab_min : PySem.W.nsIn K mainGlobals "min" = some none)
    (ab_range : PySem.W.nsIn K mainGlobals "range" = some none)
    (ab_repr : PySem.W.nsIn K mainGlobals "repr" = some none)
    : ∃ fd : FuncData, (∀ (s : Shared) (v : Value), BindsTo s fd ⟨[v], []⟩ [("script", v)]) ∧ ∀ base : Heap, K.In base → base.Ns mainGlobals mg → FnG l.prog w K mg base CX0 9 fa fd ["script"] (sp_law K) := by
  have e := hfa.symm.trans (PySem.W.mg_of X G a_law)
  cases e
  have T : Txt K mg ⟨f_StreamError__init, _, f_InvalidNumber__init, _, f_InvalidState__init, _, f_UnknownMember__init, _, f_TooManyLost__init, _, f_NothingToUndo__init, _, f_Unreadable__init, _, f_purse, _, f_coin, _, f_wv_stirred, _, f_constructed, _, f_classes, _, f_thing, _, f_right, _, _, _, c_StreamError, c_InvalidNumber, c_InvalidState, c_UnknownMember, c_TooManyLost, c_NothingToUndo, c_Unreadable⟩ :=
    { F_StreamError__init := fun_mk (st := s_StreamError__init) l_StreamError__init c_StreamError__init k_StreamError__init,
      B_StreamError__init := (fun_mk (st := s_StreamError__init) l_StreamError__init c_StreamError__init k_StreamError__init).binds (ps := ["self", "value"]) fun _ _ _ _ _ _ us hl => match us, hl with | [_, _], _ => rfl,
      F_InvalidNumber__init := fun_mk (st := s_InvalidNumber__init) l_InvalidNumber__init c_InvalidNumber__init k_InvalidNumber__init,
      B_InvalidNumber__init := (fun_mk (st := s_InvalidNumber__init) l_InvalidNumber__init c_InvalidNumber__init k_InvalidNumber__init).binds (ps := ["self", "value"]) fun _ _ _ _ _ _ us hl => match us, hl with | [_, _], _ => rfl,
      F_InvalidState__init := fun_mk (st := s_InvalidState__init) l_InvalidState__init c_InvalidState__init k_InvalidState__init,
      B_InvalidState__init := (fun_mk (st := s_InvalidState__init) l_InvalidState__init c_InvalidState__init k_InvalidState__init).binds (ps := ["self", "value"]) fun _ _ _ _ _ _ us hl => match us, hl with | [_, _], _ => rfl,
      F_UnknownMember__init := fun_mk (st := s_UnknownMember__init) l_UnknownMember__init c_UnknownMember__init k_UnknownMember__init,
      B_UnknownMember__init := (fun_mk (st := s_UnknownMember__init) l_UnknownMember__init c_UnknownMember__init k_UnknownMember__init).binds (ps := ["self", "value"]) fun _ _ _ _ _ _ us hl => match us, hl with | [_, _], _ => rfl,
      F_TooManyLost__init := fun_mk (st := s_TooManyLost__init) l_TooManyLost__init c_TooManyLost__init k_TooManyLost__init,
      B_TooManyLost__init := (fun_mk (st := s_TooManyLost__init) l_TooManyLost__init c_TooManyLost__init k_TooManyLost__init).binds (ps := ["self", "value"]) fun _ _ _ _ _ _ us hl => match us, hl with | [_, _], _ => rfl,
      F_NothingToUndo__init := fun_mk (st := s_NothingToUndo__init) l_NothingToUndo__init c_NothingToUndo__init k_NothingToUndo__init,
      B_NothingToUndo__init := (fun_mk (st := s_NothingToUndo__init) l_NothingToUndo__init c_NothingToUndo__init k_NothingToUndo__init).binds (ps := ["self", "value"]) fun _ _ _ _ _ _ us hl => match us, hl with | [_, _], _ => rfl,
      F_Unreadable__init := fun_mk (st := s_Unreadable__init) l_Unreadable__init c_Unreadable__init k_Unreadable__init,
      B_Unreadable__init := (fun_mk (st := s_Unreadable__init) l_Unreadable__init c_Unreadable__init k_Unreadable__init).binds (ps := ["self", "value"]) fun _ _ _ _ _ _ us hl => match us, hl with | [_, _], _ => rfl,
      F_purse := fun_mk (st := s_purse) l_purse c_purse k_purse,
      g_purse := PySem.W.mg_of X G a_purse,
      B_purse := (fun_mk (st := s_purse) l_purse c_purse k_purse).binds (ps := ["script", "place"]) fun _ _ _ _ _ _ us hl => match us, hl with | [_, _], _ => rfl,
      F_coin := fun_mk (st := s_coin) l_coin c_coin k_coin,
      g_coin := PySem.W.mg_of X G a_coin,
      B_coin := (fun_mk (st := s_coin) l_coin c_coin k_coin).binds (ps := ["purse", "many"]) fun _ _ _ _ _ _ us hl => match us, hl with | [_, _], _ => rfl,
      F_wv_stirred := fun_mk (st := s_wv_stirred) l_wv_stirred c_wv_stirred k_wv_stirred,
      g_wv_stirred := PySem.W.mg_of X G a_wv_stirred,
      B_wv_stirred := (fun_mk (st := s_wv_stirred) l_wv_stirred c_wv_stirred k_wv_stirred).binds (ps := ["purse", "row"]) fun _ _ _ _ _ _ us hl => match us, hl with | [_, _], _ => rfl,
      F_constructed := fun_mk (st := s_constructed) l_constructed c_constructed k_constructed,
      g_constructed := PySem.W.mg_of X G a_constructed,
      B_constructed := (fun_mk (st := s_constructed) l_constructed c_constructed k_constructed).binds (ps := ["rank", "thing", "named"]) fun _ _ _ _ _ _ us hl => match us, hl with | [_, _, _], _ => rfl,
      F_classes := fun_mk (st := s_classes) l_classes c_classes k_classes,
      g_classes := PySem.W.mg_of X G a_classes,
      B_classes := (fun_mk (st := s_classes) l_classes c_classes k_classes).binds (ps := ["kept"]) fun _ _ _ _ _ _ us hl => match us, hl with | [_], _ => rfl,
      F_thing := fun_mk (st := s_thing) l_thing c_thing k_thing,
      g_thing := PySem.W.mg_of X G a_thing,
      B_thing := (fun_mk (st := s_thing) l_thing c_thing k_thing).binds (ps := ["purse"]) fun _ _ _ _ _ _ us hl => match us, hl with | [_], _ => rfl,
      F_right := fun_mk (st := s_right) l_right c_right k_right,
      g_right := PySem.W.mg_of X G a_right,
      B_right := (fun_mk (st := s_right) l_right c_right k_right).binds (ps := ["purse"]) fun _ _ _ _ _ _ us hl => match us, hl with | [_], _ => rfl,
      F_law := fun_mk (st := s_law) l_law c_law k_law,
      g_law := PySem.W.mg_of X G a_law,
      B_law := (fun_mk (st := s_law) l_law c_law k_law).binds (ps := ["script"]) fun _ _ _ _ _ _ us hl => match us, hl with | [_], _ => rfl,
      g_StreamError := PySem.W.mg_of X G ac_StreamError,
      x_StreamError := ⟨⟨⟨_, _, _, _, _, _, _, _, _, _, _, _, _, _, _, xl_StreamError, rv_StreamError⟩, sa_StreamError, eC_StreamError, tC_StreamError, kC_StreamError⟩, nv_StreamError, ⟨ga_StreamError, gg_StreamError, eC_StreamError, hd_StreamError⟩, PySem.W.mg_of X G ac_StreamError, i_StreamError, tI_StreamError, fun_mk (st := s_StreamError__init) l_StreamError__init c_StreamError__init k_StreamError__init, (fun_mk (st := s_StreamError__init) l_StreamError__init c_StreamError__init k_StreamError__init).binds (ps := ["self", "value"]) fun _ _ _ _ _ _ us hl => match us, hl with | [_, _], _ => rfl, sc_StreamError__init, ⟨_, _, _, _, rfl⟩⟩,
      em_StreamError := exm_same eC_StreamError iC_StreamError tC_StreamError ss_StreamError,
      ei_StreamError := ⟨iC_StreamError, ga_StreamError, gg_StreamError, eC_StreamError, ca_StreamError, cn_StreamError, ct_StreamError, co_StreamError, hd_StreamError, nv_StreamError⟩,
      kv_StreamError := kv_StreamError,
      g_InvalidNumber := PySem.W.mg_of X G ac_InvalidNumber,
      x_InvalidNumber := ⟨⟨⟨_, _, _, _, _, _, _, _, _, _, _, _, _, _, _, xl_InvalidNumber, rv_InvalidNumber⟩, sa_InvalidNumber, eC_InvalidNumber, tC_InvalidNumber, kC_InvalidNumber⟩, nv_InvalidNumber, ⟨ga_InvalidNumber, gg_InvalidNumber, eC_InvalidNumber, hd_InvalidNumber⟩, PySem.W.mg_of X G ac_InvalidNumber, i_InvalidNumber, tI_InvalidNumber, fun_mk (st := s_InvalidNumber__init) l_InvalidNumber__init c_InvalidNumber__init k_InvalidNumber__init, (fun_mk (st := s_InvalidNumber__init) l_InvalidNumber__init c_InvalidNumber__init k_InvalidNumber__init).binds (ps := ["self", "value"]) fun _ _ _ _ _ _ us hl => match us, hl with | [_, _], _ => rfl, sc_InvalidNumber__init, ⟨_, _, _, _, rfl⟩⟩,
      em_InvalidNumber := exm_same eC_InvalidNumber iC_InvalidNumber tC_InvalidNumber ss_InvalidNumber,
      ei_InvalidNumber := ⟨iC_InvalidNumber, ga_InvalidNumber, gg_InvalidNumber, eC_InvalidNumber, ca_InvalidNumber, cn_InvalidNumber, ct_InvalidNumber, co_InvalidNumber, hd_InvalidNumber, nv_InvalidNumber⟩,
      kv_InvalidNumber := kv_InvalidNumber,
      g_InvalidState := PySem.W.mg_of X G ac_InvalidState,
      x_InvalidState := ⟨⟨⟨_, _, _, _, _, _, _, _, _, _, _, _, _, _, _, xl_InvalidState, rv_InvalidState⟩, sa_InvalidState, eC_InvalidState, tC_InvalidState, kC_InvalidState⟩, nv_InvalidState, ⟨ga_InvalidState, gg_InvalidState, eC_InvalidState, hd_InvalidState⟩, PySem.W.mg_of X G ac_InvalidState, i_InvalidState, tI_InvalidState, fun_mk (st := s_InvalidState__init) l_InvalidState__init c_InvalidState__init k_InvalidState__init, (fun_mk (st := s_InvalidState__init) l_InvalidState__init c_InvalidState__init k_InvalidState__init).binds (ps := ["self", "value"]) fun _ _ _ _ _ _ us hl => match us, hl with | [_, _], _ => rfl, sc_InvalidState__init, ⟨_, _, _, _, rfl⟩⟩,
      em_InvalidState := exm_same eC_InvalidState iC_InvalidState tC_InvalidState ss_InvalidState,
      ei_InvalidState := ⟨iC_InvalidState, ga_InvalidState, gg_InvalidState, eC_InvalidState, ca_InvalidState, cn_InvalidState, ct_InvalidState, co_InvalidState, hd_InvalidState, nv_InvalidState⟩,
      kv_InvalidState := kv_InvalidState,
      g_UnknownMember := PySem.W.mg_of X G ac_UnknownMember,
      x_UnknownMember := ⟨⟨⟨_, _, _, _, _, _, _, _, _, _, _, _, _, _, _, xl_UnknownMember, rv_UnknownMember⟩, sa_UnknownMember, eC_UnknownMember, tC_UnknownMember, kC_UnknownMember⟩, nv_UnknownMember, ⟨ga_UnknownMember, gg_UnknownMember, eC_UnknownMember, hd_UnknownMember⟩, PySem.W.mg_of X G ac_UnknownMember, i_UnknownMember, tI_UnknownMember, fun_mk (st := s_UnknownMember__init) l_UnknownMember__init c_UnknownMember__init k_UnknownMember__init, (fun_mk (st := s_UnknownMember__init) l_UnknownMember__init c_UnknownMember__init k_UnknownMember__init).binds (ps := ["self", "value"]) fun _ _ _ _ _ _ us hl => match us, hl with | [_, _], _ => rfl, sc_UnknownMember__init, ⟨_, _, _, _, rfl⟩⟩,
      em_UnknownMember := exm_same eC_UnknownMember iC_UnknownMember tC_UnknownMember ss_UnknownMember,
      ei_UnknownMember := ⟨iC_UnknownMember, ga_UnknownMember, gg_UnknownMember, eC_UnknownMember, ca_UnknownMember, cn_UnknownMember, ct_UnknownMember, co_UnknownMember, hd_UnknownMember, nv_UnknownMember⟩,
      kv_UnknownMember := kv_UnknownMember,
      g_TooManyLost := PySem.W.mg_of X G ac_TooManyLost,
      x_TooManyLost := ⟨⟨⟨_, _, _, _, _, _, _, _, _, _, _, _, _, _, _, xl_TooManyLost, rv_TooManyLost⟩, sa_TooManyLost, eC_TooManyLost, tC_TooManyLost, kC_TooManyLost⟩, nv_TooManyLost, ⟨ga_TooManyLost, gg_TooManyLost, eC_TooManyLost, hd_TooManyLost⟩, PySem.W.mg_of X G ac_TooManyLost, i_TooManyLost, tI_TooManyLost, fun_mk (st := s_TooManyLost__init) l_TooManyLost__init c_TooManyLost__init k_TooManyLost__init, (fun_mk (st := s_TooManyLost__init) l_TooManyLost__init c_TooManyLost__init k_TooManyLost__init).binds (ps := ["self", "value"]) fun _ _ _ _ _ _ us hl => match us, hl with | [_, _], _ => rfl, sc_TooManyLost__init, ⟨_, _, _, _, rfl⟩⟩,
      em_TooManyLost := exm_same eC_TooManyLost iC_TooManyLost tC_TooManyLost ss_TooManyLost,
      ei_TooManyLost := ⟨iC_TooManyLost, ga_TooManyLost, gg_TooManyLost, eC_TooManyLost, ca_TooManyLost, cn_TooManyLost, ct_TooManyLost, co_TooManyLost, hd_TooManyLost, nv_TooManyLost⟩,
      kv_TooManyLost := kv_TooManyLost,
      g_NothingToUndo := PySem.W.mg_of X G ac_NothingToUndo,
      x_NothingToUndo := ⟨⟨⟨_, _, _, _, _, _, _, _, _, _, _, _, _, _, _, xl_NothingToUndo, rv_NothingToUndo⟩, sa_NothingToUndo, eC_NothingToUndo, tC_NothingToUndo, kC_NothingToUndo⟩, nv_NothingToUndo, ⟨ga_NothingToUndo, gg_NothingToUndo, eC_NothingToUndo, hd_NothingToUndo⟩, PySem.W.mg_of X G ac_NothingToUndo, i_NothingToUndo, tI_NothingToUndo, fun_mk (st := s_NothingToUndo__init) l_NothingToUndo__init c_NothingToUndo__init k_NothingToUndo__init, (fun_mk (st := s_NothingToUndo__init) l_NothingToUndo__init c_NothingToUndo__init k_NothingToUndo__init).binds (ps := ["self", "value"]) fun _ _ _ _ _ _ us hl => match us, hl with | [_, _], _ => rfl, sc_NothingToUndo__init, ⟨_, _, _, _, rfl⟩⟩,
      em_NothingToUndo := exm_same eC_NothingToUndo iC_NothingToUndo tC_NothingToUndo ss_NothingToUndo,
      ei_NothingToUndo := ⟨iC_NothingToUndo, ga_NothingToUndo, gg_NothingToUndo, eC_NothingToUndo, ca_NothingToUndo, cn_NothingToUndo, ct_NothingToUndo, co_NothingToUndo, hd_NothingToUndo, nv_NothingToUndo⟩,
      kv_NothingToUndo := kv_NothingToUndo,
      g_Unreadable := PySem.W.mg_of X G ac_Unreadable,
      x_Unreadable := ⟨⟨⟨_, _, _, _, _, _, _, _, _, _, _, _, _, _, _, xl_Unreadable, rv_Unreadable⟩, sa_Unreadable, eC_Unreadable, tC_Unreadable, kC_Unreadable⟩, nv_Unreadable, ⟨ga_Unreadable, gg_Unreadable, eC_Unreadable, hd_Unreadable⟩, PySem.W.mg_of X G ac_Unreadable, i_Unreadable, tI_Unreadable, fun_mk (st := s_Unreadable__init) l_Unreadable__init c_Unreadable__init k_Unreadable__init, (fun_mk (st := s_Unreadable__init) l_Unreadable__init c_Unreadable__init k_Unreadable__init).binds (ps := ["self", "value"]) fun _ _ _ _ _ _ us hl => match us, hl with | [_, _], _ => rfl, sc_Unreadable__init, ⟨_, _, _, _, rfl⟩⟩,
      em_Unreadable := exm_same eC_Unreadable iC_Unreadable tC_Unreadable ss_Unreadable,
      ei_Unreadable := ⟨iC_Unreadable, ga_Unreadable, gg_Unreadable, eC_Unreadable, ca_Unreadable, cn_Unreadable, ct_Unreadable, co_Unreadable, hd_Unreadable, nv_Unreadable⟩,
      kv_Unreadable := kv_Unreadable,
      kk_InvalidNumber_InvalidNumber := kk_InvalidNumber_InvalidNumber,
      kk_InvalidNumber_InvalidState := kk_InvalidNumber_InvalidState,
      kk_InvalidNumber_NothingToUndo := kk_InvalidNumber_NothingToUndo,
      kk_InvalidNumber_StreamError := kk_InvalidNumber_StreamError,
      kk_InvalidNumber_TooManyLost := kk_InvalidNumber_TooManyLost,
      kk_InvalidNumber_UnknownMember := kk_InvalidNumber_UnknownMember,
      kk_InvalidNumber_Unreadable := kk_InvalidNumber_Unreadable,
      kk_InvalidState_InvalidNumber := kk_InvalidState_InvalidNumber,
      kk_InvalidState_InvalidState := kk_InvalidState_InvalidState,
      kk_InvalidState_NothingToUndo := kk_InvalidState_NothingToUndo,
      kk_InvalidState_StreamError := kk_InvalidState_StreamError,
      kk_InvalidState_TooManyLost := kk_InvalidState_TooManyLost,
      kk_InvalidState_UnknownMember := kk_InvalidState_UnknownMember,
      kk_InvalidState_Unreadable := kk_InvalidState_Unreadable,
      kk_NothingToUndo_InvalidNumber := kk_NothingToUndo_InvalidNumber,
      kk_NothingToUndo_InvalidState := kk_NothingToUndo_InvalidState,
      kk_NothingToUndo_NothingToUndo := kk_NothingToUndo_NothingToUndo,
      kk_NothingToUndo_StreamError := kk_NothingToUndo_StreamError,
      kk_NothingToUndo_TooManyLost := kk_NothingToUndo_TooManyLost,
      kk_NothingToUndo_UnknownMember := kk_NothingToUndo_UnknownMember,
      kk_NothingToUndo_Unreadable := kk_NothingToUndo_Unreadable,
      kk_StreamError_InvalidNumber := kk_StreamError_InvalidNumber,
      kk_StreamError_InvalidState := kk_StreamError_InvalidState,
      kk_StreamError_NothingToUndo := kk_StreamError_NothingToUndo,
      kk_StreamError_StreamError := kk_StreamError_StreamError,
      kk_StreamError_TooManyLost := kk_StreamError_TooManyLost,
      kk_StreamError_UnknownMember := kk_StreamError_UnknownMember,
      kk_StreamError_Unreadable := kk_StreamError_Unreadable,
      kk_TooManyLost_InvalidNumber := kk_TooManyLost_InvalidNumber,
      kk_TooManyLost_InvalidState := kk_TooManyLost_InvalidState,
      kk_TooManyLost_NothingToUndo := kk_TooManyLost_NothingToUndo,
      kk_TooManyLost_StreamError := kk_TooManyLost_StreamError,
      kk_TooManyLost_TooManyLost := kk_TooManyLost_TooManyLost,
      kk_TooManyLost_UnknownMember := kk_TooManyLost_UnknownMember,
      kk_TooManyLost_Unreadable := kk_TooManyLost_Unreadable,
      kk_UnknownMember_InvalidNumber := kk_UnknownMember_InvalidNumber,
      kk_UnknownMember_InvalidState := kk_UnknownMember_InvalidState,
      kk_UnknownMember_NothingToUndo := kk_UnknownMember_NothingToUndo,
      kk_UnknownMember_StreamError := kk_UnknownMember_StreamError,
      kk_UnknownMember_TooManyLost := kk_UnknownMember_TooManyLost,
      kk_UnknownMember_UnknownMember := kk_UnknownMember_UnknownMember,
      kk_UnknownMember_Unreadable := kk_UnknownMember_Unreadable,
      kk_Unreadable_InvalidNumber := kk_Unreadable_InvalidNumber,
      kk_Unreadable_InvalidState := kk_Unreadable_InvalidState,
      kk_Unreadable_NothingToUndo := kk_Unreadable_NothingToUndo,
      kk_Unreadable_StreamError := kk_Unreadable_StreamError,
      kk_Unreadable_TooManyLost := kk_Unreadable_TooManyLost,
      kk_Unreadable_UnknownMember := kk_Unreadable_UnknownMember,
      kk_Unreadable_Unreadable := kk_Unreadable_Unreadable,
      b_ValueError := PySem.W.mg_none_of X G ab_ValueError,
      b_abs := PySem.W.mg_none_of X G ab_abs,
      b_int := PySem.W.mg_none_of X G ab_int,
      b_isinstance := PySem.W.mg_none_of X G ab_isinstance,
      b_len := PySem.W.mg_none_of X G ab_len,
      b_list := PySem.W.mg_none_of X G ab_list,
      b_max := PySem.W.mg_none_of X G ab_max,
      b_min := PySem.W.mg_none_of X G ab_min,
      b_range := PySem.W.mg_none_of X G ab_range,
      b_repr := PySem.W.mg_none_of X G ab_repr }
  exact ⟨PySem.W.fnOf "law" "law" (defArgs s_law) (defBody s_law) (defScope s_law) .none kV_law dc_law pm_law an_law cd_law ct_law, fun s v => .of_eq rfl, fun base _ _ => okG_law T⟩
end Lw
open PySem PySem.W PyProof.Rows
set_option maxRecDepth 100000 in
set_option maxHeartbeats 0 in
theorem PySem.Challenge.cw_oneforall_k07_classes_of_errors_holds : PySem.Challenge.rw_oneforall_k07_classes_of_errors.Holds := by
  w_on; o_law; k_head; (case hw => w_witness2)
  k_fill
  refine Ob.walkG (l := PySem.Challenge.rw_oneforall_k07_classes_of_errors) (n := 63) (k := 9) (x := "script") (sp := Lw.sp_law) rfl (by decide) rfl ⟨⟨rfl, by decide, by decide⟩, rfl⟩ (fun w h Y => PySem.W.kIn_of Y) ?F (fun K H a ns hl _ hS => ⟨a, ns, rfl, hS, hl, fun _ => rfl⟩)
  case F =>
    intro w mg fa h KX G hmg
    refine' Lw.all_mk KX G hmg ?ac_StreamError ?i_StreamError ?ac_InvalidNumber ?i_InvalidNumber ?ac_InvalidState ?i_InvalidState ?ac_UnknownMember ?i_UnknownMember ?ac_TooManyLost ?i_TooManyLost ?ac_NothingToUndo ?i_NothingToUndo ?ac_Unreadable ?i_Unreadable ?l_StreamError__init ?c_StreamError__init ?k_StreamError__init ?l_InvalidNumber__init ?c_InvalidNumber__init ?k_InvalidNumber__init ?l_InvalidState__init ?c_InvalidState__init ?k_InvalidState__init ?l_UnknownMember__init ?c_UnknownMember__init ?k_UnknownMember__init ?l_TooManyLost__init ?c_TooManyLost__init ?k_TooManyLost__init ?l_NothingToUndo__init ?c_NothingToUndo__init ?k_NothingToUndo__init ?l_Unreadable__init ?c_Unreadable__init ?k_Unreadable__init ?a_purse ?l_purse ?c_purse ?k_purse ?a_coin ?l_coin ?c_coin ?k_coin ?a_wv_stirred ?l_wv_stirred ?c_wv_stirred ?k_wv_stirred ?a_constructed ?l_constructed ?c_constructed ?k_constructed ?a_classes ?l_classes ?c_classes ?k_classes ?a_thing ?l_thing ?c_thing ?k_thing ?a_right ?l_right ?c_right ?k_right ?a_law ?l_law ?c_law ?k_law ?xl_StreamError ?rv_StreamError ?sa_StreamError ?eC_StreamError ?tC_StreamError ?kC_StreamError ?nv_StreamError ?ga_StreamError ?gg_StreamError ?hd_StreamError ?tI_StreamError ?iC_StreamError ?ss_StreamError ?ca_StreamError ?cn_StreamError ?ct_StreamError ?co_StreamError ?kv_StreamError ?xl_InvalidNumber ?rv_InvalidNumber ?sa_InvalidNumber ?eC_InvalidNumber ?tC_InvalidNumber ?kC_InvalidNumber ?nv_InvalidNumber ?ga_InvalidNumber ?gg_InvalidNumber ?hd_InvalidNumber ?tI_InvalidNumber ?iC_InvalidNumber ?ss_InvalidNumber ?ca_InvalidNumber ?cn_InvalidNumber ?ct_InvalidNumber ?co_InvalidNumber ?kv_InvalidNumber ?xl_InvalidState ?rv_InvalidState ?sa_InvalidState ?eC_InvalidState ?tC_InvalidState ?kC_InvalidState ?nv_InvalidState ?ga_InvalidState ?gg_InvalidState ?hd_InvalidState ?tI_InvalidState ?iC_InvalidState ?ss_InvalidState ?ca_InvalidState ?cn_InvalidState ?ct_InvalidState ?co_InvalidState ?kv_InvalidState ?xl_UnknownMember ?rv_UnknownMember ?sa_UnknownMember ?eC_UnknownMember ?tC_UnknownMember ?kC_UnknownMember ?nv_UnknownMember ?ga_UnknownMember ?gg_UnknownMember ?hd_UnknownMember ?tI_UnknownMember ?iC_UnknownMember ?ss_UnknownMember ?ca_UnknownMember ?cn_UnknownMember ?ct_UnknownMember ?co_UnknownMember ?kv_UnknownMember ?xl_TooManyLost ?rv_TooManyLost ?sa_TooManyLost ?eC_TooManyLost ?tC_TooManyLost ?kC_TooManyLost ?nv_TooManyLost ?ga_TooManyLost ?gg_TooManyLost ?hd_TooManyLost ?tI_TooManyLost ?iC_TooManyLost ?ss_TooManyLost ?ca_TooManyLost ?cn_TooManyLost ?ct_TooManyLost ?co_TooManyLost ?kv_TooManyLost ?xl_NothingToUndo ?rv_NothingToUndo ?sa_NothingToUndo ?eC_NothingToUndo ?tC_NothingToUndo ?kC_NothingToUndo ?nv_NothingToUndo ?ga_NothingToUndo ?gg_NothingToUndo ?hd_NothingToUndo ?tI_NothingToUndo ?iC_NothingToUndo ?ss_NothingToUndo ?ca_NothingToUndo ?cn_NothingToUndo ?ct_NothingToUndo ?co_NothingToUndo ?kv_NothingToUndo ?xl_Unreadable ?rv_Unreadable ?sa_Unreadable ?eC_Unreadable ?tC_Unreadable ?kC_Unreadable ?nv_Unreadable ?ga_Unreadable ?gg_Unreadable ?hd_Unreadable ?tI_Unreadable ?iC_Unreadable ?ss_Unreadable ?ca_Unreadable ?cn_Unreadable ?ct_Unreadable ?co_Unreadable ?kv_Unreadable ?kk_InvalidNumber_InvalidNumber ?kk_InvalidNumber_InvalidState ?kk_InvalidNumber_NothingToUndo ?kk_InvalidNumber_StreamError ?kk_InvalidNumber_TooManyLost ?kk_InvalidNumber_UnknownMember ?kk_InvalidNumber_Unreadable ?kk_InvalidState_InvalidNumber ?kk_InvalidState_InvalidState ?kk_InvalidState_NothingToUndo ?kk_InvalidState_StreamError ?kk_InvalidState_TooManyLost ?kk_InvalidState_UnknownMember ?kk_InvalidState_Unreadable ?kk_NothingToUndo_InvalidNumber ?kk_NothingToUndo_InvalidState ?kk_NothingToUndo_NothingToUndo ?kk_NothingToUndo_StreamError ?kk_NothingToUndo_TooManyLost ?kk_NothingToUndo_UnknownMember ?kk_NothingToUndo_Unreadable ?kk_StreamError_InvalidNumber ?kk_StreamError_InvalidState ?kk_StreamError_NothingToUndo ?kk_StreamError_StreamError ?kk_StreamError_TooManyLost ?kk_StreamError_UnknownMember ?kk_StreamError_Unreadable ?kk_TooManyLost_InvalidNumber ?kk_TooManyLost_InvalidState ?kk_TooManyLost_NothingToUndo ?kk_TooManyLost_StreamError ?kk_TooManyLost_TooManyLost ?kk_TooManyLost_UnknownMember ?kk_TooManyLost_Unreadable ?kk_UnknownMember_InvalidNumber ?kk_UnknownMember_InvalidState ?kk_UnknownMember_NothingToUndo ?kk_UnknownMember_StreamError ?kk_UnknownMember_TooManyLost ?kk_UnknownMember_UnknownMember ?kk_UnknownMember_Unreadable ?kk_Unreadable_InvalidNumber ?kk_Unreadable_InvalidState ?kk_Unreadable_NothingToUndo ?kk_Unreadable_StreamError ?kk_Unreadable_TooManyLost ?kk_Unreadable_UnknownMember ?kk_Unreadable_Unreadable ?ab_ValueError ?ab_abs ?ab_int ?ab_isinstance ?ab_len ?ab_list ?ab_max ?ab_min ?ab_range ?ab_repr
    (case ac_StreamError => first | k_is | rfl | decide +kernel)
    (case i_StreamError => first | k_is | rfl | decide +kernel)
    (case ac_InvalidNumber => first | k_is | rfl | decide +kernel)
    (case i_InvalidNumber => first | k_is | rfl | decide +kernel)
    (case ac_InvalidState => first | k_is | rfl | decide +kernel)
    (case i_InvalidState => first | k_is | rfl | decide +kernel)
    (case ac_UnknownMember => first | k_is | rfl | decide +kernel)
    (case i_UnknownMember => first | k_is | rfl | decide +kernel)
    (case ac_TooManyLost => first | k_is | rfl | decide +kernel)
    (case i_TooManyLost => first | k_is | rfl | decide +kernel)
    (case ac_NothingToUndo => first | k_is | rfl | decide +kernel)
    (case i_NothingToUndo => first | k_is | rfl | decide +kernel)
    (case ac_Unreadable => first | k_is | rfl | decide +kernel)
    (case i_Unreadable => first | k_is | rfl | decide +kernel)
    (case l_StreamError__init => first | k_is | rfl | decide +kernel)
    (case c_StreamError__init => first | k_is | rfl | decide +kernel)
    (case k_StreamError__init => first | k_is | rfl | decide +kernel)
    (case l_InvalidNumber__init => first | k_is | rfl | decide +kernel)
    (case c_InvalidNumber__init => first | k_is | rfl | decide +kernel)
    (case k_InvalidNumber__init => first | k_is | rfl | decide +kernel)
    (case l_InvalidState__init => first | k_is | rfl | decide +kernel)
    (case c_InvalidState__init => first | k_is | rfl | decide +kernel)
    (case k_InvalidState__init => first | k_is | rfl | decide +kernel)
    (case l_UnknownMember__init => first | k_is | rfl | decide +kernel)
    (case c_UnknownMember__init => first | k_is | rfl | decide +kernel)
    (case k_UnknownMember__init => first | k_is | rfl | decide +kernel)
    (case l_TooManyLost__init => first | k_is | rfl | decide +kernel)
    (case c_TooManyLost__init => first | k_is | rfl | decide +kernel)
    (case k_TooManyLost__init => first | k_is | rfl | decide +kernel)
    (case l_NothingToUndo__init => first | k_is | rfl | decide +kernel)
    (case c_NothingToUndo__init => first | k_is | rfl | decide +kernel)
    (case k_NothingToUndo__init => first | k_is | rfl | decide +kernel)
    (case l_Unreadable__init => first | k_is | rfl | decide +kernel)
    (case c_Unreadable__init => first | k_is | rfl | decide +kernel)
    (case k_Unreadable__init => first | k_is | rfl | decide +kernel)
    (case a_purse => first | k_is | rfl | decide +kernel)
    (case l_purse => first | k_is | rfl | decide +kernel)
    (case c_purse => first | k_is | rfl | decide +kernel)
    (case k_purse => first | k_is | rfl | decide +kernel)
    (case a_coin => first | k_is | rfl | decide +kernel)
    (case l_coin => first | k_is | rfl | decide +kernel)
    (case c_coin => first | k_is | rfl | decide +kernel)
    (case k_coin => first | k_is | rfl | decide +kernel)
    (case a_wv_stirred => first | k_is | rfl | decide +kernel)
    (case l_wv_stirred => first | k_is | rfl | decide +kernel)
    (case c_wv_stirred => first | k_is | rfl | decide +kernel)
    (case k_wv_stirred => first | k_is | rfl | decide +kernel)
    (case a_constructed => first | k_is | rfl | decide +kernel)
    (case l_constructed => first | k_is | rfl | decide +kernel)
    (case c_constructed => first | k_is | rfl | decide +kernel)
    (case k_constructed => first | k_is | rfl | decide +kernel)
    (case a_classes => first | k_is | rfl | decide +kernel)
    (case l_classes => first | k_is | rfl | decide +kernel)
    (case c_classes => first | k_is | rfl | decide +kernel)
    (case k_classes => first | k_is | rfl | decide +kernel)
    (case a_thing => first | k_is | rfl | decide +kernel)
    (case l_thing => first | k_is | rfl | decide +kernel)
    (case c_thing => first | k_is | rfl | decide +kernel)
    (case k_thing => first | k_is | rfl | decide +kernel)
    (case a_right => first | k_is | rfl | decide +kernel)
    (case l_right => first | k_is | rfl | decide +kernel)
    (case c_right => first | k_is | rfl | decide +kernel)
    (case k_right => first | k_is | rfl | decide +kernel)
    (case a_law => first | k_is | rfl | decide +kernel)
    (case l_law => first | k_is | rfl | decide +kernel)
    (case c_law => first | k_is | rfl | decide +kernel)
    (case k_law => first | k_is | rfl | decide +kernel)
    (case xl_StreamError => first | k_is | rfl | decide +kernel)
    (case rv_StreamError => first | k_is | rfl | decide +kernel)
    (case sa_StreamError => first | k_is | rfl | decide +kernel)
    (case eC_StreamError => first | k_is | rfl | decide +kernel)
    (case tC_StreamError => first | k_is | rfl | decide +kernel)
    (case kC_StreamError => first | k_is | rfl | decide +kernel)
    (case nv_StreamError => first | k_is | rfl | decide +kernel)
    (case ga_StreamError => first | k_is | rfl | decide +kernel)
    (case gg_StreamError => first | k_is | rfl | decide +kernel)
    (case hd_StreamError => first | k_is | rfl | decide +kernel)
    (case tI_StreamError => first | k_is | rfl | decide +kernel)
    (case iC_StreamError => first | k_is | rfl | decide +kernel)
    (case ss_StreamError => first | k_is | rfl | decide +kernel)
    (case ca_StreamError => first | k_is | rfl | decide +kernel)
    (case cn_StreamError => first | k_is | rfl | decide +kernel)
    (case ct_StreamError => first | k_is | rfl | decide +kernel)
    (case co_StreamError => first | k_is | rfl | decide +kernel)
    (case kv_StreamError => first | k_is | rfl | decide +kernel)
    (case xl_InvalidNumber => first | k_is | rfl | decide +kernel)
    (case rv_InvalidNumber => first | k_is | rfl | decide +kernel)
    (case sa_InvalidNumber => first | k_is | rfl | decide +kernel)
    (case eC_InvalidNumber => first | k_is | rfl | decide +kernel)
    (case tC_InvalidNumber => first | k_is | rfl | decide +kernel)
    (case kC_InvalidNumber => first | k_is | rfl | decide +kernel)
    (case nv_InvalidNumber => first | k_is | rfl | decide +kernel)
    (case ga_InvalidNumber => first | k_is | rfl | decide +kernel)
    (case gg_InvalidNumber => first | k_is | rfl | decide +kernel)
    (case hd_InvalidNumber => first | k_is | rfl | decide +kernel)
    (case tI_InvalidNumber => first | k_is | rfl | decide +kernel)
    (case iC_InvalidNumber => first | k_is | rfl | decide +kernel)
    (case ss_InvalidNumber => first | k_is | rfl | decide +kernel)
    (case ca_InvalidNumber => first | k_is | rfl | decide +kernel)
    (case cn_InvalidNumber => first | k_is | rfl | decide +kernel)
    (case ct_InvalidNumber => first | k_is | rfl | decide +kernel)
    (case co_InvalidNumber => first | k_is | rfl | decide +kernel)
    (case kv_InvalidNumber => first | k_is | rfl | decide +kernel)
    (case xl_InvalidState => first | k_is | rfl | decide +kernel)
    (case rv_InvalidState => first | k_is | rfl | decide +kernel)
    (case sa_InvalidState => first | k_is | rfl | decide +kernel)
    (case eC_InvalidState => first | k_is | rfl | decide +kernel)
    (case tC_InvalidState => first | k_is | rfl | decide +kernel)
    (case kC_InvalidState => first | k_is | rfl | decide +kernel)
    (case nv_InvalidState => first | k_is | rfl | decide +kernel)
    (case ga_InvalidState => first | k_is | rfl | decide +kernel)
    (case gg_InvalidState => first | k_is | rfl | decide +kernel)
    (case hd_InvalidState => first | k_is | rfl | decide +kernel)
    (case tI_InvalidState => first | k_is | rfl | decide +kernel)
    (case iC_InvalidState => first | k_is | rfl | decide +kernel)
    (case ss_InvalidState => first | k_is | rfl | decide +kernel)
    (case ca_InvalidState => first | k_is | rfl | decide +kernel)
    (case cn_InvalidState => first | k_is | rfl | decide +kernel)
    (case ct_InvalidState => first | k_is | rfl | decide +kernel)
    (case co_InvalidState => first | k_is | rfl | decide +kernel)
    (case kv_InvalidState => first | k_is | rfl | decide +kernel)
    (case xl_UnknownMember => first | k_is | rfl | decide +kernel)
    (case rv_UnknownMember => first | k_is | rfl | decide +kernel)
    (case sa_UnknownMember => first | k_is | rfl | decide +kernel)
    (case eC_UnknownMember => first | k_is | rfl | decide +kernel)
    (case tC_UnknownMember => first | k_is | rfl | decide +kernel)
    (case kC_UnknownMember => first | k_is | rfl | decide +kernel)
    (case nv_UnknownMember => first | k_is | rfl | decide +kernel)
    (case ga_UnknownMember => first | k_is | rfl | decide +kernel)
    (case gg_UnknownMember => first | k_is | rfl | decide +kernel)
    (case hd_UnknownMember => first | k_is | rfl | decide +kernel)
    (case tI_UnknownMember => first | k_is | rfl | decide +kernel)
    (case iC_UnknownMember => first | k_is | rfl | decide +kernel)
    (case ss_UnknownMember => first | k_is | rfl | decide +kernel)
    (case ca_UnknownMember => first | k_is | rfl | decide +kernel)
    (case cn_UnknownMember => first | k_is | rfl | decide +kernel)
    (case ct_UnknownMember => first | k_is | rfl | decide +kernel)
    (case co_UnknownMember => first | k_is | rfl | decide +kernel)
    (case kv_UnknownMember => first | k_is | rfl | decide +kernel)
    (case xl_TooManyLost => first | k_is | rfl | decide +kernel)
    (case rv_TooManyLost => first | k_is | rfl | decide +kernel)
    (case sa_TooManyLost => first | k_is | rfl | decide +kernel)
    (case eC_TooManyLost => first | k_is | rfl | decide +kernel)
    (case tC_TooManyLost => first | k_is | rfl | decide +kernel)
    (case kC_TooManyLost => first | k_is | rfl | decide +kernel)
    (case nv_TooManyLost => first | k_is | rfl | decide +kernel)
    (case ga_TooManyLost => first | k_is | rfl | decide +kernel)
    (case gg_TooManyLost => first | k_is | rfl | decide +kernel)
    (case hd_TooManyLost => first | k_is | rfl | decide +kernel)
    (case tI_TooManyLost => first | k_is | rfl | decide +kernel)
    (case iC_TooManyLost => first | k_is | rfl | decide +kernel)
    (case ss_TooManyLost => first | k_is | rfl | decide +kernel)
    (case ca_TooManyLost => first | k_is | rfl | decide +kernel)
    (case cn_TooManyLost => first | k_is | rfl | decide +kernel)
    (case ct_TooManyLost => first | k_is | rfl | decide +kernel)
    (case co_TooManyLost => first | k_is | rfl | decide +kernel)
    (case kv_TooManyLost => first | k_is | rfl | decide +kernel)
    (case xl_NothingToUndo => first | k_is | rfl | decide +kernel)
    (case rv_NothingToUndo => first | k_is | rfl | decide +kernel)
    (case sa_NothingToUndo => first | k_is | rfl | decide +kernel)
    (case eC_NothingToUndo => first | k_is | rfl | decide +kernel)
    (case tC_NothingToUndo => first | k_is | rfl | decide +kernel)
    (case kC_NothingToUndo => first | k_is | rfl | decide +kernel)
    (case nv_NothingToUndo => first | k_is | rfl | decide +kernel)
    (case ga_NothingToUndo => first | k_is | rfl | decide +kernel)
    (case gg_NothingToUndo => first | k_is | rfl | decide +kernel)
    (case hd_NothingToUndo => first | k_is | rfl | decide +kernel)
    (case tI_NothingToUndo => first | k_is | rfl | decide +kernel)
    (case iC_NothingToUndo => first | k_is | rfl | decide +kernel)
    (case ss_NothingToUndo => first | k_is | rfl | decide +kernel)
    (case ca_NothingToUndo => first | k_is | rfl | decide +kernel)
    (case cn_NothingToUndo => first | k_is | rfl | decide +kernel)
    (case ct_NothingToUndo => first | k_is | rfl | decide +kernel)
    (case co_NothingToUndo => first | k_is | rfl | decide +kernel)
    (case kv_NothingToUndo => first | k_is | rfl | decide +kernel)
    (case xl_Unreadable => first | k_is | rfl | decide +kernel)
    (case rv_Unreadable => first | k_is | rfl | decide +kernel)
    (case sa_Unreadable => first | k_is | rfl | decide +kernel)
    (case eC_Unreadable => first | k_is | rfl | decide +kernel)
    (case tC_Unreadable => first | k_is | rfl | decide +kernel)
    (case kC_Unreadable => first | k_is | rfl | decide +kernel)
    (case nv_Unreadable => first | k_is | rfl | decide +kernel)
    (case ga_Unreadable => first | k_is | rfl | decide +kernel)
    (case gg_Unreadable => first | k_is | rfl | decide +kernel)
    (case hd_Unreadable => first | k_is | rfl | decide +kernel)
    (case tI_Unreadable => first | k_is | rfl | decide +kernel)
    (case iC_Unreadable => first | k_is | rfl | decide +kernel)
    (case ss_Unreadable => first | k_is | rfl | decide +kernel)
    (case ca_Unreadable => first | k_is | rfl | decide +kernel)
    (case cn_Unreadable => first | k_is | rfl | decide +kernel)
    (case ct_Unreadable => first | k_is | rfl | decide +kernel)
    (case co_Unreadable => first | k_is | rfl | decide +kernel)
    (case kv_Unreadable => first | k_is | rfl | decide +kernel)
    (case kk_InvalidNumber_InvalidNumber => first | k_is | rfl | decide +kernel)
    (case kk_InvalidNumber_InvalidState => first | k_is | rfl | decide +kernel)
    (case kk_InvalidNumber_NothingToUndo => first | k_is | rfl | decide +kernel)
    (case kk_InvalidNumber_StreamError => first | k_is | rfl | decide +kernel)
    (case kk_InvalidNumber_TooManyLost => first | k_is | rfl | decide +kernel)
    (case kk_InvalidNumber_UnknownMember => first | k_is | rfl | decide +kernel)
    (case kk_InvalidNumber_Unreadable => first | k_is | rfl | decide +kernel)
    (case kk_InvalidState_InvalidNumber => first | k_is | rfl | decide +kernel)
    (case kk_InvalidState_InvalidState => first | k_is | rfl | decide +kernel)
    (case kk_InvalidState_NothingToUndo => first | k_is | rfl | decide +kernel)
    (case kk_InvalidState_StreamError => first | k_is | rfl | decide +kernel)
    (case kk_InvalidState_TooManyLost => first | k_is | rfl | decide +kernel)
    (case kk_InvalidState_UnknownMember => first | k_is | rfl | decide +kernel)
    (case kk_InvalidState_Unreadable => first | k_is | rfl | decide +kernel)
    (case kk_NothingToUndo_InvalidNumber => first | k_is | rfl | decide +kernel)
    (case kk_NothingToUndo_InvalidState => first | k_is | rfl | decide +kernel)
    (case kk_NothingToUndo_NothingToUndo => first | k_is | rfl | decide +kernel)
    (case kk_NothingToUndo_StreamError => first | k_is | rfl | decide +kernel)
    (case kk_NothingToUndo_TooManyLost => first | k_is | rfl | decide +kernel)
    (case kk_NothingToUndo_UnknownMember => first | k_is | rfl | decide +kernel)
    (case kk_NothingToUndo_Unreadable => first | k_is | rfl | decide +kernel)
    (case kk_StreamError_InvalidNumber => first | k_is | rfl | decide +kernel)
    (case kk_StreamError_InvalidState => first | k_is | rfl | decide +kernel)
    (case kk_StreamError_NothingToUndo => first | k_is | rfl | decide +kernel)
    (case kk_StreamError_StreamError => first | k_is | rfl | decide +kernel)
    (case kk_StreamError_TooManyLost => first | k_is | rfl | decide +kernel)
    (case kk_StreamError_UnknownMember => first | k_is | rfl | decide +kernel)
    (case kk_StreamError_Unreadable => first | k_is | rfl | decide +kernel)
    (case kk_TooManyLost_InvalidNumber => first | k_is | rfl | decide +kernel)
    (case kk_TooManyLost_InvalidState => first | k_is | rfl | decide +kernel)
    (case kk_TooManyLost_NothingToUndo => first | k_is | rfl | decide +kernel)
    (case kk_TooManyLost_StreamError => first | k_is | rfl | decide +kernel)
    (case kk_TooManyLost_TooManyLost => first | k_is | rfl | decide +kernel)
    (case kk_TooManyLost_UnknownMember => first | k_is | rfl | decide +kernel)
    (case kk_TooManyLost_Unreadable => first | k_is | rfl | decide +kernel)
    (case kk_UnknownMember_InvalidNumber => first | k_is | rfl | decide +kernel)
    (case kk_UnknownMember_InvalidState => first | k_is | rfl | decide +kernel)
    (case kk_UnknownMember_NothingToUndo => first | k_is | rfl | decide +kernel)
    (case kk_UnknownMember_StreamError => first | k_is | rfl | decide +kernel)
    (case kk_UnknownMember_TooManyLost => first | k_is | rfl | decide +kernel)
    (case kk_UnknownMember_UnknownMember => first | k_is | rfl | decide +kernel)
    (case kk_UnknownMember_Unreadable => first | k_is | rfl | decide +kernel)
    (case kk_Unreadable_InvalidNumber => first | k_is | rfl | decide +kernel)
    (case kk_Unreadable_InvalidState => first | k_is | rfl | decide +kernel)
    (case kk_Unreadable_NothingToUndo => first | k_is | rfl | decide +kernel)
    (case kk_Unreadable_StreamError => first | k_is | rfl | decide +kernel)
    (case kk_Unreadable_TooManyLost => first | k_is | rfl | decide +kernel)
    (case kk_Unreadable_UnknownMember => first | k_is | rfl | decide +kernel)
    (case kk_Unreadable_Unreadable => first | k_is | rfl | decide +kernel)
    (case ab_ValueError => first | k_is | rfl | decide +kernel)
    (case ab_abs => first | k_is | rfl | decide +kernel)
    (case ab_int => first | k_is | rfl | decide +kernel)
    (case ab_isinstance => first | k_is | rfl | decide +kernel)
    (case ab_len => first | k_is | rfl | decide +kernel)
    (case ab_list => first | k_is | rfl | decide +kernel)
    (case ab_max => first | k_is | rfl | decide +kernel)
    (case ab_min => first | k_is | rfl | decide +kernel)
    (case ab_range => first | k_is | rfl | decide +kernel)
    (case ab_repr => first | k_is | rfl | decide +kernel)

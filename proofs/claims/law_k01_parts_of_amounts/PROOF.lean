import PyProof.Rows.All
import Wide.All
import OpenK.AllK
import Wide.FinOn
import HandS.ForMost
import HandS.FStrTup
import PySem.Challenge.RW_acquit_k01_parts_of_amounts
set_option Elab.async false
set_option maxRecDepth 100000
/-! Calls while no repr is under way: the same judgements as FnOk's, for the surroundings without a guard. -/
namespace Gd
open PySem PySem.Spec PyProof.Rows L2

structure FnG (P : Program) (w : World) (K : PySem.W.Frag) (mg : Str → Option Value) (base : Heap) (CX : CXT) (k : Nat) (f : Addr) (fd : FuncData) (ps : List Str) (sp : Sp) : Prop where
  len : ∀ vs H Q E, sp vs H Q E → vs.length = ps.length
  go : ∀ (A : Around) (outer : List Env) (s : Shared) (H : Hp) (args : Args) (us : List Value) (vs : List V) (Q : VK) (E : XK),
    A.guards = some [] → Room k A → Env0 P w K mg base A outer s H → BindsTo s fd args (ps.zip us) → Vals vs us → sp vs H Q E →
    codeAny (model P w) A (.call (.ref f) args) (CR CX outer P w H s Q E) s

section
variable {P : Program} {w : World} {K : PySem.W.Frag} {mg : Str → Option Value} {base : Heap} {CX : CXT} {k : Nat} {f : Addr} {fd : FuncData} {ps : List Str} {sp : Sp}
theorem FnG.of (F : FnOk P w K mg base CX k f fd ps sp) : FnG P w K mg base CX k f fd ps sp :=
  ⟨F.len, fun A o s H a us vs Q E _ hr e b r q => F.run A o s H a us vs Q E hr e b r q⟩

/-- a def of the text, from its body's reading, which may use that no repr is under way -/
theorem body_ok {x qual : Str} {st : Stmt} {N : List Str} (F : Fun K x qual st f fd) (S : FnScope N ps (defScope st)) (len : ∀ vs H Q E, sp vs H Q E → vs.length = ps.length)
    (hb : ∀ (cdv : Value) (A : Around) (outer : List Env) (s : Shared) (H : Hp) (vs : List V) (Q : VK) (E : XK), A.guards = some [] →
      Room k (A.deeper (envOfC qual (defScope st) s.heap.objs.size f cdv)) → sp vs H Q E →
      ∃ t, PSs (cxOf CX P w K mg base N qual (defScope st) f cdv A outer s H E).nox (defBody st) t ∧ t { nx := fun _ H' => Q .non H', rt := Q } (start N vs) H) :
    FnG P w K mg base CX (k + 1) f fd ps sp := by
  obtain ⟨oc, od, kV, doc, pm, an, cdv, ct, osl, rfl, lk, hcd⟩ := F.ex
  refine ⟨len, ?_⟩
  intro A outer s H args us vs Q E hg hr e0 bt rv hsp
  have whole : s.heap.objs.size = s.heap.objs.size := rfl
  have KX := e0.mod.kin.keeps (h' := s.heap) fun b o e => (e0.bs b o e).1
  have lim := e0.mod.nolimit.keeps (h' := s.heap) fun b o e => (e0.bs b o e).1
  have kinds : ∀ y ∈ ps.zip us, (defScope st).names.lookup y.1 = some .local ∨
      ((defScope st).names.lookup y.1 = some .cell ∧ ((cellsFrom (s.heap.objs.size + 1) (defScope st).names []).lookup y.1).isSome = true) := by
    rintro ⟨n, v⟩ hy
    rcases S.par n (List.of_mem_zip hy).1 with q | q
    · exact .inl q
    · exact .inr ⟨q, PySem.W.cellsFrom_some _ _ _ (.inl q)⟩
  apply codeAny_call_function hr.depth (KX _ _ lk) rfl S.co S.gen rfl (PySem.W.codeRec_of KX hcd)
  apply bt
  apply wpAny_newFunctionEnv_cells S.kind kinds
  intro env he s1 x
  subst he
  refine ⟨lim.keeps x.toInCall.keep, ?_⟩
  apply codeAny_func
  obtain ⟨t, ht, hq⟩ := hb cdv A outer s H vs Q E hg (hr.deeper _) hsp
  have I : Inv (cxOf CX P w K mg base N qual (defScope st) f cdv A outer s H E) [] (start N vs) H s1 := inv_start S hr.hd e0 (len _ _ _ _ hsp) rv x
  refine wpAny_mono (ht.nox.run [] s1 (start N vs) H _ I hq) ?_ (fun e s' hs => hs)
  intro fl s' hs
  cases fl with
  | ret u =>
    obtain ⟨v, _, H', J, r, q⟩ := hs
    exact ⟨v, H', J.os, J.bare, J.base, J.hok, r, q⟩
  | next =>
    obtain ⟨_, H', J, q⟩ := hs
    exact ⟨V.non, H', J.os, J.bare, J.base, J.hok, rfl, q⟩
  | brk =>
    obtain ⟨_, _, _, q⟩ := hs
    exact q.elim
  | cont =>
    obtain ⟨_, _, _, q⟩ := hs
    exact q.elim
end

section
variable {X : Cx} {CX : CXT} {k : Nat} {f : Addr} {fd : FuncData} {ps : List Str} {sp : Sp} {E : XK} {x : Str} {p pos : Pos} {e : Expr} {es : List Expr} {t : TA}
/-- a call of such a def, where no repr is under way -/
theorem pe_callG (hG : X.A.guards = some []) (F : FnG X.prog X.w X.K X.mg X.base CX k f fd ps sp) (hr : Room k X.A) (hg : Gl X x) (hm : X.mg x = some (.ref f)) (hk : PySem.W.keepIn X.K (.ref f) = true) (hb : Binds X.K fd ps []) (hx : Passes CX X E)
    (ha : PA X (e :: es) t) (hdb : (x == ("__debug__" : Str)) = false := by decide)
    (he : starEach (e :: es) X.env = (false, eval e X.env) :: starEach es X.env := by rfl)
    (hpl : (backTo pos (starEach es X.env)).any (·.1) = false := by rfl) :
    PE X (.Call (.Name x p) (e :: es) [] pos) (tCall sp [] E t) := by
  constructor
  intro pins s σ H Q I h
  apply wpAny_Call_Name_kw
  apply ld_glob I hg hm _ hdb
  apply PySem.W.callWith_K (h₀ := X.base) I.ok.mod.kin hk _ he hpl
  refine thn (ha.run pos pins s σ H _ I h) ?_
  rintro us s1 ⟨vs, H1, I1, r, q⟩
  refine ⟨I1.kIn, ?_⟩
  rw [List.append_nil] at q
  have hl : (us ++ []).length = ps.length := by
    rw [List.append_nil, ← r.length]
    exact F.len _ _ _ _ q
  have hb' := hb s1 us I1.kIn hl
  rw [List.append_nil] at hb'
  apply wpAny_call
  refine codeAny_mono (F.go X.A X.stack s1 H1 ⟨us, []⟩ us vs Q E hG hr I1.env0 hb' r q) ?_
  intro r' s' hq
  cases r' with
  | error e' => exact hx pins σ H1 s1 e' s' I1 hq
  | ok fl =>
    cases fl with
    | ret u => exact I1.after hq
    | next => exact hq.elim
    | brk => exact hq.elim
    | cont => exact hq.elim

/-- repr of data: lists and tuples of any depth below sixty -/
theorem call_reprD (hG : X.A.guards = some []) (hu : X.A.units + 64 < cLine) : CallR X (.builtin "repr") (fun xs H Q => ∃ (a : Addr) (d : PyData), xs = [.ref a] ∧ Dp X.K H (.ref a) d ∧ d.hasDict = false ∧
    d.showable = true ∧ d.depth ≤ 60 ∧ d.shown.length ≤ sizeLine ∧ Q (.str d.shown) H) := by
  intro pins s σ H xs us Q I r h
  obtain ⟨a, d, rfl, hd, hnd, hs, hdep, hsz, q⟩ := h
  obtain ⟨u, rfl, ru⟩ := vals1 r
  cases ru
  obtain ⟨as, rd⟩ := Dp.reads I d _ _ hd (show RelV (.ref a) (Value.ref a) from rfl)
  refine repr_of_reads' rd hs (PyData.noDict_hsm hnd) hG (by omega) (fun _ _ e => e) ?_ hsz
  intro h' u tk hk
  exact ⟨.str d.shown, H, I.kept (h' := h') (t' := tk) hk, ⟨u, rfl⟩, q⟩
end

/-! ### the end of a law's row, the same way -/
theorem law_at {P : Program} {w : World} {K : PySem.W.Frag} {mg mb : Str → Option Value} {k : Nat} {fa a : Addr} {fd : FuncData} {x : Str} {sp : Sp} {s₁ : Shared} {vs : List Value} {ns : List Int}
    (KX : K.In s₁.heap) (hns : s₁.heap.Ns mainGlobals mg) (hb : s₁.heap.Ns builtinsNs mb) (hbb : ∀ x : Str, x ≠ "__name__" → mb x = bootBuiltins x) (hlim : s₁.heap.NoLimit) (hgen : s₁.gens = #[])
    (ha : s₁.heap.get? a = some { cls := .type "list", data := .seq vs.toArray }) (hi : IntsAre vs ns) (hl : ns.length ≤ sizeLine) (hr : Room k callerA)
    (F : ∀ base : Heap, K.In base → base.Ns mainGlobals mg → FnG P w K mg base CX0 k fa fd [x] sp) (hbind : ∀ (s : Shared) (u : Value), BindsTo s fd ⟨[u], []⟩ [(x, u)])
    (hsp : ∀ H : Hp, Only H → SqL K H a (ns.map V.int) → sp [.ref a] H (fun v _ => v = .bl true) fun _ _ _ => False) :
    codeAny (model P w) callerA (.call (.ref fa) ⟨[.ref a], []⟩) (fun r s' => r = .ok (.ret (.bool true)) ∧ OldK s₁.heap s'.heap ∧ s'.os = s₁.os ∧ AllBare s'.gens) s₁ := by
  have rv := vals_ints hi
  have lenV := hi.length
  have go : ∀ H : Hp, Only H → SqL K H a (ns.map V.int) → HOk P w H s₁.heap → (∀ b, H b ≠ none → b = a) → (H a ≠ none → K.lookup a = none) →
      codeAny (model P w) callerA (.call (.ref fa) ⟨[.ref a], []⟩) (fun r s' => r = .ok (.ret (.bool true)) ∧ OldK s₁.heap s'.heap ∧ s'.os = s₁.os ∧ AllBare s'.gens) s₁ := by
    intro H hO hS hok hA hK
    have free : ∀ {b : Addr} {o : Obj}, s₁.heap.get? b = some o → (b = a → False) → H b = none := by
      intro b o _ hne
      cases q : H b with
      | none => rfl
      | some u => exact (hne (hA b (by rw [q]; exact fun z => nomatch z))).elim
    have nsK : ∀ {b : Addr} {m : Str → Option Value}, s₁.heap.Ns b m → (hidT s₁.heap H).Ns b m := by
      rintro b m ⟨o, es, ep, e, d, r⟩
      refine ⟨o, es, ep, hidT_get e (free e ?_), d, r⟩
      rintro rfl
      rw [ha] at e
      cases e
      cases d
    have inB : K.In (hidT s₁.heap H) := by
      intro b o e
      refine hidT_get (KX b o e) ?_
      cases q : H b with
      | none => rfl
      | some u =>
        have e' : b = a := hA b (by rw [q]; exact fun z => nomatch z)
        subst e'
        rw [hK (by rw [q]; exact fun z => nomatch z)] at e
        cases e
    obtain ⟨mc, l1, l2⟩ := hlim
    have M : Mod K mg (hidT s₁.heap H) := ⟨inB, nsK hns, ⟨mb, nsK hb, hbb⟩, mc, nsK l1, l2⟩
    have e0 : Env0 P w K mg (hidT s₁.heap H) callerA [] s₁ H :=
      ⟨rfl, M, fun b o e => of_hidT e, Nat.le_of_eq (hidT_size _ _), trivial, fun b z => (List.not_mem_nil z).elim, hok, .of_eq hgen⟩
    have run := (F _ inB (nsK hns)).go callerA [] s₁ H ⟨[.ref a], []⟩ [.ref a] [.ref a] _ _ rfl hr e0 (hbind s₁ (.ref a)) (.cons rfl .nil) (hsp H hO hS)
    refine codeAny_mono run ?_
    intro r s' h
    cases r with
    | error e => exact h.elim
    | ok fl =>
      cases fl with
      | next => exact h.elim
      | brk => exact h.elim
      | cont => exact h.elim
      | ret u =>
        obtain ⟨v, H', os, bare, un, hok', r', q⟩ := h
        have q' : v = .bl true := q
        subst q'
        have ru : u = Value.bool true := r'
        subst ru
        refine ⟨rfl, OldK.of_keep ?_, os, bare⟩
        intro b o e
        cases q : H b with
        | none => exact un.keep b o e q List.not_mem_nil List.not_mem_nil
        | some u =>
          rcases hO b with z | ⟨ob, xs, z⟩
          · rw [q] at z
            cases z
          · have e1 := (hok b _ z).1
            have e2 := (hok' b _ (un.frzs b ob _ z)).1
            rw [e] at e1
            cases e1
            exact e2
  cases hk : K.lookup a with
  | some o =>
    have e := KX a o hk
    rw [ha] at e
    cases e
    refine go (fun _ => none) (fun _ => .inl rfl) (.inr ⟨_, vs.toArray, _, hk, rfl, rfl, rfl, ?_, by simpa using rv⟩) (fun b u z => nomatch z) (fun b z => (z rfl).elim) (fun z => (z rfl).elim)
    rw [List.size_toArray, lenV]
    exact hl
  | none =>
    have at_a : ∀ b u, (if b = a then some (HO.frz { cls := .type "list", data := .seq vs.toArray } (.lst (ns.map V.int))) else none) = some u → b = a ∧ u = HO.frz { cls := .type "list", data := .seq vs.toArray } (.lst (ns.map V.int)) := by
      intro b u z
      by_cases h : b = a
      · rw [if_pos h] at z
        exact ⟨h, (Option.some.inj z).symm⟩
      · rw [if_neg h] at z
        cases z
    refine go (fun b => if b = a then some (.frz { cls := .type "list", data := .seq vs.toArray } (.lst (ns.map V.int))) else none) ?_ (.inl (.inr ⟨_, if_pos rfl⟩)) ?_ ?_ (fun _ => hk)
    · intro b
      by_cases h : b = a
      · exact .inr ⟨_, _, if_pos h⟩
      · exact .inl (if_neg h)
    · intro b u z
      obtain ⟨rfl, rfl⟩ := at_a b u z
      refine ⟨ha, ?_, vs, _, rv, ha⟩
      rw [List.length_map]
      exact hl
    · intro b z
      by_cases h : b = a
      · exact h
      · exact (z (if_neg h)).elim

theorem walk_at63 {l : PySem.W.OpenLaw} {k : Nat} {q : Program} {loose : List Str} {XP : (Str → Option Value) → Heap → Prop} {YP : World → Heap → Prop} {d : DefRec} {K : Params → PySem.W.Frag} {sp : PySem.W.Frag → Sp}
    (hn : l.most = some 63) (hdf : d.params.defaults = []) (hr : Room k callerA) (hY : ∀ (w : World) (h : Heap), YP w h → (K w.params).In h)
    (F : ∀ (w : World) (mg : Str → Option Value) (fa : Addr) (h : Heap), (K w.params).In h → h.Ns mainGlobals mg → mg d.name = some (.ref fa) →
      ∃ fd : FuncData, (∀ (s : Shared) (u : Value), BindsTo s fd ⟨[u], []⟩ [("script", u)]) ∧
        ∀ base : Heap, (K w.params).In base → base.Ns mainGlobals mg → FnG l.prog w (K w.params) mg base CX0 k fa fd ["script"] (sp (K w.params)))
    (hsp : ∀ (K : PySem.W.Frag) (H : Hp) (a : Addr) (ns : List Int), ns.length ≤ 63 → Only H → SqL K H a (ns.map V.int) → sp K [.ref a] H (fun v _ => v = .bl true) fun _ _ _ => False) :
    PySem.W.WalkO q loose XP YP l.row.toRowW d [] (fun f vs => PySem.call f vs) := by
  apply Att.attach_call hn hdf
  intro w s₀ s₁ mg mb fa o pm cd doc a vs ns G Y ho hd hcd hmg hobj hints hlen hg
  obtain ⟨fd, hb, hF⟩ := F w mg fa _ (hY w _ Y) G.T.g hmg
  exact law_at (hY w _ Y) G.T.g G.T.b G.T.builtins G.T.nolimit hg hobj hints (Nat.le_trans hlen (by decide)) hr hF hb (fun H hO hS => hsp _ H a ns hlen hO hS)
end Gd
namespace Own
open PySem L2 Gd
def top (i : Nat) : Stmt := PySem.Challenge.pw_acquit_k01_parts_of_amounts.main.body.getD i (.Pass ⟨0, 0, 0, 0⟩)
abbrev sParts : Stmt := top 2
abbrev sBox : Stmt := top 4
abbrev sTake : Stmt := top 5
abbrev sPick : Stmt := top 6
abbrev sLaw : Stmt := top 7

/-- all that stood is as it was, but what stands at b -/
def Off (b : Addr) (H H' : Hp) : Prop := ∀ p o, H p = some o → p ≠ b → H' p = some o
theorem Off.refl (b : Addr) (H : Hp) : Off b H H := fun _ _ h _ => h
theorem Off.trans {b : Addr} {H H1 H2 : Hp} (x : Off b H H1) (y : Off b H1 H2) : Off b H H2 := fun p o h n => y p o (x p o h n) n
theorem Off.upd {b : Addr} {H H1 : Hp} {o : HO} (x : Off b H H1) : Off b H (upd H1 b o) := fun p u h n => by
  rw [upd_ne n]
  exact x p u h n
theorem Off.new {b p : Addr} {H H1 : Hp} {o : HO} (x : Off b H H1) (hp : H1 p = none) : Off b H (L2.upd H1 p o) := fun q u h n => by
  have h1 := x q u h n
  rw [upd_ne (ne_of_none h1 hp)]
  exact h1

/-- the law's box: what is left of a cell, how often it is to be told, the next place; the cells -/
structure BoxAt (H : Hp) (b l : Addr) (cs : List Int) : Prop where
  bx : ∃ x c a : Int, H b = some (.lst [.int x, .int c, .int a, .ref l]) ∧ 0 ≤ a
  cl : H l = some (.lst (cs.map V.int))
theorem BoxAt.ne {H : Hp} {b l : Addr} {cs : List Int} (B : BoxAt H b l cs) : b ≠ l := by
  obtain ⟨⟨x, c, a, h, _⟩, h2⟩ := B
  refine ne_of h h2 ?_
  intro e
  injection e with e
  cases cs with
  | nil => cases e
  | cons y ys =>
    rw [List.map_cons] at e
    injection e with e1 e2
    cases ys with
    | nil => cases e2
    | cons z zs =>
      rw [List.map_cons] at e2
      injection e2 with e3 e4
      cases zs with
      | nil => cases e4
      | cons t ts =>
        rw [List.map_cons] at e4
        injection e4 with e5 e6
        cases ts with
        | nil => cases e6
        | cons u us =>
          rw [List.map_cons] at e6
          injection e6 with e7 e8
          cases e7
theorem BoxAt.some {H : Hp} {b l : Addr} {cs : List Int} (B : BoxAt H b l cs) : H b ≠ none := by
  obtain ⟨⟨x, c, a, h, _⟩, _⟩ := B
  rw [h]
  exact fun z => nomatch z
theorem BoxAt.new {H : Hp} {b l p : Addr} {cs : List Int} {o : HO} (B : BoxAt H b l cs) (hp : H p = none) : BoxAt (upd H p o) b l cs := by
  obtain ⟨⟨x, c, a, h, ha⟩, h2⟩ := B
  exact ⟨⟨x, c, a, by rw [upd_ne (ne_of_none h hp)]; exact h, ha⟩, by rw [upd_ne (ne_of_none h2 hp)]; exact h2⟩
theorem BoxAt.set {H : Hp} {b l : Addr} {cs : List Int} {x c a : Int} (B : BoxAt H b l cs) (ha : 0 ≤ a) : BoxAt (upd H b (.lst [.int x, .int c, .int a, .ref l])) b l cs :=
  ⟨⟨x, c, a, upd_same, ha⟩, by rw [upd_ne B.ne.symm]; exact B.cl⟩

theorem yes_go {σ : St} {H : Hp} {A B : Hp → Prop} (h : A H) : tYes σ H (fun b H3 => if b = true then A H3 else B H3) := by
  show (if true = true then A H else B H)
  rw [if_pos rfl]
  exact h
def spBox (K : PySem.W.Frag) : Sp := fun vs H Q _ => ∃ (a : Addr) (ns : List Int), vs = [.ref a] ∧ SqL K H a (ns.map V.int) ∧ ns.length ≤ 63 ∧
  ∀ (b l : Addr) (cs : List Int) (H' : Hp), BoxAt H' b l cs → Same H H' → Q (.ref b) H'
def spTake : Sp := fun vs H Q _ => ∃ (b l : Addr) (cs : List Int) (m : Int), vs = [.ref b, .int m] ∧ BoxAt H b l cs ∧ 0 < m ∧ m < 1073741824 ∧
  ∀ (r : Int) (H' : Hp), 0 ≤ r → r < m → BoxAt H' b l cs → Off b H H' → Q (.int r) H'
def spPick : Sp := fun vs H Q _ => ∃ (b l q : Addr) (cs : List Int) (xs : List V), vs = [.ref b, .ref q] ∧ BoxAt H b l cs ∧ H q = some (.lst xs) ∧ q ≠ b ∧ 0 < xs.length ∧ xs.length < 1000 ∧
  ∀ (v : V) (H' : Hp), v ∈ xs → BoxAt H' b l cs → Off b H H' → Q v H'
def spParts : Sp := fun vs H Q _ => ∃ (a s f : Int), vs = [.int a, .int s, .int f] ∧ (0 ≤ a ∧ a < 2 ^ 64) ∧
  ∀ p, H p = none → Q (.ref p) (upd H p (.tup [.int (a * s / 10000), .int (a * f / 10000)]))
def spLaw (K : PySem.W.Frag) : Sp := fun vs H Q _ => ∃ (a : Addr) (ns : List Int), vs = [.ref a] ∧ SqL K H a (ns.map V.int) ∧ ns.length ≤ 63 ∧ ∀ H', Q (.bl true) H'

structure Txt (mg : Str → Option Value) : Prop where
  len : mg "len" = none
  abs : mg "abs" = none
  int : mg "int" = none
  range : mg "range" = none
  repr : mg "repr" = none
  whole : ∃ t, mg "WHOLE" = some (.int 10000 t)

section
variable {P : Program} {w : World} {K : PySem.W.Frag} {mg : Str → Option Value} {base : Heap}
theorem scB : FnScope ["script", "x"] ["script"] (defScope sBox) := ⟨rfl, rfl, rfl, by decide +kernel, rfl, by decide +kernel, by decide +kernel⟩
theorem ok_box {f : Addr} {fd : FuncData} (F : Fun K "_law_box" "_law_box" sBox f fd) (T : Txt mg) : FnOk P w K mg base CX0 1 f fd ["script"] (spBox K) := by
  refine F.ok scB (fun vs H Q E h => ?_) (fun cdv A outer s H vs Q E hr h => ?_)
  · obtain ⟨a, ns, rfl, _⟩ := h
    rfl
  · obtain ⟨a, ns, rfl, hS, hlen, k⟩ := h
    refine ⟨_, pss_one (ps_ret (pe_lst (pa_cons pe_int (pa_cons pe_int (pa_cons pe_int (pa_cons
      (pe_lc (own := [("x", 1)]) (g := gName 1) (tt := tYes) rfl scB.nd (pi_list (pv 0)) (blkOk_by (N := ["script", "x"]) (sc := defScope sBox) (by decide +kernel))
        (fun _ _ _ _ _ => pg_name (i := 1) scB.nd rfl (Or.inl rfl)) (fun _ _ _ _ _ => pts_nil)
        (fun _ _ _ _ _ => pe_callB call_abs (by rfl) T.abs (by decide +kernel) (pa_cons (pe_callTy call_int1 (by rfl) T.int (by decide +kernel) (pa_cons (pv 1) pa_nil)) pa_nil)))
      pa_nil)))))), ?_⟩
    refine ⟨_, rfl, a, rfl, ⟨_, hS⟩, fun D hD => ?_⟩
    refine lc_list (K := K) (a := a) (xs := ns.map V.int) (fun i H' => ∃ cs : List Int, H' D = some (.lst (cs.map V.int)) ∧ cs.length = i ∧ Same H H') ⟨[], upd_same, rfl, ?_⟩ ?_ ?_ ?_
    · intro p o e
      rw [upd_ne (ne_of_none e hD)]
      exact e
    · rintro i H' _ ⟨cs, _, _, s2⟩
      exact s2.seq hS
    · rintro i x H' hi ⟨cs, h1, h2, h3⟩
      have hx : x ∈ ns.map V.int := List.mem_of_getElem? hi
      obtain ⟨z, _, rfl⟩ := List.mem_map.mp hx
      have hil : i < (ns.map V.int).length := (List.getElem?_eq_some_iff.mp hi).1
      rw [List.length_map] at hil
      refine ⟨rfl, ?_⟩
      refine yes_go ?_
      refine ⟨_, rfl, .inl ⟨_, rfl, _, rfl, _, h1, ?_, cs ++ [if z < 0 then -z else z], ?_, ?_, ?_⟩⟩
      · rw [List.length_map]
        exact small1000 (by omega)
      · rw [upd_same, List.map_append]
        rfl
      · rw [List.length_append, h2]
        rfl
      · intro p o e
        have e' := h3 p o e
        rw [upd_ne (ne_of_none e hD)]
        exact e'
    · rintro H' ⟨cs, h1, h2, h3⟩
      refine ⟨by show 4 ≤ sizeLine; decide, fun b hb => ?_⟩
      refine k b D cs _ ⟨⟨0, 0, 0, upd_same, by decide⟩, ?_⟩ ?_
      · rw [upd_ne (ne_of_none h1 hb)]
        exact h1
      · intro p o e
        have e' := h3 p o e
        rw [upd_ne (ne_of_none e' hb)]
        exact e'

theorem scT : FnScope ["box", "m", "at", "cell", "told"] ["box", "m"] (defScope sTake) := ⟨rfl, rfl, rfl, by decide +kernel, rfl, by decide +kernel, by decide +kernel⟩
theorem ok_take {f : Addr} {fd : FuncData} (F : Fun K "_law_take" "_law_take" sTake f fd) (T : Txt mg) : FnOk P w K mg base CX0 1 f fd ["box", "m"] spTake := by
  refine F.ok scT (fun vs H Q E h => ?_) (fun cdv A outer s H vs Q E hr h => ?_)
  · obtain ⟨b, l, cs, m, rfl, _⟩ := h
    rfl
  · obtain ⟨b, l, cs, m, rfl, B, hm, hm2, k⟩ := h
    have rest : ∃ t, PSs (cxOf CX0 P w K mg base ["box", "m", "at", "cell", "told"] "_law_take" (defScope sTake) f cdv A outer s H E).nox ((defBody sTake).drop 1) t ∧
        ∀ (H1 : Hp) (u v x : Option V), BoxAt H1 b l cs → Off b H H1 → t { nx := fun _ H' => Q .non H', rt := Q } [some (.ref b), some (.int m), u, v, x] H1 := by
      refine ⟨_, (pss_cons (ps_if (pt_cmpR op_gt (pe_ix ix_list (pv 0) pe_int (fun _ _ => rfl)) pe_int (nomark _))
        (pss_cons (ps_set (i := 4) scT.nd rfl (Or.inl rfl) (pe_op op_mod (pe_callTy call_int1 (by rfl) T.int (by decide +kernel) (pa_cons (pe_ix ix_list (pv 0) pe_int (fun _ _ => rfl)) pa_nil)) (pv 1)))
        (pss_cons (ps_asg (pe_op op_fdiv (pe_ix ix_list (pv 0) pe_int (fun _ _ => rfl)) (pv 1)) (pg_sub (pv 0) pe_int set_list))
        (pss_cons (ps_asg (pe_ifExp (pt_cmpR op_gt (pe_ix ix_list (pv 0) pe_int (fun _ _ => rfl)) pe_int (nomark _)) (pe_op op_sub (pe_ix ix_list (pv 0) pe_int (fun _ _ => rfl)) pe_int) pe_int) (pg_sub (pv 0) pe_int set_list))
        (pss_one (ps_ret (pv 4)))))) pss_nil)
      (pss_cons (ps_asg (pe_op op_add (pe_ix ix_list (pv 0) pe_int (fun _ _ => rfl)) pe_int) (pg_sub (pv 0) pe_int set_list))
      (pss_cons (ps_asg (pe_op op_mod (pe_callTy call_int1 (by rfl) T.int (by decide +kernel) (pa_cons (pe_op op_add (pe_op op_mul (pe_ix ix_list (pv 0) pe_int (fun _ _ => rfl)) pe_int)
          (pe_op op_mul pe_int (pe_op op_add (pe_ix ix_list (pv 0) pe_int (fun _ _ => rfl)) pe_int))) pa_nil)) pe_int) (pg_sub (pv 0) pe_int set_list))
      (pss_one (ps_ret (pe_op op_mod (pe_op op_mod (pe_callTy call_int1 (by rfl) T.int (by decide +kernel) (pa_cons (pe_op op_add (pe_op op_fdiv (pe_ix ix_list (pv 0) pe_int (fun _ _ => rfl)) pe_int)
          (pe_ix ix_list (pv 0) pe_int (fun _ _ => rfl))) pa_nil)) pe_int) (pv 1))))))), ?_⟩
      intro H1 u v x B1 O1
      obtain ⟨⟨x1, c1, a1, hb, ha⟩, _⟩ := id B1
      refine ⟨_, rfl, b, _, _, _, rfl, rfl, SqL.of hb, atI_nat (j := 1) rfl, _, _, rfl, rfl, _, rfl, ?_⟩
      refine ite2 (fun _ => ?_) (fun _ => ?_)
      · refine ⟨_, rfl, b, _, _, _, rfl, rfl, SqL.of hb, atI_nat (j := 0) rfl, .inl ⟨_, rfl, _, rfl, _, _, rfl, rfl, hm, ?_⟩⟩
        refine ⟨_, rfl, b, _, _, _, rfl, rfl, SqL.of hb, atI_nat (j := 0) rfl, _, rfl, _, _, rfl, rfl, ⟨hm, hm2⟩, ?_⟩
        refine ⟨_, rfl, b, _, _, 0, rfl, rfl, hb, rfl, ?_⟩
        refine ⟨_, rfl, b, _, _, _, rfl, rfl, SqL.of upd_same, atI_nat (j := 0) rfl, _, _, rfl, rfl, _, rfl, ?_⟩
        refine ite2 (fun _ => ?_) (fun _ => ?_)
        · refine ⟨_, rfl, b, _, _, _, rfl, rfl, SqL.of upd_same, atI_nat (j := 1) rfl, _, _, rfl, rfl, ?_⟩
          refine ⟨_, rfl, b, _, _, 1, rfl, rfl, upd_same, rfl, _, rfl, ?_⟩
          rw [upd_upd]
          exact k _ _ (Int.emod_nonneg _ (Int.ne_of_gt hm)) (Int.emod_lt_of_pos _ hm) (B1.set ha) O1.upd
        · refine ⟨_, rfl, b, _, _, 1, rfl, rfl, upd_same, rfl, _, rfl, ?_⟩
          rw [upd_upd]
          exact k _ _ (Int.emod_nonneg _ (Int.ne_of_gt hm)) (Int.emod_lt_of_pos _ hm) (B1.set ha) O1.upd
      · refine ⟨_, rfl, b, _, _, _, rfl, rfl, SqL.of hb, atI_nat (j := 1) rfl, _, _, rfl, rfl, ?_⟩
        refine ⟨_, rfl, b, _, _, 1, rfl, rfl, hb, rfl, ?_⟩
        refine ⟨_, rfl, b, _, _, _, rfl, rfl, SqL.of upd_same, atI_nat (j := 0) rfl, _, _, rfl, rfl, .inr (by decide), ?_⟩
        refine ⟨_, rfl, b, _, _, _, rfl, rfl, SqL.of upd_same, atI_nat (j := 1) rfl, _, _, rfl, rfl, _, _, rfl, rfl, .inl (by decide), _, _, rfl, rfl, .inl ⟨_, rfl, _, _, rfl, rfl, (by show (0 : Int) < 2147483647; decide), ?_⟩⟩
        refine ⟨_, rfl, b, _, _, 0, rfl, rfl, upd_same, rfl, ?_⟩
        refine ⟨_, rfl, b, _, _, _, rfl, rfl, SqL.of upd_same, atI_nat (j := 0) rfl, _, _, rfl, rfl, ⟨by decide, by decide⟩, ?_⟩
        refine ⟨_, rfl, b, _, _, _, rfl, rfl, SqL.of upd_same, atI_nat (j := 0) rfl, _, _, rfl, rfl, .inl ⟨_, rfl, _, _, rfl, rfl, (by show (0 : Int) < 1000003; decide), _, rfl, _, _, rfl, rfl, hm, ?_⟩⟩
        rw [upd_upd]
        exact k _ _ (Int.emod_nonneg _ (Int.ne_of_gt hm)) (Int.emod_lt_of_pos _ hm) (B1.set ha) O1.upd
    obtain ⟨tr, hrest, qrest⟩ := rest
    refine ⟨_, pss_cons (ps_if (pt_cmpR op_eq (pe_ix ix_list (pv 0) pe_int (fun _ _ => rfl)) pe_int (nomark _))
        (pss_cons (ps_set (i := 2) scT.nd rfl (Or.inl rfl) (pe_ix ix_list (pv 0) pe_int (fun _ _ => rfl)))
        (pss_cons (ps_set (i := 3) scT.nd rfl (Or.inl rfl) pe_int)
        (pss_cons (ps_if (pt_cmpR op_lt (pv 2) (pe_callB call_len_seq (by rfl) T.len PySem.boot_len (pa_cons (pe_ix ix_list (pv 0) pe_int (fun _ _ => rfl)) pa_nil)) (nomark _))
            (pss_cons (ps_set (i := 3) scT.nd rfl (Or.inl rfl) (pe_ix ix_list (pe_ix ix_list (pv 0) pe_int (fun _ _ => rfl)) (pv 2) (fun _ _ => rfl)))
            (pss_one (ps_asg (pe_ifExp (pt_cmpR op_ge (pv 3) (pe_op op_pow pe_int pe_int) (nomark _)) pe_int (pe_un un_neg pe_int)) (pg_sub (pv 0) pe_int set_list)))) pss_nil)
        (pss_cons (ps_asg (pe_op op_add (pv 2) pe_int) (pg_sub (pv 0) pe_int set_list))
        (pss_cons (ps_asg (pv 3) (pg_sub (pv 0) pe_int set_list))
        (pss_one (ps_if (pt_cmpR op_eq (pe_ix ix_list (pv 0) pe_int (fun _ _ => rfl)) pe_int (nomark _)) (pss_one (ps_ret pe_int)) pss_nil))))))) pss_nil) hrest, ?_⟩
    obtain ⟨⟨x1, c1, a1, hb, ha⟩, hl⟩ := id B
    refine ⟨_, rfl, b, _, _, _, rfl, rfl, SqL.of hb, atI_nat (j := 1) rfl, rfl, _, rfl, ?_⟩
    refine ite2 (fun _ => ?_) (fun _ => ?_)
    · refine ⟨_, rfl, b, _, _, _, rfl, rfl, SqL.of hb, atI_nat (j := 2) rfl, ?_⟩
      refine ⟨_, rfl, _, rfl, b, _, _, _, rfl, rfl, SqL.of hb, atI_nat (j := 3) rfl, l, _, rfl, .inl (SqL.of hl), _, _, rfl, rfl, _, rfl, ?_⟩
      refine ite2 (fun hlt => ?_) (fun _ => ?_)
      · have hlt' : a1 < ((cs.map V.int).length : Int) := of_decide_eq_true hlt
        obtain ⟨j, rfl⟩ := Int.eq_ofNat_of_zero_le ha
        have hj : j < (cs.map V.int).length := by omega
        have hj2 : j < cs.length := by rw [List.length_map] at hj; exact hj
        refine ⟨_, rfl, b, _, _, _, rfl, rfl, SqL.of hb, atI_nat (j := 3) rfl, _, rfl, l, _, _, .int cs[j], rfl, rfl, SqL.of hl, atI_nat (j := j) (by rw [List.getElem?_map, List.getElem?_eq_getElem hj2]; rfl), ?_⟩
        refine ⟨_, rfl, _, _, rfl, rfl, ⟨by decide, by decide, by decide⟩, _, _, rfl, rfl, _, rfl, ?_⟩
        refine ite2 (fun _ => ?_) (fun _ => ?_)
        · refine ⟨_, rfl, b, _, _, 1, rfl, rfl, hb, rfl, ?_⟩
          refine ⟨_, rfl, _, _, rfl, rfl, _, rfl, b, _, _, 2, rfl, rfl, upd_same, rfl, _, rfl, _, rfl, b, _, _, 0, rfl, rfl, upd_same, rfl, ?_⟩
          refine ⟨_, rfl, b, _, _, _, rfl, rfl, SqL.of upd_same, atI_nat (j := 1) rfl, rfl, _, rfl, ?_⟩
          refine ite2 (fun z => absurd z (by decide)) (fun _ => ?_)
          rw [upd_upd, upd_upd]
          exact qrest _ _ _ _ (B.set (by omega)) (Off.refl _ _).upd
        · refine ⟨_, rfl, ?_⟩
          refine ⟨_, rfl, b, _, _, 1, rfl, rfl, hb, rfl, ?_⟩
          refine ⟨_, rfl, _, _, rfl, rfl, _, rfl, b, _, _, 2, rfl, rfl, upd_same, rfl, _, rfl, _, rfl, b, _, _, 0, rfl, rfl, upd_same, rfl, ?_⟩
          refine ⟨_, rfl, b, _, _, _, rfl, rfl, SqL.of upd_same, atI_nat (j := 1) rfl, rfl, _, rfl, ?_⟩
          refine ite2 (fun z => absurd z (by decide)) (fun _ => ?_)
          rw [upd_upd, upd_upd]
          exact qrest _ _ _ _ (B.set (by omega)) (Off.refl _ _).upd
      · refine ⟨_, rfl, _, _, rfl, rfl, _, rfl, b, _, _, 2, rfl, rfl, hb, rfl, _, rfl, _, rfl, b, _, _, 0, rfl, rfl, upd_same, rfl, ?_⟩
        refine ⟨_, rfl, b, _, _, _, rfl, rfl, SqL.of upd_same, atI_nat (j := 1) rfl, rfl, _, rfl, ?_⟩
        refine ite2 (fun _ => ?_) (fun _ => ?_)
        · rw [upd_upd]
          exact k 0 _ (by decide) hm (B.set (by omega)) (Off.refl _ _).upd
        · rw [upd_upd]
          exact qrest _ _ _ _ (B.set (by omega)) (Off.refl _ _).upd
    · exact qrest _ _ _ _ B (Off.refl _ _)
theorem scK : FnScope ["box", "menu"] ["box", "menu"] (defScope sPick) := ⟨rfl, rfl, rfl, by decide +kernel, rfl, by decide +kernel, by decide +kernel⟩
theorem ok_pick {f fT : Addr} {fd fdT : FuncData} (F : Fun K "_law_pick" "_law_pick" sPick f fd) (T : Txt mg) (FT : Fun K "_law_take" "_law_take" sTake fT fdT) (bT : Binds K fdT ["box", "m"] []) (mgT : mg "_law_take" = some (.ref fT)) :
    FnOk P w K mg base CX0 2 f fd ["box", "menu"] spPick := by
  refine F.ok scK (fun vs H Q E h => ?_) (fun cdv A outer s H vs Q E hr h => ?_)
  · obtain ⟨b, l, q, cs, xs, rfl, _⟩ := h
    rfl
  · obtain ⟨b, l, q, cs, xs, rfl, B, hq, nqb, h1, h2, k⟩ := h
    have GT : FnOk P w K mg base CX0 1 fT fdT ["box", "m"] spTake := ok_take FT T
    refine ⟨_, pss_one (ps_ret (pe_ix ix_list (pv 1) (pe_call GT hr rfl mgT FT.kp bT .nil pass0 (pa_cons (pv 0) (pa_cons (pe_callB call_len_seq (by rfl) T.len PySem.boot_len (pa_cons (pv 1) pa_nil)) pa_nil))) (fun _ _ => rfl))), ?_⟩
    refine ⟨_, rfl, _, rfl, _, rfl, q, _, rfl, .inl (SqL.of hq), b, l, cs, _, rfl, B, by omega, by omega, fun r H' r0 r1 B' O' => ?_⟩
    obtain ⟨j, rfl⟩ := Int.eq_ofNat_of_zero_le r0
    have hj : j < xs.length := by omega
    exact ⟨q, _, _, xs[j], rfl, rfl, SqL.of (O' q _ hq nqb), atI_nat (by rw [List.getElem?_eq_getElem hj]), k _ _ (List.getElem_mem hj) B' O'⟩

theorem scP : FnScope ["amount", "share", "fee"] ["amount", "share", "fee"] (defScope sParts) := ⟨rfl, rfl, rfl, by decide +kernel, rfl, by decide +kernel, by decide +kernel⟩
theorem ok_parts {f : Addr} {fd : FuncData} (F : Fun K "parts" "parts" sParts f fd) (T : Txt mg) : FnOk P w K mg base CX0 1 f fd ["amount", "share", "fee"] spParts := by
  refine F.ok scP (fun vs H Q E h => ?_) (fun cdv A outer s H vs Q E hr h => ?_)
  · obtain ⟨a, s, f, rfl, _⟩ := h
    rfl
  · obtain ⟨a, s, f, rfl, ⟨ha, hb⟩, k⟩ := h
    obtain ⟨t, hw⟩ := T.whole
    refine ⟨_, pss_one (ps_ret (pe_tup (pa_cons (pe_op op_fdiv (pe_op op_mul (pv 0) (pv 1)) (pe_glob (v := .int 10000) rfl hw ⟨_, rfl⟩)) (pa_cons (pe_op op_fdiv (pe_op op_mul (pv 0) (pv 2)) (pe_glob (v := .int 10000) rfl hw ⟨_, rfl⟩)) pa_nil)))), ?_⟩
    have c : CMul a s := .inl ⟨by omega, hb⟩
    have c' : CMul a f := .inl ⟨by omega, hb⟩
    exact ⟨_, rfl, _, rfl, _, _, rfl, rfl, c, _, _, rfl, rfl, ⟨by decide, by decide⟩, _, rfl, _, rfl, _, _, rfl, rfl, c', _, _, rfl, rfl, ⟨by decide, by decide⟩, by show 2 ≤ sizeLine; decide, fun p hp => k p hp⟩
end
end Own
namespace Own
open PySem L2 Gd
/-! ### the mathematics -/
theorem part_le {a s f : Int} (ha : 0 ≤ a) (h : s ≤ f) : a * s / 10000 ≤ a * f / 10000 :=
  Int.ediv_le_ediv (by decide) (Int.mul_le_mul_of_nonneg_left h ha)
theorem fee_le {a f : Int} (ha : 0 ≤ a) (h : f ≤ 500) : a * f / 10000 * 20 ≤ a := by
  have h1 : a * f ≤ a * 500 := Int.mul_le_mul_of_nonneg_left h ha
  omega
theorem part_nn {a f : Int} (ha : 0 ≤ a) (h : 0 ≤ f) : 0 ≤ a * f / 10000 :=
  Int.ediv_nonneg (Int.mul_nonneg ha h) (by decide)
theorem part_lt {a f : Int} (ha : 0 ≤ a) (ha2 : a ≤ 1000000000) (h : f ≤ 500) : a * f / 10000 < 1000000000 := by
  have h1 : a * f ≤ a * 500 := Int.mul_le_mul_of_nonneg_left h ha
  omega
theorem parts_sum {x a s : Int} : a * s / 10000 - x * s / 10000 - (a - x) * s / 10000 = 0 ∨ a * s / 10000 - x * s / 10000 - (a - x) * s / 10000 = 1 := by
  have h : (a - x) * s = a * s - x * s := Int.sub_mul a x s
  rw [h]
  omega
theorem shown2 {i j : Int} (h0 : 0 ≤ i) (h1 : i < 1000000000) (h2 : 0 ≤ j) (h3 : j < 1000000000) :
    (PyData.tuple [.int i, .int j]).hasDict = false ∧ (PyData.tuple [.int i, .int j]).showable = true ∧ (PyData.tuple [.int i, .int j]).depth ≤ 60 ∧ (PyData.tuple [.int i, .int j]).shown.length ≤ sizeLine := by
  have b : ∀ z : Int, 0 ≤ z → z < 1000000000 → z.natAbs.log2 < 1920 := by
    intro z z0 z1
    by_cases e : z.natAbs = 0
    · rw [e]
      decide
    · have l : z.natAbs < 2 ^ 30 := by omega
      have := (Nat.log2_lt e).mpr l
      omega
  refine ⟨by simp [PyData.hasDict, PyData.hasDictAll], by simp [PyData.showable, PyData.showableAll, b i h0 h1, b j h2 h3], by simp [PyData.depth, PyData.depthAll], ?_⟩
  have t : ∀ z : Int, 0 ≤ z → z < 1000000000 → (Str.ofString (toString z)).length ≤ 11 := by
    intro z z0 z1
    rw [ofString_length]
    exact int_text_length_le10 (k := 10) (by decide) (by omega)
  have e : (PyData.tuple [.int i, .int j]).shown = tupleText [Str.ofString (toString i), Str.ofString (toString j)] := by
    simp only [PyData.shown, PyData.shownAll]
  rw [e]
  have q := fmt_text [Str.ofString (toString i), Str.ofString (toString j)]
  rw [piled_cons, piled_cons] at q
  have p0 : piled [] = 0 := rfl
  have t1 := t i h0 h1
  have t2 := t j h2 h3
  rw [sizeLine_eq]
  omega

section
variable {P : Program} {w : World} {K : PySem.W.Frag} {mg : Str → Option Value} {base : Heap}
theorem scL : FnScope ["script", "box", "turn", "amount", "share", "fee", "told", "first", "one", "other", "k"] ["script"] (defScope sLaw) := ⟨rfl, rfl, rfl, by decide +kernel, rfl, by decide +kernel, by decide +kernel⟩
theorem ok_law {f fB fT fK fP : Addr} {fd fdB fdT fdK fdP : FuncData} (F : Fun K "law" "law" sLaw f fd) (T : Txt mg)
    (FB : Fun K "_law_box" "_law_box" sBox fB fdB) (bB : Binds K fdB ["script"] []) (mB : mg "_law_box" = some (.ref fB))
    (FT : Fun K "_law_take" "_law_take" sTake fT fdT) (bT : Binds K fdT ["box", "m"] []) (mT : mg "_law_take" = some (.ref fT))
    (FK : Fun K "_law_pick" "_law_pick" sPick fK fdK) (bK : Binds K fdK ["box", "menu"] []) (mK : mg "_law_pick" = some (.ref fK))
    (FP : Fun K "parts" "parts" sParts fP fdP) (bP : Binds K fdP ["amount", "share", "fee"] []) (mP : mg "parts" = some (.ref fP)) :
    FnG P w K mg base CX0 3 f fd ["script"] (spLaw K) := by
  have GB : FnOk P w K mg base CX0 1 fB fdB ["script"] (spBox K) := ok_box FB T
  have GT : FnOk P w K mg base CX0 1 fT fdT ["box", "m"] spTake := ok_take FT T
  have GK : FnOk P w K mg base CX0 2 fK fdK ["box", "menu"] spPick := ok_pick FK T FT bT mT
  have GP : FnOk P w K mg base CX0 1 fP fdP ["amount", "share", "fee"] spParts := ok_parts FP T
  refine body_ok F scL (fun vs H Q E h => ?_) (fun cdv A outer s H vs Q E hg hr h => ?_)
  · obtain ⟨a, ns, rfl, _⟩ := h
    rfl
  · obtain ⟨a, ns, rfl, hS, hlen, k⟩ := h
    have hr1 : Room 1 _ := hr.mono (by decide)
    have hu : (A.deeper (PyProof.Rows.envOfC "law" (defScope sLaw) s.heap.objs.size f cdv)).units + 64 < cLine := hr.units
    refine ⟨_, pss_cons (ps_set (i := 1) scL.nd rfl (Or.inl rfl) (pe_call GB hr1 rfl mB FB.kp bB .nil pass0 (pa_cons (pv 0) pa_nil)))
      (pss_cons (ps_for PassesOwn.never rfl (pi_range1 rfl T.range (pa_cons pe_int pa_nil)) (pg_name (i := 2) scL.nd rfl (Or.inl rfl))
        (pss_cons (ps_set (i := 3) scL.nd rfl (Or.inl rfl) (pe_call GK hr rfl mK FK.kp bK .nil pass0 (pa_cons (pv 1) (pa_cons (pe_lst
            (pa_cons (pe_call GT hr1 rfl mT FT.kp bT .nil pass0 (pa_cons (pv 1) (pa_cons pe_int pa_nil)))
            (pa_cons (pe_call GT hr1 rfl mT FT.kp bT .nil pass0 (pa_cons (pv 1) (pa_cons pe_int pa_nil)))
            (pa_cons (pe_op op_add (pe_op op_mul pe_int (pe_call GT hr1 rfl mT FT.kp bT .nil pass0 (pa_cons (pv 1) (pa_cons pe_int pa_nil)))) (pe_call GT hr1 rfl mT FT.kp bT .nil pass0 (pa_cons (pv 1) (pa_cons pe_int pa_nil))))
            (pa_cons (pe_op op_pow pe_int pe_int) (pa_cons pe_int (pa_cons pe_int (pa_cons pe_int pa_nil)))))))) pa_nil))))
        (pss_cons (ps_set (i := 4) scL.nd rfl (Or.inl rfl) (pe_call GK hr rfl mK FK.kp bK .nil pass0 (pa_cons (pv 1) (pa_cons (pe_lst
            (pa_cons pe_int (pa_cons pe_int (pa_cons (pe_call GT hr1 rfl mT FT.kp bT .nil pass0 (pa_cons (pv 1) (pa_cons pe_int pa_nil))) (pa_cons pe_int pa_nil))))) pa_nil))))
        (pss_cons (ps_set (i := 5) scL.nd rfl (Or.inl rfl) (pe_call GK hr rfl mK FK.kp bK .nil pass0 (pa_cons (pv 1) (pa_cons (pe_lst
            (pa_cons (pv 4) (pa_cons pe_int (pa_cons (pe_op op_add (pv 4) (pe_call GT hr1 rfl mT FT.kp bT .nil pass0 (pa_cons (pv 1) (pa_cons (pe_op op_sub pe_int (pv 4)) pa_nil)))) pa_nil)))) pa_nil))))
        (pss_cons (ps_set (i := 6) scL.nd rfl (Or.inl rfl) (pe_call GP hr1 rfl mP FP.kp bP .nil pass0 (pa_cons (pv 3) (pa_cons (pv 4) (pa_cons (pv 5) pa_nil)))))
        (pss_cons (ps_if (PW.pt (pw_or (pt_cmpR op_ne (pe_callB (call_reprD hg hu) (by rfl) T.repr (by decide +kernel) (pa_cons (pv 6) pa_nil))
              (pe_callB (call_reprD hg hu) (by rfl) T.repr (by decide +kernel) (pa_cons (pe_tup (pa_cons (pe_op op_fdiv (pe_op op_mul (pv 3) (pv 4)) pe_int) (pa_cons (pe_op op_fdiv (pe_op op_mul (pv 3) (pv 5)) pe_int) pa_nil))) pa_nil)) (nomark _))
            (pw_or (pt_cmpR op_gt (pe_ix ix_tup (pv 6) pe_int (fun _ _ => rfl)) (pe_ix ix_tup (pv 6) pe_int (fun _ _ => rfl)) (nomark _))
            (pw_or1 (pt_cmpR op_gt (pe_op op_mul (pe_ix ix_tup (pv 6) pe_int (fun _ _ => rfl)) pe_int) (pv 3) (nomark _)))))) (pss_one (ps_ret pe_bl)) pss_nil)
        (pss_cons (ps_set (i := 7) scL.nd rfl (Or.inl rfl) (pe_op op_fdiv (pe_op op_mul (pe_call GT hr1 rfl mT FT.kp bT .nil pass0 (pa_cons (pv 1) (pa_cons pe_int pa_nil))) (pe_op op_add (pe_op op_fdiv (pv 3) pe_int) pe_int)) pe_int))
        (pss_one (ps_if (pt_cmpR op_le (pv 7) (pv 3) (nomark _))
          (pss_cons (ps_par (i := 8) (j := 9) rfl scL.nd rfl rfl (by decide) rfl rfl (pa_cons (pe_call GP hr1 rfl mP FP.kp bP .nil pass0 (pa_cons (pv 7) (pa_cons (pv 4) (pa_cons (pv 5) pa_nil))))
              (pa_cons (pe_call GP hr1 rfl mP FP.kp bP .nil pass0 (pa_cons (pe_op op_sub (pv 3) (pv 7)) (pa_cons (pv 4) (pa_cons (pv 5) pa_nil)))) pa_nil)) (by rfl))
          (pss_one (ps_for PassesOwn.never rfl (pi_range1 rfl T.range (pa_cons pe_int pa_nil)) (pg_name (i := 10) scL.nd rfl (Or.inl rfl))
            (pss_one (ps_if (pt_cmpR op_notIn_seq (pe_op op_sub (pe_op op_sub (pe_ix ix_tup (pv 6) (pv 10) (fun _ _ => rfl)) (pe_ix ix_tup (pv 8) (pv 10) (fun _ _ => rfl))) (pe_ix ix_tup (pv 9) (pv 10) (fun _ _ => rfl)))
              (pe_tup (pa_cons pe_int (pa_cons pe_int pa_nil))) (by rfl)) (pss_one (ps_ret pe_bl)) pss_nil))))) pss_nil)))))))))
      (pss_one (ps_ret pe_bl))), ?_⟩
    refine ⟨_, rfl, a, ns, rfl, hS, hlen, fun b l cs H1 B1 _ => ?_⟩
    refine ⟨6, rfl, by decide, by decide, for_range (n := 6) (fun _ σ H' => ∃ v2 v3 v4 v5 v6 v7 v8 v9 v10 : Option V, σ = [some (.ref a), some (.ref b), v2, v3, v4, v5, v6, v7, v8, v9, v10] ∧ BoxAt H' b l cs)
      ⟨_, _, _, _, _, _, _, _, _, rfl, B1⟩ ?_ ?_⟩
    · rintro i σ H' hi ⟨v2, v3, v4, v5, v6, v7, v8, v9, v10, rfl, B⟩
      -- the amount
      refine ⟨_, rfl, _, rfl, b, l, cs, _, rfl, B, by decide, by decide, fun r1 G1 a1 z1 B1 _ => ?_⟩
      refine ⟨_, rfl, b, l, cs, _, rfl, B1, by decide, by decide, fun r2 G2 a2 z2 B2 _ => ?_⟩
      refine ⟨_, rfl, b, l, cs, _, rfl, B2, by decide, by decide, fun r3 G3 a3 z3 B3 _ => ?_⟩
      refine ⟨_, _, rfl, rfl, .inl (by decide), _, rfl, b, l, cs, _, rfl, B3, by decide, by decide, fun r4 G4 a4 z4 B4 _ => ?_⟩
      refine ⟨_, _, rfl, rfl, _, _, rfl, rfl, ⟨by decide, by decide, by decide⟩, by show 7 ≤ sizeLine; decide, fun q hq => ?_⟩
      refine ⟨b, l, q, cs, _, rfl, B4.new hq, upd_same, fun e => B4.some (e ▸ hq), (by show 0 < 7; decide), (by show 7 < 1000; decide), fun v G5 hv B5 _ => ?_⟩
      obtain ⟨am, rfl, am0, am1⟩ : ∃ z : Int, v = .int z ∧ 0 ≤ z ∧ z ≤ 1000000000 := by
        simp only [List.mem_cons, List.not_mem_nil, or_false] at hv
        rcases hv with e | e | e | e | e | e | e
        · exact ⟨r1, e, a1, by omega⟩
        · exact ⟨r2, e, a2, by omega⟩
        · exact ⟨1000 * r3 + r4, e, by omega, by omega⟩
        · exact ⟨1000000000, e.trans (by decide), by decide, by decide⟩
        · exact ⟨0, e, by decide, by decide⟩
        · exact ⟨9999, e, by decide, by decide⟩
        · exact ⟨10000, e, by decide, by decide⟩
      clear hv hq B1 B2 B3 B4 a1 z1 a2 z2 a3 z3 a4 z4
      -- the share
      refine ⟨_, rfl, _, rfl, b, l, cs, _, rfl, B5, by decide, by decide, fun r1 G1 a1 z1 B1 _ => ?_⟩
      refine ⟨by show 4 ≤ sizeLine; decide, fun q hq => ?_⟩
      refine ⟨b, l, q, cs, _, rfl, B1.new hq, upd_same, fun e => B1.some (e ▸ hq), (by show 0 < 4; decide), (by show 4 < 1000; decide), fun v G6 hv B6 _ => ?_⟩
      obtain ⟨sh, rfl, sh0, sh1⟩ : ∃ z : Int, v = .int z ∧ 0 ≤ z ∧ z ≤ 300 := by
        simp only [List.mem_cons, List.not_mem_nil, or_false] at hv
        rcases hv with e | e | e | e
        · exact ⟨0, e, by decide, by decide⟩
        · exact ⟨300, e, by decide, by decide⟩
        · exact ⟨r1, e, a1, by omega⟩
        · exact ⟨1, e, by decide, by decide⟩
      clear hv hq B1 a1 z1
      -- the fee
      refine ⟨_, rfl, _, rfl, _, rfl, _, rfl, _, rfl, _, _, rfl, rfl, b, l, cs, _, rfl, B6, by omega, by omega, fun r1 G1 a1 z1 B1 _ => ?_⟩
      refine ⟨_, _, rfl, rfl, by show 3 ≤ sizeLine; decide, fun q hq => ?_⟩
      refine ⟨b, l, q, cs, _, rfl, B1.new hq, upd_same, fun e => B1.some (e ▸ hq), (by show 0 < 3; decide), (by show 3 < 1000; decide), fun v G7 hv B7 _ => ?_⟩
      obtain ⟨fe, rfl, fe0, fe1⟩ : ∃ z : Int, v = .int z ∧ sh ≤ z ∧ z ≤ 500 := by
        simp only [List.mem_cons, List.not_mem_nil, or_false] at hv
        rcases hv with e | e | e
        · exact ⟨sh, e, by omega, by omega⟩
        · exact ⟨500, e, by omega, by omega⟩
        · exact ⟨sh + r1, e, by omega, by omega⟩
      clear hv hq B1 a1 z1
      -- the pair, and the pair as the law reckons it
      refine ⟨_, rfl, _, rfl, _, rfl, am, sh, fe, rfl, ⟨am0, by omega⟩, fun t ht => ?_⟩
      obtain ⟨g1, g2, g3, g4⟩ := shown2 (part_nn am0 sh0) (part_lt am0 am1 (by omega)) (part_nn am0 (show 0 ≤ fe by omega)) (part_lt am0 am1 fe1)
      have B8 := B7.new (o := .tup [.int (am * sh / 10000), .int (am * fe / 10000)]) ht
      generalize hG8 : upd G7 t (.tup [.int (am * sh / 10000), .int (am * fe / 10000)]) = G8 at B8
      have tt : G8 t = some (.tup [.int (am * sh / 10000), .int (am * fe / 10000)]) := by
        rw [← hG8]
        exact upd_same
      refine ⟨_, rfl, t, _, rfl, .tup (SqT.of tt) (.cons (.int _) (.cons (.int _) .nil)), g1, g2, g3, g4, ?_⟩
      refine ⟨_, rfl, _, rfl, _, _, rfl, rfl, .inl ⟨by omega, by omega⟩, _, _, rfl, rfl, ⟨by decide, by decide⟩, _, rfl, _, rfl, _, _, rfl, rfl, .inl ⟨by omega, by omega⟩, _, _, rfl, rfl, ⟨by decide, by decide⟩, ?_⟩
      refine ⟨by show 2 ≤ sizeLine; decide, fun u hu' => ?_⟩
      refine ⟨u, _, rfl, .tup (SqT.of upd_same) (.cons (.int _) (.cons (.int _) .nil)), g1, g2, g3, g4, rfl, _, rfl, ?_⟩
      refine iteNS rfl ?_
      have B9 := B8.new (o := .tup [.int (am * sh / 10000), .int (am * fe / 10000)]) hu'
      have tt9 : upd G8 u (.tup [.int (am * sh / 10000), .int (am * fe / 10000)]) t = some (.tup [.int (am * sh / 10000), .int (am * fe / 10000)]) := by
        rw [upd_ne (ne_of_none tt hu')]
        exact tt
      generalize upd G8 u (.tup [.int (am * sh / 10000), .int (am * fe / 10000)]) = G9 at B9 tt9
      refine ⟨_, rfl, t, _, _, _, rfl, rfl, SqT.of tt9, atI_nat (j := 0) rfl, _, rfl, t, _, _, _, rfl, rfl, SqT.of tt9, atI_nat (j := 1) rfl, _, _, rfl, rfl, _, rfl, ?_⟩
      refine ite2 (fun z => absurd (of_decide_eq_true z) (Int.not_lt.mpr (part_le am0 fe0))) (fun _ => ?_)
      refine ⟨_, rfl, t, _, _, _, rfl, rfl, SqT.of tt9, atI_nat (j := 1) rfl, _, _, rfl, rfl, .inr (by decide), _, rfl, _, _, rfl, rfl, _, rfl, ?_⟩
      refine ite2 (fun z => absurd (of_decide_eq_true z) (Int.not_lt.mpr (fee_le am0 fe1))) (fun _ => ?_)
      -- the sum
      refine ⟨_, rfl, b, l, cs, _, rfl, B9, by decide, by decide, fun r1 H1 a1 z1 B1 O1 => ?_⟩
      have ntb : t ≠ b := by
        obtain ⟨⟨x, c, y, hb, _⟩, _⟩ := B9
        exact ne_of tt9 hb (by intro z; cases z)
      have tt1 := O1 t _ tt9 ntb
      have m1 : am / 1000000 ≤ 1000 := by omega
      refine ⟨_, rfl, _, _, rfl, rfl, ⟨by decide, by decide⟩, _, _, rfl, rfl, _, _, rfl, rfl, .inl ⟨by omega, by omega⟩, _, _, rfl, rfl, ⟨by decide, by decide⟩, ?_⟩
      have x0 : 0 ≤ r1 * (am / 1000000 + 1) / 2 := Int.ediv_nonneg (Int.mul_nonneg a1 (by omega)) (by decide)
      dsimp only
      generalize r1 * (am / 1000000 + 1) / 2 = x at x0 ⊢
      refine ⟨_, rfl, _, rfl, _, _, rfl, rfl, _, rfl, ?_⟩
      refine ite2 (fun xl => ?_) (fun _ => ⟨_, _, _, _, _, _, _, _, _, rfl, B1⟩)
      have xl' : x ≤ am := of_decide_eq_true xl
      refine ⟨_, rfl, _, rfl, _, rfl, x, sh, fe, rfl, ⟨x0, by omega⟩, fun p hp => ?_⟩
      have C1 := B1.new (o := .tup [.int (x * sh / 10000), .int (x * fe / 10000)]) hp
      have e1 : upd H1 p (.tup [.int (x * sh / 10000), .int (x * fe / 10000)]) p = _ := upd_same
      have u1 := Eq.trans (upd_ne (o := .tup [.int (x * sh / 10000), .int (x * fe / 10000)]) (ne_of_none tt1 hp)) tt1
      generalize upd H1 p (.tup [.int (x * sh / 10000), .int (x * fe / 10000)]) = H2 at C1 e1 u1
      refine ⟨_, rfl, _, rfl, _, _, rfl, rfl, _, rfl, _, rfl, am - x, sh, fe, rfl, ⟨by omega, by omega⟩, fun p2 hp2 => ?_⟩
      have C2 := C1.new (o := .tup [.int ((am - x) * sh / 10000), .int ((am - x) * fe / 10000)]) hp2
      have e2 : upd H2 p2 (.tup [.int ((am - x) * sh / 10000), .int ((am - x) * fe / 10000)]) p2 = _ := upd_same
      have e3 := Eq.trans (upd_ne (o := .tup [.int ((am - x) * sh / 10000), .int ((am - x) * fe / 10000)]) (ne_of_none e1 hp2)) e1
      have u2 := Eq.trans (upd_ne (o := .tup [.int ((am - x) * sh / 10000), .int ((am - x) * fe / 10000)]) (ne_of_none u1 hp2)) u1
      generalize upd H2 p2 (.tup [.int ((am - x) * sh / 10000), .int ((am - x) * fe / 10000)]) = H3 at C2 e2 e3 u2
      refine ⟨_, _, rfl, ?_⟩
      refine ⟨2, rfl, by decide, by decide, for_range (n := 2) (fun _ σ H' => ∃ v : Option V, σ = [some (.ref a), some (.ref b), some (.int (0 + (i : Int))), some (.int am), some (.int sh), some (.int fe), some (.ref t), some (.int x), some (.ref p), some (.ref p2), v] ∧ BoxAt H' b l cs ∧
          H' t = some (.tup [.int (am * sh / 10000), .int (am * fe / 10000)]) ∧ H' p = some (.tup [.int (x * sh / 10000), .int (x * fe / 10000)]) ∧ H' p2 = some (.tup [.int ((am - x) * sh / 10000), .int ((am - x) * fe / 10000)]))
        ⟨_, rfl, C2, u2, e3, e2⟩ ?_ ?_⟩
      · rintro j σ H4 hj ⟨v, rfl, D1, d1, d2, d3⟩
        have two : ∀ (y z : V) (xs : List V), xs = [y, z] → ∃ v, xs[j]? = some v ∧ (j = 0 ∧ v = y ∨ j = 1 ∧ v = z) := by
          rintro y z xs rfl
          match j, hj with
          | 0, _ => exact ⟨y, rfl, .inl ⟨rfl, rfl⟩⟩
          | 1, _ => exact ⟨z, rfl, .inr ⟨rfl, rfl⟩⟩
        have look : ∀ y z : Int, atI [V.int y, V.int z] (0 + (j : Int)) = some (.int (if j = 0 then y else z)) := by
          intro y z
          obtain ⟨v, h1, h2⟩ := two (.int y) (.int z) _ rfl
          refine at_of (j := j) (by omega) (h1.trans ?_)
          rcases h2 with ⟨rfl, rfl⟩ | ⟨rfl, rfl⟩ <;> rfl
        refine ⟨_, rfl, _, rfl, t, _, _, _, rfl, rfl, SqT.of d1, look _ _, _, rfl, _, rfl, p, _, _, _, rfl, rfl, SqT.of d2, look _ _, _, _, rfl, rfl, _, rfl, _, rfl, p2, _, _, _, rfl, rfl, SqT.of d3, look _ _, _, _, rfl, rfl, ?_⟩
        refine ⟨by show 2 ≤ sizeLine; decide, fun y hy => ?_⟩
        have last : (if j = 0 then am * sh / 10000 else am * fe / 10000) - (if j = 0 then x * sh / 10000 else x * fe / 10000) - (if j = 0 then (am - x) * sh / 10000 else (am - x) * fe / 10000) = 0 ∨
            (if j = 0 then am * sh / 10000 else am * fe / 10000) - (if j = 0 then x * sh / 10000 else x * fe / 10000) - (if j = 0 then (am - x) * sh / 10000 else (am - x) * fe / 10000) = 1 := by
          by_cases j0 : j = 0
          · simp only [if_pos j0]
            exact parts_sum
          · simp only [if_neg j0]
            exact parts_sum
        have inn : inV (.int ((if j = 0 then am * sh / 10000 else am * fe / 10000) - (if j = 0 then x * sh / 10000 else x * fe / 10000) - (if j = 0 then (am - x) * sh / 10000 else (am - x) * fe / 10000))) [.int 0, .int 1] = true := by
          generalize ((if j = 0 then am * sh / 10000 else am * fe / 10000) - (if j = 0 then x * sh / 10000 else x * fe / 10000) - (if j = 0 then (am - x) * sh / 10000 else (am - x) * fe / 10000)) = r at last ⊢
          rcases last with e | e <;> (subst e; rfl)
        refine ⟨y, _, rfl, .inr (SqT.of upd_same), rfl, rfl, _, rfl, ?_⟩
        refine ite2 (fun z => ?_) (fun _ => ?_)
        · exfalso
          have z' : (!inV (.int ((if j = 0 then am * sh / 10000 else am * fe / 10000) - (if j = 0 then x * sh / 10000 else x * fe / 10000) - (if j = 0 then (am - x) * sh / 10000 else (am - x) * fe / 10000))) [.int 0, .int 1]) = true := z
          rw [inn] at z'
          cases z'
        · refine ⟨_, rfl, D1.new hy, ?_, ?_, ?_⟩
          · rw [upd_ne (ne_of_none d1 hy)]
            exact d1
          · rw [upd_ne (ne_of_none d2 hy)]
            exact d2
          · rw [upd_ne (ne_of_none d3 hy)]
            exact d3
      · rintro σ H4 ⟨v, rfl, D1, _⟩
        exact ⟨_, _, _, _, _, _, _, _, _, rfl, D1⟩
    · rintro σ H' _
      exact k H'
end

theorem all_mk {l : PySem.W.OpenLaw} {w : World} {K : PySem.W.Frag} {h : Heap} {mg : Str → Option Value} {fa f1 f2 f3 f4 f5 : Addr} (X : K.In h) (G : h.Ns mainGlobals mg) (hfa : mg "law" = some (.ref fa))
    {od1 an1 od2 an2 od3 an3 od4 an4 od5 an5 : Option Addr} {sl1 sl2 sl3 sl4 sl5 : Array (Option Value)} {oc1 kV1 dc1 pm1 cd1 ct1 oc2 kV2 dc2 pm2 cd2 ct2 oc3 kV3 dc3 pm3 cd3 ct3 oc4 kV4 dc4 pm4 cd4 ct4 oc5 kV5 dc5 pm5 cd5 ct5 : Value} {tk : Tok}
    (a1 : PySem.W.nsIn K mainGlobals "parts" = some (some (.ref f1))) (l1 : K.lookup f1 = some ⟨oc1, od1, .func (PySem.W.fnOf "parts" "parts" (defArgs sParts) (defBody sParts) (defScope sParts) .none kV1 dc1 pm1 an1 cd1 ct1), sl1⟩) (c1 : PySem.W.codeIn K cd1 "parts" = true) (k1 : PySem.W.keepIn K (.ref f1) = true)
    (a2 : PySem.W.nsIn K mainGlobals "_law_box" = some (some (.ref f2))) (l2 : K.lookup f2 = some ⟨oc2, od2, .func (PySem.W.fnOf "_law_box" "_law_box" (defArgs sBox) (defBody sBox) (defScope sBox) .none kV2 dc2 pm2 an2 cd2 ct2), sl2⟩) (c2 : PySem.W.codeIn K cd2 "_law_box" = true) (k2 : PySem.W.keepIn K (.ref f2) = true)
    (a3 : PySem.W.nsIn K mainGlobals "_law_take" = some (some (.ref f3))) (l3 : K.lookup f3 = some ⟨oc3, od3, .func (PySem.W.fnOf "_law_take" "_law_take" (defArgs sTake) (defBody sTake) (defScope sTake) .none kV3 dc3 pm3 an3 cd3 ct3), sl3⟩) (c3 : PySem.W.codeIn K cd3 "_law_take" = true) (k3 : PySem.W.keepIn K (.ref f3) = true)
    (a4 : PySem.W.nsIn K mainGlobals "_law_pick" = some (some (.ref f4))) (l4 : K.lookup f4 = some ⟨oc4, od4, .func (PySem.W.fnOf "_law_pick" "_law_pick" (defArgs sPick) (defBody sPick) (defScope sPick) .none kV4 dc4 pm4 an4 cd4 ct4), sl4⟩) (c4 : PySem.W.codeIn K cd4 "_law_pick" = true) (k4 : PySem.W.keepIn K (.ref f4) = true)
    (a5 : PySem.W.nsIn K mainGlobals "law" = some (some (.ref f5))) (l5 : K.lookup f5 = some ⟨oc5, od5, .func (PySem.W.fnOf "law" "law" (defArgs sLaw) (defBody sLaw) (defScope sLaw) .none kV5 dc5 pm5 an5 cd5 ct5), sl5⟩) (c5 : PySem.W.codeIn K cd5 "law" = true) (k5 : PySem.W.keepIn K (.ref f5) = true)
    (g1 : PySem.W.nsIn K mainGlobals "len" = some none) (g2 : PySem.W.nsIn K mainGlobals "abs" = some none) (g3 : PySem.W.nsIn K mainGlobals "int" = some none) (g4 : PySem.W.nsIn K mainGlobals "range" = some none) (g5 : PySem.W.nsIn K mainGlobals "repr" = some none)
    (g6 : PySem.W.nsIn K mainGlobals "WHOLE" = some (some (.int 10000 tk))) :
    ∃ fd : FuncData, (∀ (s : Shared) (v : Value), BindsTo s fd ⟨[v], []⟩ [("script", v)]) ∧ ∀ base : Heap, K.In base → base.Ns mainGlobals mg → FnG l.prog w K mg base CX0 3 fa fd ["script"] (spLaw K) := by
  have e := hfa.symm.trans (PySem.W.mg_of X G a5)
  cases e
  have T : Txt mg := ⟨PySem.W.mg_none_of X G g1, PySem.W.mg_none_of X G g2, PySem.W.mg_none_of X G g3, PySem.W.mg_none_of X G g4, PySem.W.mg_none_of X G g5, _, PySem.W.mg_of X G g6⟩
  have F1 := fun_mk (st := sParts) l1 c1 k1
  have F2 := fun_mk (st := sBox) l2 c2 k2
  have F3 := fun_mk (st := sTake) l3 c3 k3
  have F4 := fun_mk (st := sPick) l4 c4 k4
  have F5 := fun_mk (st := sLaw) l5 c5 k5
  have b1 := F1.binds (ps := ["amount", "share", "fee"]) fun _ _ _ _ _ _ us hl => match us, hl with | [_, _, _], _ => rfl
  have b2 := F2.binds (ps := ["script"]) fun _ _ _ _ _ _ us hl => match us, hl with | [_], _ => rfl
  have b3 := F3.binds (ps := ["box", "m"]) fun _ _ _ _ _ _ us hl => match us, hl with | [_, _], _ => rfl
  have b4 := F4.binds (ps := ["box", "menu"]) fun _ _ _ _ _ _ us hl => match us, hl with | [_, _], _ => rfl
  exact ⟨PySem.W.fnOf "law" "law" (defArgs sLaw) (defBody sLaw) (defScope sLaw) .none kV5 dc5 pm5 an5 cd5 ct5, fun s v => .of_eq rfl, fun base _ _ =>
    ok_law F5 T F2 b2 (PySem.W.mg_of X G a2) F3 b3 (PySem.W.mg_of X G a3) F4 b4 (PySem.W.mg_of X G a4) F1 b1 (PySem.W.mg_of X G a1)⟩
end Own
open PySem PySem.W PyProof.Rows in
set_option maxRecDepth 100000 in
set_option maxHeartbeats 0 in
theorem PySem.Challenge.cw_acquit_k01_parts_of_amounts_holds : PySem.Challenge.rw_acquit_k01_parts_of_amounts.Holds := by
  w_on; o_law; k_head; (case hw => w_witness2)
  k_fill
  refine Gd.walk_at63 (k := 3) (sp := Own.spLaw) (l := PySem.Challenge.rw_acquit_k01_parts_of_amounts) rfl rfl ⟨rfl, by decide, by decide⟩ (fun w h Y => PySem.W.kIn_of Y) ?F (fun K H a ns h1 _ h3 => ⟨a, ns, rfl, h3, h1, fun _ => rfl⟩)
  case F =>
    intro w mg fa h KX G hmg
    refine' Own.all_mk KX G hmg ?a1 ?l1 ?c1 ?k1 ?a2 ?l2 ?c2 ?k2 ?a3 ?l3 ?c3 ?k3 ?a4 ?l4 ?c4 ?k4 ?a5 ?l5 ?c5 ?k5 ?g1 ?g2 ?g3 ?g4 ?g5 ?g6
    (case a1 => k_is)
    (case l1 => k_is)
    (case c1 => k_is)
    (case k1 => k_is)
    (case a2 => k_is)
    (case l2 => k_is)
    (case c2 => k_is)
    (case k2 => k_is)
    (case a3 => k_is)
    (case l3 => k_is)
    (case c3 => k_is)
    (case k3 => k_is)
    (case a4 => k_is)
    (case l4 => k_is)
    (case c4 => k_is)
    (case k4 => k_is)
    (case a5 => k_is)
    (case l5 => k_is)
    (case c5 => k_is)
    (case k5 => k_is)
    (case g1 => k_is)
    (case g2 => k_is)
    (case g3 => k_is)
    (case g4 => k_is)
    (case g5 => k_is)
    (case g6 => k_is)

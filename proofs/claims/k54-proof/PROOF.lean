import PyProof.Rows.All
import Wide.All
import OpenK.AllK
import Wide.FinOn
import HandS.ForMost
import HandS.IsInst
import HandS.Wide
import HandS.Flow
import HandS.EndTab
import HandS.Comp
import HandS.TupMul
import HandS.Conv
import HandS.TupAny
import HandS.Style
import HandS.SortInts
import HandS.Words
import KE.GoesEnum
import HandS.Strs
import HandS.SetFor
import HandS.TupSets
import HandS.Star
import HandS.Zip
import HandS.TryOnly
import HandS.FStr
import HandS.SortKw
import KE.SortKeyHeap
import KE.SortData
import KE.KNestM
import KE.KTupSum
import HandS.NamedTupSort
import HandS.DictTup
import HandS.Deep
import PyProof.Rows.TupDisplay
import HandS.SortRule
import HandS.ListItems
import HandS.SetKeys
import HandS.More
import KE.KUnpackStar
import HandS.ExcInit
import HandS.Exc
import HandS.WordsExc
import KE.KExcIs
import HandS.ExcIs
import HandS.ExcField
import KE.KIndexOf
import PyProof.P3Eq
import HandS.Property
import HandS.HotCalls
import HandS.Defaults
import KE.KCallOwn
import HandS.TryMany
import HandS.ClsMeth
import PyProof.TupleOfSeq
import KE.KxField
import PySem.Challenge.RW_basketrope_k54_whole_hoists_and_values
set_option Elab.async false
set_option maxRecDepth 100000
set_option maxHeartbeats 4000000
set_option linter.all false
/-! G: a def's promise where no repr is running (the guards are known to be none). -/
namespace DL
open PySem PySem.Spec PyProof.Rows L2

structure FnG (P : Program) (w : World) (K : PySem.W.Frag) (mg : Str → Option Value) (base : Heap) (CX : CXT) (k : Nat) (f : Addr) (fd : FuncData) (ps : List Str) (sp : Sp) : Prop where
  arity : ∀ as hp q e, sp as hp q e → as.length = ps.length
  goes : ∀ (A : Around) (fs : List Env) (s : Shared) (hp : Hp) (ar : Args) (us : List Value) (as : List V) (q : VK) (e : XK),
    Room k A → A.guards = some [] → Env0 P w K mg base A fs s hp → BindsTo s fd ar (ps.zip us) → Vals as us → sp as hp q e →
    codeAny (model P w) A (.call (.ref f) ar) (CR CX fs P w hp s q e) s

theorem FnG.mono {P w K mg base CX j k f fd ps sp} (F : FnG P w K mg base CX j f fd ps sp) (h : j ≤ k) : FnG P w K mg base CX k f fd ps sp :=
  ⟨F.arity, fun A fs s hp ar us as q e hr => F.goes A fs s hp ar us as q e (hr.mono h)⟩

theorem FnG.of {P w K mg base CX k f fd ps sp} (F : FnOk P w K mg base CX k f fd ps sp) : FnG P w K mg base CX k f fd ps sp :=
  ⟨F.len, fun A fs s hp ar us as q e hr _ => F.run A fs s hp ar us as q e hr⟩

theorem FnG.body {CX : CXT} {P : Program} {w : World} {K : PySem.W.Frag} {mg : Str → Option Value} {base : Heap} {k : Nat} {x qual : Str} {st : Stmt} {f : Addr} {fd : FuncData} {N ps : List Str} {sp : Sp}
    (F : Fun K x qual st f fd) (S : FnScope N ps (defScope st)) (ar : ∀ as hp q e, sp as hp q e → as.length = ps.length)
    (b : ∀ (cdv : Value) (A : Around) (fs : List Env) (s : Shared) (hp : Hp) (as : List V) (q : VK) (e : XK),
      Room k (A.deeper (envOfC qual (defScope st) s.heap.objs.size f cdv)) → A.guards = some [] → sp as hp q e →
      ∃ t, PSs (cxOf CX P w K mg base N qual (defScope st) f cdv A fs s hp e) (defBody st) t ∧ t { nx := fun _ hp' => q .non hp', rt := q } (start N as) hp) :
    FnG P w K mg base CX (k + 1) f fd ps sp := by
  obtain ⟨oc, od, kV, doc, pm, an, cdv, ct, osl, rfl, lk, hcd⟩ := F.ex
  refine ⟨ar, fun A fs s hp args us as q e room gd en hb rv hs => ?_⟩
  have la := ar _ _ _ _ hs
  have inn : K.In s.heap := en.mod.kin.keeps fun b o z => (en.bs b o z).1
  have nol : s.heap.NoLimit := en.mod.nolimit.keeps fun b o z => (en.bs b o z).1
  have kinds : ∀ y ∈ ps.zip us, (defScope st).names.lookup y.1 = some .local ∨
      ((defScope st).names.lookup y.1 = some .cell ∧ ((cellsFrom (s.heap.objs.size + 1) (defScope st).names []).lookup y.1).isSome = true) := by
    rintro ⟨n, v⟩ hy
    cases S.par n (List.of_mem_zip hy).1 with
    | inl z => exact .inl z
    | inr z => exact .inr ⟨z, PySem.W.cellsFrom_some _ _ _ (.inl z)⟩
  refine codeAny_call_function room.depth (inn _ _ lk) rfl S.co S.gen rfl
    (PySem.W.codeRec_of inn hcd) (hb _ _ _ _ ?_)
  refine wpAny_newFunctionEnv_cells S.kind kinds fun en1 he t1 x1 => ?_
  subst he
  refine ⟨nol.keeps x1.toInCall.keep, codeAny_func ?_⟩
  obtain ⟨t, ht, hq⟩ := b cdv A fs s hp as q e (room.deeper _) gd hs
  have J : Inv (cxOf CX P w K mg base N qual (defScope st) f cdv A fs s hp e) [] (start N as) hp t1 :=
    inv_start S room.hd en la rv x1
  refine wpAny_mono (ht.run [] t1 (start N as) hp _ J hq) (fun fl s' z => ?_) fun _ _ z => z
  match fl, z with
  | .ret u, ⟨v, σ', hp', J', rv', z'⟩ => exact ⟨v, hp', J'.os, J'.bare, J'.base, J'.hok, rv', z'⟩
  | .next, ⟨σ', hp', J', z'⟩ => exact ⟨.non, hp', J'.os, J'.bare, J'.base, J'.hok, rfl, z'⟩
  | .brk, ⟨_, _, _, z'⟩ => exact z'.elim
  | .cont, ⟨_, _, _, z'⟩ => exact z'.elim

section
variable {X : Cx} {CX : CXT} {k : Nat} {f : Addr} {fd : FuncData} {ps : List Str} {sp : Sp} {dvs : List V} {ds : List Value} {E : XK} {x : Str} {p pos : Pos} {a : Expr} {as : List Expr} {t : TA}
theorem runG {pins σ hp s} {q : VK} {us : List Value} {vs : List V} (F : FnG X.prog X.w X.K X.mg X.base CX k f fd ps sp) (hr : Room k X.A) (gd : X.A.guards = some []) (hb : Binds X.K fd ps ds) (hd : Vals dvs ds)
    (hx : Passes CX X E) (I : Inv X pins σ hp s) (r : Vals vs us) (h : sp (vs ++ dvs) hp q E) :
    wpAny (model X.prog X.w) X.A (PySem.call (.ref f) us) (EP X pins σ q) X.xe s := by
  have rr := r.append hd
  have ll : (us ++ ds).length = ps.length := by rw [← rr.length]; exact F.arity _ _ _ _ h
  refine wpAny_call (codeAny_mono (F.goes X.A X.stack s hp ⟨us, []⟩ _ _ q E hr gd I.env0 (hb s us I.kIn ll) rr h) fun res s' z => ?_)
  match res, z with
  | .error er, z => exact hx pins σ hp s er s' I z
  | .ok (.ret u), z => exact I.after z
theorem pe_callG (F : FnG X.prog X.w X.K X.mg X.base CX k f fd ps sp) (hr : Room k X.A) (gd : X.A.guards = some []) (hg : Gl X x) (hm : X.mg x = some (.ref f)) (hk : PySem.W.keepIn X.K (.ref f) = true)
    (hb : Binds X.K fd ps ds) (hd : Vals dvs ds) (hx : Passes CX X E) (ha : PA X (a :: as) t) (hdb : (x == ("__debug__" : Str)) = false := by decide)
    (e1 : starEach (a :: as) X.env = (false, eval a X.env) :: starEach as X.env := by rfl) (e2 : (backTo pos (starEach as X.env)).any (·.1) = false := by rfl) :
    PE X (.Call (.Name x p) (a :: as) [] pos) (tCall sp dvs E t) := by
  constructor
  intro pins s σ hp q I h
  refine wpAny_Call_Name_kw (ld_glob I hg hm ?_ hdb)
  exact PySem.W.callWith_K (h₀ := X.base) I.ok.mod.kin hk (thn (ha.run pos pins s σ hp _ I h) fun us s1 ⟨vs, hp1, I1, r, z⟩ =>
    ⟨I1.kIn, runG F hr gd hb hd hx I1 r z⟩) e1 e2
end

/-- the law's own call, by a promise that may lean on the guards -/
theorem law_callG {P : Program} {w : World} {K : PySem.W.Frag} {mg mb : Str → Option Value} {CX : CXT} {k : Nat} {fa a : Addr} {fd : FuncData} {x : Str} {sp : Sp} {s1 : Shared} {vs : List Value} {ns : List Int}
    (inn : K.In s1.heap) (gns : s1.heap.Ns mainGlobals mg) (bns : s1.heap.Ns builtinsNs mb) (bb : ∀ x : Str, x ≠ "__name__" → mb x = bootBuiltins x) (nol : s1.heap.NoLimit) (ng : s1.gens = #[])
    (at_a : s1.heap.get? a = some { cls := .type "list", data := .seq vs.toArray }) (ia : IntsAre vs ns) (sz : ns.length ≤ sizeLine) (room : Room k callerA)
    (F : ∀ base : Heap, K.In base → base.Ns mainGlobals mg → FnG P w K mg base CX k fa fd [x] sp) (bnd : ∀ (s : Shared) (u : Value), BindsTo s fd ⟨[u], []⟩ [(x, u)])
    (hs : ∀ hp : Hp, Only hp → SqL K hp a (ns.map V.int) → sp [.ref a] hp (fun v _ => v = .bl true) fun _ _ _ => False)
    (noX : ∀ hp e s', CX [] hp s1 (fun _ _ _ => False) e s' → False) :
    codeAny (model P w) callerA (.call (.ref fa) ⟨[.ref a], []⟩)
      (fun r s' => r = .ok (.ret (.bool true)) ∧ OldK s1.heap s'.heap ∧ s'.os = s1.os ∧ AllBare s'.gens) s1 := by
  have rv := vals_ints ia
  have lv := ia.length
  have main : ∀ hp : Hp, Only hp → SqL K hp a (ns.map V.int) → HOk P w hp s1.heap → (∀ b u, hp b = some u → b = a ∧ K.lookup a = none) →
      codeAny (model P w) callerA (.call (.ref fa) ⟨[.ref a], []⟩)
        (fun r s' => r = .ok (.ret (.bool true)) ∧ OldK s1.heap s'.heap ∧ s'.os = s1.os ∧ AllBare s'.gens) s1 := by
    intro hp only sq ok tr
    have keepNs : ∀ {b : Addr} {m : Str → Option Value}, s1.heap.Ns b m → (hidT s1.heap hp).Ns b m := by
      rintro b m ⟨o, es, ep, e, d, r⟩
      refine ⟨o, es, ep, hidT_get e ?_, d, r⟩
      cases z : hp b with
      | none => rfl
      | some u =>
        obtain ⟨rfl, _⟩ := tr b u z
        rw [at_a] at e
        cases e
        exact nomatch d
    have inb : K.In (hidT s1.heap hp) := by
      intro b o e
      refine hidT_get (inn b o e) ?_
      cases z : hp b with
      | none => rfl
      | some u =>
        obtain ⟨rfl, z2⟩ := tr b u z
        rw [z2] at e
        cases e
    have md : Mod K mg (hidT s1.heap hp) := ⟨inb, keepNs gns, ⟨mb, keepNs bns, bb⟩, nol.elim fun mc h => ⟨mc, keepNs h.1, h.2⟩⟩
    have en : Env0 P w K mg (hidT s1.heap hp) callerA [] s1 hp :=
      { frames := rfl, mod := md, bs := fun b o e => of_hidT e, bsz := Nat.le_of_eq (hidT_size _ _), funs := trivial, frf := (fun b z => absurd (show b ∈ ([] : List Addr) from z) (by simp)), hok := ok, bare := .of_eq ng }
    refine codeAny_mono ((F _ inb (keepNs gns)).goes callerA [] s1 hp ⟨[.ref a], []⟩ [.ref a] [.ref a] _ _ room rfl en (bnd s1 (.ref a)) (.cons rfl .nil) (hs hp only sq)) fun r s' z => ?_
    match r, z with
    | .error e, z => exact (noX hp e s' z).elim
    | .ok (.ret u), ⟨v, hp', os, bare, un, ok', rr, (q : v = .bl true)⟩ =>
      subst q
      obtain rfl : u = Value.bool true := rr
      refine ⟨rfl, OldK.of_keep fun b o e => ?_, os, bare⟩
      rcases only b with z | ⟨ob, xs, z⟩
      · exact un.keep b o e z (fun y => absurd (show b ∈ ([] : List Addr) from y) (by simp)) (by simp)
      · have e1 := (ok b _ z).1
        have e2 := (ok' b _ (un.frzs b ob _ z)).1
        rw [e] at e1
        cases e1
        exact e2
  cases look : K.lookup a with
  | some o =>
    have e := inn a o look
    rw [at_a] at e
    cases e
    refine main (fun _ => none) (fun _ => .inl rfl) (.inr ⟨_, vs.toArray, _, look, rfl, rfl, rfl, ?_, by simpa using rv⟩) (fun b u z => nomatch z) fun b u z => nomatch z
    rw [List.size_toArray, lv]
    exact sz
  | none =>
    let hp : Hp := fun b => if b = a then some (.frz { cls := .type "list", data := .seq vs.toArray } (.lst (ns.map V.int))) else none
    have hpa : hp a = some (.frz { cls := .type "list", data := .seq vs.toArray } (.lst (ns.map V.int))) := if_pos rfl
    have hpn : ∀ b u, hp b = some u → b = a ∧ u = .frz { cls := .type "list", data := .seq vs.toArray } (.lst (ns.map V.int)) := by
      intro b u z
      by_cases h : b = a
      · subst h
        rw [hpa] at z
        cases z
        exact ⟨rfl, rfl⟩
      · have z' : hp b = none := if_neg h
        rw [z'] at z
        cases z
    refine main hp (fun b => ?_) (.inl (.inr ⟨_, hpa⟩)) (fun b u z => ?_) fun b u z => ⟨(hpn b u z).1, look⟩
    · cases z : hp b with
      | none => exact .inl rfl
      | some u =>
        obtain ⟨rfl, rfl⟩ := hpn b u z
        exact .inr ⟨_, _, rfl⟩
    · obtain ⟨rfl, rfl⟩ := hpn b u z
      exact ⟨at_a, by rw [List.length_map]; exact sz, vs, _, rv, at_a⟩

theorem walk_G {l : PySem.W.OpenLaw} {n k : Nat} {q : Program} {loose : List Str} {XP : (Str → Option Value) → Heap → Prop} {YP : World → Heap → Prop} {d : DefRec} {K : Params → PySem.W.Frag} {CX : CXT} {sp : PySem.W.Frag → Sp} {x : Str}
    (mo : l.most = some n) (n2 : n ≤ sizeLine) (df : d.params.defaults = []) (room : Room k callerA) (hY : ∀ (w : World) (h : Heap), YP w h → (K w.params).In h)
    (F : ∀ (w : World) (mg : Str → Option Value) (fa : Addr) (h : Heap), (K w.params).In h → h.Ns mainGlobals mg → mg d.name = some (.ref fa) →
      ∃ fd : FuncData, (∀ (s : Shared) (u : Value), BindsTo s fd ⟨[u], []⟩ [(x, u)]) ∧
        ∀ base : Heap, (K w.params).In base → base.Ns mainGlobals mg → FnG l.prog w (K w.params) mg base CX k fa fd [x] (sp (K w.params)))
    (hs : ∀ (K : PySem.W.Frag) (hp : Hp) (a : Addr) (ns : List Int), ns.length ≤ n → Only hp → SqL K hp a (ns.map V.int) → sp K [.ref a] hp (fun v _ => v = .bl true) fun _ _ _ => False)
    (noX : ∀ (hp : Hp) (s : Shared) (e : Value) (s' : Shared), CX [] hp s (fun _ _ _ => False) e s' → False) :
    PySem.W.WalkO q loose XP YP l.row.toRowW d [] (fun f vs => PySem.call f vs) := by
  refine Att.attach_call mo df ?_
  intro w s0 s1 mg mb fa o pm cd doc a vs ns G Y ho hd hcd hmg hobj hints hlen ng
  obtain ⟨fd, hb, hF⟩ := F w mg fa _ (hY w _ Y) G.T.g hmg
  exact law_callG (hY w _ Y) G.T.g G.T.b G.T.builtins G.T.nolimit ng hobj hints (Nat.le_trans hlen n2) room hF hb (fun hp only sq => hs _ hp a ns hlen only sq) fun hp e s' => noX hp s1 e s'
end DL

/-! D: values as plain data over the abstract heap; owned cells apart. -/
namespace DL
open PySem PySem.Spec PyProof.Rows L2

inductive D where
  | non | bl (b : Bool) | int (i : Int) | str (s : Str)
  | lst (xs : List D) | tup (xs : List D) | tpn (xs : List D) | dic (kvs : List (Key × D)) | obj (C : Addr) (fs : List (Str × D)) | raw (v : V)

/-- an owned cell -/
inductive Cell where
  | lst (xs : List D)
  | dK (kvs : List (Key × D))
  | dT (kvs : List (List Int × D))
  | ins (C dx : Addr) (fs : List (Str × D))
  | tab (q : Str)
  | xd (fs : List (Str × D))
abbrev Om := Addr → Option Cell
abbrev Fp := Addr → Prop
def fre (ω : Om) (h : Fp) : Fp := fun a => ω a = none ∧ h a
def oset (ω : Om) (a : Addr) (c : Cell) : Om := fun b => if b = a then some c else ω b
def oera (ω : Om) (a : Addr) : Om := fun b => if b = a then none else ω b
theorem oset_same {ω a c} : oset ω a c a = some c := if_pos rfl
theorem oset_ne {ω : Om} {a b c} (h : b ≠ a) : oset ω a c b = ω b := if_neg h
theorem oera_same {ω a} : oera ω a a = none := if_pos rfl
theorem oera_ne {ω : Om} {a b} (h : b ≠ a) : oera ω a b = ω b := if_neg h

section
variable (K : PySem.W.Frag)
def noH : Hp := fun _ => none
def SL (f : Fp) (H : Hp) (a : Addr) (vs : List V) : Prop := (f a ∧ Rd H a (.lst vs)) ∨ SqL K noH a vs
def ST (_ : PySem.W.Frag) (f : Fp) (H : Hp) (a : Addr) (vs : List V) : Prop := f a ∧ H a = some (.tup vs)
/-- a tuple whose object is known to have no dict -/
def SN (f : Fp) (H : Hp) (a : Addr) (vs : List V) : Prop := f a ∧ ∃ o : Obj, o.dict = none ∧ o.cls = .type "tuple" ∧ H a = some (.frz o (.tup vs))
mutual
inductive Rp (f : Fp) (H : Hp) : D → V → Prop
  | non : Rp f H .non .non
  | bl (b : Bool) : Rp f H (.bl b) (.bl b)
  | int (i : Int) : Rp f H (.int i) (.int i)
  | str (x : Str) : Rp f H (.str x) (.str x)
  | raw (v : V) : Rp f H (.raw v) v
  | lst {a : Addr} {vs : List V} {ds : List D} : SL K f H a vs → RpAll f H ds vs → Rp f H (.lst ds) (.ref a)
  | tup {a : Addr} {vs : List V} {ds : List D} : ST K f H a vs → RpAll f H ds vs → Rp f H (.tup ds) (.ref a)
  | tpn {a : Addr} {vs : List V} {ds : List D} : SN f H a vs → RpAll f H ds vs → Rp f H (.tpn ds) (.ref a)
  | dic {a : Addr} {kvs : List (Key × V)} {kds : List (Key × D)} : f a → H a = some (.dK kvs) → RpKv f H kds kvs → Rp f H (.dic kds) (.ref a)
  | obj {a C dx : Addr} {fvs : List (Str × V)} {fds : List (Str × D)} : f a → H a = some (.ins C dx fvs) → RpFs f H fds fvs → Rp f H (.obj C fds) (.ref a)
inductive RpAll (f : Fp) (H : Hp) : List D → List V → Prop
  | nil : RpAll f H [] []
  | cons {d : D} {v : V} {ds : List D} {vs : List V} : Rp f H d v → RpAll f H ds vs → RpAll f H (d :: ds) (v :: vs)
inductive RpKv (f : Fp) (H : Hp) : List (Key × D) → List (Key × V) → Prop
  | nil : RpKv f H [] []
  | cons {k : Key} {d : D} {v : V} {ds : List (Key × D)} {vs : List (Key × V)} : Rp f H d v → RpKv f H ds vs → RpKv f H ((k, d) :: ds) ((k, v) :: vs)
inductive RpFs (f : Fp) (H : Hp) : List (Str × D) → List (Str × V) → Prop
  | nil : RpFs f H [] []
  | cons {k : Str} {d : D} {v : V} {ds : List (Str × D)} {vs : List (Str × V)} : Rp f H d v → RpFs f H ds vs → RpFs f H ((k, d) :: ds) ((k, v) :: vs)
end
inductive RpT (f : Fp) (H : Hp) : List (List Int × D) → List (List Key × V) → Prop
  | nil : RpT f H [] []
  | cons {k : List Int} {d : D} {v : V} {ds : List (List Int × D)} {vs : List (List Key × V)} : Rp K f H d v → RpT f H ds vs → RpT f H ((k, d) :: ds) ((k.map Sum.inl, v) :: vs)
end

section
variable {K : PySem.W.Frag} {f f' : Fp} {H H' : Hp}
/-- what was free is kept and stays free -/
def Kp (H : Hp) (f : Fp) (H' : Hp) (f' : Fp) : Prop := ∀ b o, f b → H b = some o → H' b = some o ∧ f' b
theorem SL.keep (k : Kp H f H' f') {a : Addr} {vs : List V} (s : SL K f H a vs) : SL K f' H' a vs := by
  rcases s with ⟨fa, r | ⟨o, r⟩⟩ | s
  · exact .inl ⟨(k a _ fa r).2, .inl (k a _ fa r).1⟩
  · exact .inl ⟨(k a _ fa r).2, .inr ⟨o, (k a _ fa r).1⟩⟩
  · exact .inr s
theorem ST.keep (k : Kp H f H' f') {a : Addr} {vs : List V} (s : ST K f H a vs) : ST K f' H' a vs := ⟨(k a _ s.1 s.2).2, (k a _ s.1 s.2).1⟩
theorem SL.sq {a : Addr} {vs : List V} (s : SL K f H a vs) : SqL K H a vs := by
  rcases s with ⟨_, r⟩ | (⟨r | ⟨_, r⟩⟩ | s)
  · exact .inl r
  · cases r
  · cases r
  · exact .inr s
theorem SN.keep (k : Kp H f H' f') {a : Addr} {vs : List V} (s : SN f H a vs) : SN f' H' a vs := by
  obtain ⟨fa, o, d, c, e⟩ := s
  exact ⟨(k a _ fa e).2, o, d, c, (k a _ fa e).1⟩
theorem SN.sq {a : Addr} {vs : List V} (s : SN f H a vs) : SqT K H a vs := by
  obtain ⟨_, o, _, _, e⟩ := s
  exact .inl (.inr ⟨o, e⟩)
theorem ST.sq {a : Addr} {vs : List V} (s : ST K f H a vs) : SqT K H a vs := .inl (.inl s.2)
mutual
theorem Rp.keep (k : Kp H f H' f') : ∀ {d : D} {v : V}, Rp K f H d v → Rp K f' H' d v
  | _, _, .non => .non
  | _, _, .bl b => .bl b
  | _, _, .int i => .int i
  | _, _, .str x => .str x
  | _, _, .raw v => .raw v
  | _, _, .lst s r => .lst (s.keep k) (r.keep k)
  | _, _, .tup s r => .tup (s.keep k) (r.keep k)
  | _, _, .tpn s r => .tpn (s.keep k) (r.keep k)
  | _, _, .dic fa e r => .dic (k _ _ fa e).2 (k _ _ fa e).1 (r.keep k)
  | _, _, .obj fa e r => .obj (k _ _ fa e).2 (k _ _ fa e).1 (r.keep k)
theorem RpAll.keep (k : Kp H f H' f') : ∀ {ds : List D} {vs : List V}, RpAll K f H ds vs → RpAll K f' H' ds vs
  | _, _, .nil => .nil
  | _, _, .cons r t => .cons (r.keep k) (t.keep k)
theorem RpKv.keep (k : Kp H f H' f') : ∀ {ds : List (Key × D)} {vs : List (Key × V)}, RpKv K f H ds vs → RpKv K f' H' ds vs
  | _, _, .nil => .nil
  | _, _, .cons r t => .cons (r.keep k) (t.keep k)
theorem RpFs.keep (k : Kp H f H' f') : ∀ {ds : List (Str × D)} {vs : List (Str × V)}, RpFs K f H ds vs → RpFs K f' H' ds vs
  | _, _, .nil => .nil
  | _, _, .cons r t => .cons (r.keep k) (t.keep k)
end
theorem RpT.keep (k : Kp H f H' f') : ∀ {ds : List (List Int × D)} {vs : List (List Key × V)}, RpT K f H ds vs → RpT K f' H' ds vs
  | _, _, .nil => .nil
  | _, _, .cons r t => .cons (r.keep k) (t.keep k)
theorem RpAll.len : ∀ {ds : List D} {vs : List V}, RpAll K f H ds vs → ds.length = vs.length
  | _, _, .nil => rfl
  | _, _, .cons _ t => by rw [List.length_cons, List.length_cons, t.len]
theorem RpAll.get : ∀ {ds : List D} {vs : List V}, RpAll K f H ds vs → ∀ {i : Nat} {d : D}, ds[i]? = some d → ∃ v, vs[i]? = some v ∧ Rp K f H d v
  | _, _, .nil, i, d, e => by simp at e
  | _, _, .cons r _, 0, d, e => by simp at e; subst e; exact ⟨_, rfl, r⟩
  | _, _, .cons _ t, i + 1, d, e => by
    obtain ⟨v, h1, h2⟩ := t.get (i := i) (by simpa using e)
    exact ⟨v, by simpa using h1, h2⟩
theorem RpAll.app : ∀ {ds es : List D} {vs ws : List V}, RpAll K f H ds vs → RpAll K f H es ws → RpAll K f H (ds ++ es) (vs ++ ws)
  | _, _, _, _, .nil, s => s
  | _, _, _, _, .cons r t, s => .cons r (t.app s)
theorem RpAll.take : ∀ {ds : List D} {vs : List V} (n : Nat), RpAll K f H ds vs → RpAll K f H (ds.take n) (vs.take n)
  | _, _, 0, _ => .nil
  | _, _, _ + 1, .nil => .nil
  | _, _, n + 1, .cons r t => .cons r (t.take n)
theorem RpAll.drop : ∀ {ds : List D} {vs : List V} (n : Nat), RpAll K f H ds vs → RpAll K f H (ds.drop n) (vs.drop n)
  | _, _, 0, r => r
  | _, _, _ + 1, .nil => .nil
  | _, _, n + 1, .cons _ t => t.drop n
theorem RpAll.set {x : D} {u : V} (r : Rp K f H x u) : ∀ {ds : List D} {vs : List V} (i : Nat), RpAll K f H ds vs → RpAll K f H (ds.set i x) (vs.set i u)
  | _, _, _, .nil => .nil
  | _, _, 0, .cons _ t => .cons r t
  | _, _, i + 1, .cons q t => .cons q (t.set r i)
theorem RpAll.rev {ds : List D} {vs : List V} (h : RpAll K f H ds vs) : RpAll K f H ds.reverse vs.reverse := by
  induction ds generalizing vs with
  | nil => cases h; exact .nil
  | cons d ds ih =>
    cases h with
    | cons r t =>
      rw [List.reverse_cons, List.reverse_cons]
      exact (ih t).app (.cons r .nil)
theorem RpAll.rep {ds : List D} {vs : List V} (h : RpAll K f H ds vs) : ∀ n, RpAll K f H (List.replicate n ds).flatten (List.replicate n vs).flatten
  | 0 => .nil
  | n + 1 => by
    rw [List.replicate_succ, List.replicate_succ, List.flatten_cons, List.flatten_cons]
    exact h.app (RpAll.rep h n)
theorem RpAll.ints {ns : List Int} : ∀ {vs : List V}, RpAll K f H (ns.map D.int) vs → vs = ns.map V.int := by
  induction ns with
  | nil => intro vs h; cases h; rfl
  | cons n ns ih =>
    intro vs h
    cases h with
    | cons r t => cases r; rw [ih t, List.map_cons]
theorem RpAll.ofInts (ns : List Int) : RpAll K f H (ns.map D.int) (ns.map V.int) := by
  induction ns with
  | nil => exact .nil
  | cons n ns ih => exact .cons (.int n) ih

/-! ### the world -/
def CellOk (K : PySem.W.Frag) (f : Fp) (H : Hp) (a : Addr) : Cell → Prop
  | .lst ds => ∃ vs, H a = some (.lst vs) ∧ RpAll K f H ds vs
  | .dK kds => ∃ kvs, H a = some (.dK kvs) ∧ RpKv K f H kds kvs
  | .dT kds => ∃ kvs, H a = some (.dT kvs) ∧ RpT K f H kds kvs
  | .ins C dx fds => ∃ fvs, H a = some (.ins C dx fvs) ∧ RpFs K f H fds fvs
  | .xd fds => ∃ fvs, H a = some (.xd fvs) ∧ RpFs K f H fds fvs
  | .tab q => ∃ ps, H a = some (.tbl ps) ∧ TriplesOk ps.toList ∧ ∀ (p : Pos) (cv : Value), codeAmong p ps.toList = some cv → ∃ c, cv = .ref c ∧ f c ∧ H c = some (LamX.CodeO c q)
/-- what is not owned is kept -/
def Fr (H : Hp) (ω : Om) (H' : Hp) (ω' : Om) : Prop := ∀ b o, ω b = none → H b = some o → H' b = some o ∧ ω' b = none
/-- what is asked of the state throughout a body: that an error may be let out from here -/
def hid (h : Fp) (D : Addr) : Fp := fun b => h b ∧ b ≠ D
class Amb where
  G : Fp → Hp → Om → Prop
  N : Addr → Prop
  mono : ∀ {h : Fp} {H H' : Hp} {ω ω' : Om}, G h H ω → Fr H ω H' ω' → G h H' ω'
  new : ∀ {h : Fp} {H : Hp} {ω : Om} {p : Addr}, G h H ω → H p = none → h p → N p
  hide : ∀ {h : Fp} {H : Hp} {ω : Om} {p : Addr}, G h H ω → G (hid h p) H ω
  show_ : ∀ {h : Fp} {H : Hp} {ω : Om} {p : Addr}, N p → G (hid h p) H ω → G h H ω
  put : ∀ {h : Fp} {H : Hp} {ω : Om} {p : Addr} {o : HO}, N p → G h H ω → G h (upd H p o) ω
  own : ∀ {h : Fp} {H : Hp} {ω : Om} {p : Addr} {c : Cell}, N p → G h H ω → G h H (oset ω p c)
/-- nothing is asked -/
instance (priority := low) amb0 : Amb := ⟨fun _ _ _ => True, fun _ => True, fun _ _ => trivial, fun _ _ _ => trivial, fun _ => trivial, fun _ _ => trivial, fun _ _ => trivial, fun _ _ => trivial⟩
structure Wd [Amb] (K : PySem.W.Frag) (h : Fp) (H : Hp) (ω : Om) : Prop where
  cell : ∀ a c, ω a = some c → CellOk K (fre ω h) H a c
  open_ : ∀ b, H b = none → h b
  tup_ : ∀ b vs, ω b = none → H b = some (.tup vs) → h b
  amb : Amb.G h H ω
variable {h : Fp} {ω ω' ω'' : Om} {H'' : Hp}
variable [Amb]
omit [Amb] in
theorem Fr.refl : Fr H ω H ω := fun _ _ a b => ⟨b, a⟩
omit [Amb] in
theorem Fr.trans (a : Fr H ω H' ω') (b : Fr H' ω' H'' ω'') : Fr H ω H'' ω'' := fun c o x y => b c o (a c o x y).2 (a c o x y).1
omit [Amb] in
theorem Fr.kp (a : Fr H ω H' ω') : Kp H (fre ω h) H' (fre ω' h) := fun b o x y => ⟨(a b o x.1 y).1, (a b o x.1 y).2, x.2⟩
omit [Amb] in
theorem CellOk.keep {a : Addr} (e : H' a = H a) (k : Kp H f H' f') : ∀ {c : Cell}, CellOk K f H a c → CellOk K f' H' a c
  | .lst _, ⟨vs, x, y⟩ => ⟨vs, e.trans x, y.keep k⟩
  | .dK _, ⟨vs, x, y⟩ => ⟨vs, e.trans x, y.keep k⟩
  | .dT _, ⟨vs, x, y⟩ => ⟨vs, e.trans x, y.keep k⟩
  | .ins _ _ _, ⟨vs, x, y⟩ => ⟨vs, e.trans x, y.keep k⟩
  | .xd _, ⟨vs, x, y⟩ => ⟨vs, e.trans x, y.keep k⟩
  | .tab _, ⟨ps, x, y, z⟩ => ⟨ps, e.trans x, y, fun p cv hc => let ⟨c, e1, e2, e3⟩ := z p cv hc; ⟨c, e1, (k c _ e2 e3).2, (k c _ e2 e3).1⟩⟩
omit [Amb] in
theorem CellOk.has {a : Addr} : ∀ {c : Cell}, CellOk K f H a c → H a ≠ none
  | .lst _, ⟨vs, x, _⟩ => by rw [x]; simp
  | .dK _, ⟨vs, x, _⟩ => by rw [x]; simp
  | .dT _, ⟨vs, x, _⟩ => by rw [x]; simp
  | .ins _ _ _, ⟨vs, x, _⟩ => by rw [x]; simp
  | .xd _, ⟨ps, x, _⟩ => by rw [x]; simp
  | .tab _, ⟨ps, x, _⟩ => by rw [x]; simp
theorem Wd.fresh (w : Wd K h H ω) {p : Addr} (e : H p = none) : ω p = none := by
  cases z : ω p with
  | none => rfl
  | some c => exact absurd e (w.cell p c z).has
theorem Wd.fre_new (w : Wd K h H ω) {p : Addr} (e : H p = none) : fre ω h p := ⟨w.fresh e, w.open_ p e⟩
omit [Amb] in
/-- a new thing that is not owned -/
theorem Fr.new {p : Addr} {o : HO} (e : H p = none) : Fr H ω (upd H p o) ω := fun b u x y => ⟨by rw [upd_ne (ne_of_none y e)]; exact y, x⟩
theorem Wd.new (w : Wd K h H ω) {p : Addr} {o : HO} (e : H p = none) : Wd K h (upd H p o) ω where
  cell a c x := by
    have n : a ≠ p := fun z => by
      have := w.fresh e
      rw [← z, x] at this
      cases this
    exact (w.cell a c x).keep (upd_ne n) (Fr.new e).kp
  amb := Amb.mono w.amb (Fr.new e)
  open_ b x := by
    by_cases hb : b = p
    · subst hb; rw [upd_same] at x; cases x
    · rw [upd_ne hb] at x; exact w.open_ b x
  tup_ b vs n x := by
    by_cases hb : b = p
    · subst hb; exact w.open_ b e
    · rw [upd_ne hb] at x; exact w.tup_ b vs n x
omit [Amb] in
/-- a new owned cell -/
theorem Fr.own {p : Addr} {o : HO} {c : Cell} (e : H p = none) : Fr H ω (upd H p o) (oset ω p c) := fun b u x y =>
  have n := ne_of_none y e
  ⟨by rw [upd_ne n]; exact y, by rw [oset_ne n]; exact x⟩
theorem Wd.own (w : Wd K h H ω) {p : Addr} {o : HO} {c : Cell} (e : H p = none) (ok : ∀ H' f', Kp H (fre ω h) H' f' → H' p = some o → CellOk K f' H' p c) : Wd K h (upd H p o) (oset ω p c) where
  cell a d x := by
    by_cases n : a = p
    · subst n
      rw [oset_same] at x
      cases x
      exact ok _ _ (Fr.own e).kp upd_same
    · rw [oset_ne n] at x
      exact (w.cell a d x).keep (upd_ne n) (Fr.own e).kp
  amb := Amb.mono w.amb (Fr.own e)
  open_ b x := by
    by_cases hb : b = p
    · subst hb; rw [upd_same] at x; cases x
    · rw [upd_ne hb] at x; exact w.open_ b x
  tup_ b vs n x := by
    by_cases hb : b = p
    · subst hb; rw [oset_same] at n; cases n
    · rw [oset_ne hb] at n; rw [upd_ne hb] at x; exact w.tup_ b vs n x
omit [Amb] in
/-- an owned cell is written -/
theorem Fr.put {p : Addr} {o : HO} {c c0 : Cell} (e : ω p = some c0) : Fr H ω (upd H p o) (oset ω p c) := fun b u x y =>
  have n : b ≠ p := fun z => by rw [z, e] at x; cases x
  ⟨by rw [upd_ne n]; exact y, by rw [oset_ne n]; exact x⟩
theorem Wd.put (w : Wd K h H ω) {p : Addr} {o : HO} {c c0 : Cell} (e : ω p = some c0) (ok : ∀ H' f', Kp H (fre ω h) H' f' → H' p = some o → CellOk K f' H' p c) : Wd K h (upd H p o) (oset ω p c) where
  cell a d x := by
    by_cases n : a = p
    · subst n
      rw [oset_same] at x
      cases x
      exact ok _ _ (Fr.put e).kp upd_same
    · rw [oset_ne n] at x
      exact (w.cell a d x).keep (upd_ne n) (Fr.put e).kp
  amb := Amb.mono w.amb (Fr.put e)
  open_ b x := by
    by_cases hb : b = p
    · subst hb; rw [upd_same] at x; cases x
    · rw [upd_ne hb] at x; exact w.open_ b x
  tup_ b vs n x := by
    by_cases hb : b = p
    · subst hb; rw [oset_same] at n; cases n
    · rw [oset_ne hb] at n; rw [upd_ne hb] at x; exact w.tup_ b vs n x
theorem Rp.new_lst (w : Wd K h H ω) {p : Addr} {ds : List D} {vs : List V} (e : H p = none) (r : RpAll K (fre ω h) H ds vs) : Rp K (fre ω h) (upd H p (.lst vs)) (.lst ds) (.ref p) :=
  .lst (.inl ⟨w.fre_new e, .inl upd_same⟩) (r.keep (Fr.new e).kp)
theorem Rp.new_tup (w : Wd K h H ω) {p : Addr} {ds : List D} {vs : List V} (e : H p = none) (r : RpAll K (fre ω h) H ds vs) : Rp K (fre ω h) (upd H p (.tup vs)) (.tup ds) (.ref p) :=
  .tup ⟨w.fre_new e, upd_same⟩ (r.keep (Fr.new e).kp)

theorem Wd.drop (w : Wd K h H ω) : @Wd amb0 K h H ω := @Wd.mk amb0 _ _ _ _ w.cell w.open_ w.tup_ trivial
theorem Wd.lift (w : @Wd amb0 K h H ω) (g : Amb.G h H ω) : Wd K h H ω := ⟨@Wd.cell amb0 _ _ _ _ w, @Wd.open_ amb0 _ _ _ _ w, @Wd.tup_ amb0 _ _ _ _ w, g⟩
/-! ### slots -/
abbrev Rho := List (Option D)
structure Sl (K : PySem.W.Frag) (f : Fp) (H : Hp) (σ : L2.St) (ρ : Rho) : Prop where
  len : ρ.length = σ.length
  at_ : ∀ (i : Nat) (d : D), ρ[i]? = some (some d) → ∃ v, σ[i]? = some (some v) ∧ Rp K f H d v
theorem Sl.keep {σ ρ} (s : Sl K f H σ ρ) (k : Kp H f H' f') : Sl K f' H' σ ρ := ⟨s.len, fun i d e => let ⟨v, a, b⟩ := s.at_ i d e; ⟨v, a, b.keep k⟩⟩
theorem Sl.set {σ ρ} {d : D} {v : V} (s : Sl K f H σ ρ) (r : Rp K f H d v) (i : Nat) : Sl K f H (σ.set i (some v)) (ρ.set i (some d)) := by
  refine ⟨by rw [List.length_set, List.length_set, s.len], fun j e x => ?_⟩
  by_cases n : i = j
  · subst n
    by_cases l : i < ρ.length
    · rw [List.getElem?_set_self l] at x
      cases x
      exact ⟨v, List.getElem?_set_self (by rw [← s.len]; exact l), r⟩
    · rw [List.getElem?_eq_none (by rw [List.length_set]; omega)] at x
      cases x
  · rw [List.getElem?_set_ne n] at x ⊢
    exact s.at_ j e x
theorem Sl.forget {σ ρ} (s : Sl K f H σ ρ) (i : Nat) : Sl K f H (σ.set i none) (ρ.set i none) := by
  refine ⟨by rw [List.length_set, List.length_set, s.len], fun j e x => ?_⟩
  by_cases n : i = j
  · subst n
    by_cases l : i < ρ.length
    · rw [List.getElem?_set_self l] at x
      cases x
    · rw [List.getElem?_eq_none (by rw [List.length_set]; omega)] at x
      cases x
  · rw [List.getElem?_set_ne n] at x ⊢
    exact s.at_ j e x
def wipeD (ρ : Rho) : List Nat → Rho
  | [] => ρ
  | v :: vs => (wipeD ρ vs).set v none
theorem Sl.wipe {σ ρ} (s : Sl K f H σ ρ) : ∀ vs, Sl K f H (wipe σ vs) (wipeD ρ vs)
  | [] => s
  | _ :: vs => (s.wipe vs).forget _
end
end DL

/-! DC: judgements over plain data, the rules of expressions and statements. -/
namespace DL
open PySem PySem.Spec L2

abbrev DQ := D → Om → Prop
abbrev TD := Rho → Om → DQ → Prop
section
variable (K : PySem.W.Frag)
def Cnt [Amb] (h : Fp) (H : Hp) (ω : Om) (R : DQ) (Q : VK) : Prop := ∀ d ω' v H', R d ω' → Fr H ω H' ω' → Wd K h H' ω' → Rp K (fre ω' h) H' d v → Q v H'
def up [Amb] (T : TD) : TE := fun σ H Q => ∃ h ρ ω R, Sl K (fre ω h) H σ ρ ∧ Wd K h H ω ∧ T ρ ω R ∧ Cnt K h H ω R Q
abbrev TTD := Rho → Om → (Bool → Om → Prop) → Prop
def upT [Amb] (T : TTD) : TT := fun σ H Q => ∃ h ρ ω R, Sl K (fre ω h) H σ ρ ∧ Wd K h H ω ∧ T ρ ω R ∧ ∀ b ω' H', R b ω' → Fr H ω H' ω' → Wd K h H' ω' → Q b H'
abbrev TAD := Rho → Om → (List D → Om → Prop) → Prop
def upA [Amb] (T : TAD) : TA := fun σ H Q => ∃ h ρ ω R, Sl K (fre ω h) H σ ρ ∧ Wd K h H ω ∧ T ρ ω R ∧ ∀ ds ω' vs H', R ds ω' → Fr H ω H' ω' → Wd K h H' ω' → RpAll K (fre ω' h) H' ds vs → Q vs H'
structure DEnds where
  nx : Rho → Om → Prop
  rt : DQ
  bk : Rho → Om → Prop := fun _ _ => False
  ct : Rho → Om → Prop := fun _ _ => False
abbrev TSD := DEnds → Rho → Om → Prop
def CntS [Amb] (h : Fp) (H : Hp) (ω : Om) (R : Rho → Om → Prop) (Q : L2.St → Hp → Prop) : Prop := ∀ ρ' ω' σ' H', R ρ' ω' → Fr H ω H' ω' → Wd K h H' ω' → Sl K (fre ω' h) H' σ' ρ' → Q σ' H'
def upS [Amb] (T : TSD) : TS := fun E σ H => ∃ h ρ ω e, Sl K (fre ω h) H σ ρ ∧ Wd K h H ω ∧ T e ρ ω ∧ CntS K h H ω e.nx E.nx ∧ Cnt K h H ω e.rt E.rt ∧ CntS K h H ω e.bk E.bk ∧ CntS K h H ω e.ct E.ct
abbrev TGD := D → Rho → Om → (Rho → Om → Prop) → Prop
def upG [Amb] (T : TGD) : TG := fun v σ H Q => ∃ h ρ ω d R, Sl K (fre ω h) H σ ρ ∧ Wd K h H ω ∧ Rp K (fre ω h) H d v ∧ T d ρ ω R ∧ CntS K h H ω R Q
end
abbrev DE [Amb] (X : Cx) (e : Expr) (T : TD) : Prop := PE X e (up X.K T)
abbrev DT [Amb] (X : Cx) (e : Expr) (T : TTD) : Prop := PT X e (upT X.K T)
abbrev DA [Amb] (X : Cx) (es : List Expr) (T : TAD) : Prop := PA X es (upA X.K T)
abbrev DS [Amb] (X : Cx) (s : Stmt) (T : TSD) : Prop := PS X s (upS X.K T)
abbrev DSs [Amb] (X : Cx) (s : List Stmt) (T : TSD) : Prop := PSs X s (upS X.K T)
abbrev DG [Amb] (X : Cx) (e : Expr) (T : TGD) : Prop := PG X e (upG X.K T)

theorem PE.weak {X : Cx} {e : Expr} {t u : TE} (p : PE X e t) (w : ∀ σ H Q, u σ H Q → t σ H Q) : PE X e u := ⟨fun pins s σ H Q I q => p.run pins s σ H Q I (w σ H Q q)⟩
theorem PT.weak {X : Cx} {e : Expr} {t u : TT} (p : PT X e t) (w : ∀ σ H Q, u σ H Q → t σ H Q) : PT X e u := ⟨fun pins s σ H Q I q => p.run pins s σ H Q I (w σ H Q q)⟩
theorem PA.weak {X : Cx} {e : List Expr} {t u : TA} (p : PA X e t) (w : ∀ σ H Q, u σ H Q → t σ H Q) : PA X e u := ⟨fun pos pins s σ H Q I q => p.run pos pins s σ H Q I (w σ H Q q)⟩
theorem PS.weak {X : Cx} {e : Stmt} {t u : TS} (p : PS X e t) (w : ∀ E σ H, u E σ H → t E σ H) : PS X e u := ⟨fun pins s σ H Q I q => p.run pins s σ H Q I (w Q σ H q)⟩
theorem PSs.weak {X : Cx} {e : List Stmt} {t u : TS} (p : PSs X e t) (w : ∀ E σ H, u E σ H → t E σ H) : PSs X e u := ⟨fun pins s σ H Q I q => p.run pins s σ H Q I (w Q σ H q)⟩

section
variable {K : PySem.W.Frag} {X : Cx} {h : Fp} {H H' : Hp} {ω ω' : Om} {a b c : Expr} {pos : Pos} {Ta Tb Tc : TD}
theorem Cnt.go [Amb] {R : DQ} {Q : VK} (k : Cnt K h H ω R Q) (f : Fr H ω H' ω') : Cnt K h H' ω' R Q := fun d w2 v H2 r f2 => k d w2 v H2 r (f.trans f2)
theorem Cnt.drop [Amb] {R : DQ} {Q : VK} (k : Cnt K h H ω R Q) (w : Wd K h H ω) : @Cnt K amb0 h H ω R Q := fun d w2 v H2 r f2 w0 rp => k d w2 v H2 r f2 (Wd.lift w0 (Amb.mono w.amb f2)) rp
theorem CntS.go [Amb] {R : Rho → Om → Prop} {Q : L2.St → Hp → Prop} (k : CntS K h H ω R Q) (f : Fr H ω H' ω') : CntS K h H' ω' R Q := fun d w2 v H2 r f2 => k d w2 v H2 r (f.trans f2)
theorem Cnt.self [Amb] {R : DQ} {Q : VK} (k : Cnt K h H ω R Q) (w : Wd K h H ω) {d v} (q : R d ω) (r : Rp K (fre ω h) H d v) : Q v H := k d ω v H q Fr.refl w r
theorem Cnt.nlst [Amb] {R : DQ} {Q : VK} (k : Cnt K h H ω R Q) (w : Wd K h H ω) {ds vs} (q : R (.lst ds) ω) (r : RpAll K (fre ω h) H ds vs) {p} (e : H p = none) : Q (.ref p) (upd H p (.lst vs)) :=
  k _ ω _ _ q (Fr.new e) (w.new e) (Rp.new_lst w e r)
theorem Cnt.ntup [Amb] {R : DQ} {Q : VK} (k : Cnt K h H ω R Q) (w : Wd K h H ω) {ds vs} (q : R (.tup ds) ω) (r : RpAll K (fre ω h) H ds vs) {p} (e : H p = none) : Q (.ref p) (upd H p (.tup vs)) :=
  k _ ω _ _ q (Fr.new e) (w.new e) (Rp.new_tup w e r)

/-! ### names, constants -/
def dVar (i : Nat) : TD := fun ρ ω Q => ∃ d, ρ[i]? = some (some d) ∧ Q d ω
def dC (d : D) : TD := fun _ ω Q => Q d ω
theorem de_var [Amb] {i : Nat} {x : Str} (hN : X.N[i]? = some x) (hv : Vis X.env.scope x) (hd : (x == ("__debug__" : Str)) = false := by decide) (hcd : (x == ("__classdict__" : Str)) = false := by decide) : DE X (.Name x pos) (dVar i) :=
  PE.weak (pe_var hN hv hd hcd) fun σ H Q ⟨h, ρ, ω, R, sl, w, ⟨d, e, q⟩, k⟩ => let ⟨v, e', r⟩ := sl.at_ i d e; ⟨v, e', k.self w q r⟩
theorem de_int [Amb] {i j} : DE X (.Constant (.int i) j pos) (dC (.int i)) := PE.weak pe_int fun _ _ _ ⟨_, _, _, _, _, w, q, k⟩ => k.self w q (.int i)
theorem de_bl [Amb] {b j} : DE X (.Constant (.bool b) j pos) (dC (.bl b)) := PE.weak pe_bl fun _ _ _ ⟨_, _, _, _, _, w, q, k⟩ => k.self w q (.bl b)
theorem de_non [Amb] {j} : DE X (.Constant .none j pos) (dC .non) := PE.weak pe_non fun _ _ _ ⟨_, _, _, _, _, w, q, k⟩ => k.self w q .non
theorem de_str [Amb] {x j} : DE X (.Constant (.str x) j pos) (dC (.str x)) := PE.weak pe_str fun _ _ _ ⟨_, _, _, _, _, w, q, k⟩ => k.self w q (.str x)
theorem de_globI [Amb] {x : Str} {i : Int} {u : Value} (hg : Gl X x) (hm : X.mg x = some u) (r : RelV (.int i) u) (hd : (x == ("__debug__" : Str)) = false := by decide) : DE X (.Name x pos) (dC (.int i)) :=
  PE.weak (pe_glob hg hm r hd) fun _ _ _ ⟨_, _, _, _, _, w, q, k⟩ => k.self w q (.int i)
theorem de_bltn [Amb] {x : Str} {v : V} {u : Value} (hg : Gl X x) (hm : X.mg x = none) (hv : bootBuiltins x = some u) (r : RelV v u) (hn : x ≠ "__name__" := by decide) (hd : (x == ("__debug__" : Str)) = false := by decide) : DE X (.Name x pos) (dC (.raw v)) :=
  PE.weak (pe_bltn hg hm hv r hn hd) fun _ _ _ ⟨_, _, _, _, _, w, q, k⟩ => k.self w q (.raw v)

/-! ### operators -/
abbrev DO2 := D → D → Om → DQ → Prop
def OpD [Amb] (K : PySem.W.Frag) (o : DO2) (r : R2) : Prop := ∀ h x y ω R vx vy H Q, o x y ω R → Wd K h H ω → Rp K (fre ω h) H x vx → Rp K (fre ω h) H y vy → Cnt K h H ω R Q → r vx vy H Q
def dBin (o : DO2) (Ta Tb : TD) : TD := fun ρ ω Q => Ta ρ ω fun x ω1 => Tb ρ ω1 fun y ω2 => o x y ω2 Q
theorem up_bin [Amb] {o : DO2} {r : R2} (ok : OpD K o r) {σ H Q} (u : up K (dBin o Ta Tb) σ H Q) : tOp r (up K Ta) (up K Tb) σ H Q := by
  obtain ⟨h, ρ, ω, R, sl, w, t, k⟩ := u
  refine ⟨h, ρ, ω, _, sl, w, t, fun x ω1 vx H1 t1 f1 w1 rx => ?_⟩
  refine ⟨h, ρ, ω1, _, sl.keep f1.kp, w1, t1, fun y ω2 vy H2 t2 f2 w2 ry => ?_⟩
  exact ok h x y ω2 R vx vy H2 Q t2 w2 (rx.keep f2.kp) ry (k.go (f1.trans f2))
theorem de_op [Amb] {op} {o : DO2} {r : R2} (ho : OpR X (binaryOp op) r) (ok : OpD X.K o r) (ha : DE X a Ta) (hb : DE X b Tb) : DE X (.BinOp a op b pos) (dBin o Ta Tb) :=
  PE.weak (pe_op ho ha hb) fun _ _ _ => up_bin ok
theorem de_cmp [Amb] {op} {o : DO2} {r : R2} (ho : OpR X (compareOp op) r) (ok : OpD X.K o r) (ha : DE X a Ta) (hb : DE X b Tb) (hm : behindInMarks op b = false := by rfl) : DE X (.Compare a [op] [b] pos) (dBin o Ta Tb) :=
  PE.weak (pe_cmpR ho ha hb hm) fun _ _ _ => up_bin ok
def dChain (o o' : DO2) (Ta Tb Tc : TD) : TD := fun ρ ω Q => Ta ρ ω fun x ω1 => Tb ρ ω1 fun y ω2 => o x y ω2 fun z ω3 => ∃ k, z = .bl k ∧ if k = true then Tc ρ ω3 fun u ω4 => o' y u ω4 Q else Q (.bl false) ω3
theorem de_chain [Amb] {op op'} {o o' : DO2} {r r' : R2} (ho : OpR X (compareOp op) r) (ok : OpD X.K o r) (ho' : OpR X (compareOp op') r') (ok' : OpD X.K o' r') (ha : DE X a Ta) (hb : DE X b Tb) (hc : DE X c Tc)
    (hm : lastMarks [op, op'] [b, c] = false := by with_unfolding_all rfl) : DE X (.Compare a [op, op'] [b, c] pos) (dChain o o' Ta Tb Tc) := by
  refine PE.weak (pe_chain ho ho' ha hb hc hm) fun σ H Q ⟨h, ρ, ω, R, sl, w, t, k⟩ => ?_
  refine ⟨h, ρ, ω, _, sl, w, t, fun x ω1 vx H1 t1 f1 w1 rx => ?_⟩
  refine ⟨h, ρ, ω1, _, sl.keep f1.kp, w1, t1, fun y ω2 vy H2 t2 f2 w2 ry => ?_⟩
  refine ok h x y ω2 _ vx vy H2 _ t2 w2 (rx.keep f2.kp) ry fun z ω3 vz H3 t3 f3 w3 rz => ?_
  obtain ⟨kk, rfl, t3⟩ := t3
  cases rz
  refine ⟨kk, rfl, ?_⟩
  cases kk with
  | false => exact k _ _ _ _ t3 (f1.trans (f2.trans f3)) w3 (.bl false)
  | true =>
    refine ⟨h, ρ, ω3, _, sl.keep (f1.trans (f2.trans f3)).kp, w3, t3, fun u ω4 vu H4 t4 f4 w4 ru => ?_⟩
    exact ok' h y u ω4 R vy vu H4 Q t4 w4 (ry.keep (f3.trans f4).kp) ru (k.go (f1.trans (f2.trans (f3.trans f4))))
abbrev DO1 := D → Om → DQ → Prop
def UnD [Amb] (K : PySem.W.Frag) (o : DO1) (r : V → Hp → VK → Prop) : Prop := ∀ h x ω R vx H Q, o x ω R → Wd K h H ω → Rp K (fre ω h) H x vx → Cnt K h H ω R Q → r vx H Q
def dUn (o : DO1) (Ta : TD) : TD := fun ρ ω Q => Ta ρ ω fun x ω1 => o x ω1 Q
theorem de_un [Amb] {op} {o : DO1} {r} (ho : UnR X (unaryOp op) r) (ok : UnD X.K o r) (ha : DE X a Ta) : DE X (.UnaryOp op a pos) (dUn o Ta) :=
  PE.weak (pe_un ho ha) fun _ _ _ ⟨h, ρ, ω, R, sl, w, t, k⟩ => ⟨h, ρ, ω, _, sl, w, t, fun x ω1 vx H1 t1 f1 w1 rx => ok h x ω1 R vx H1 _ t1 w1 rx (k.go f1)⟩

/-! ### arguments, displays, calls of built-ins -/
def dNil : TAD := fun _ ω Q => Q [] ω
def dCons (Ta : TD) (T : TAD) : TAD := fun ρ ω Q => Ta ρ ω fun x ω1 => T ρ ω1 fun xs ω2 => Q (x :: xs) ω2
theorem da_nil [Amb] : DA X [] dNil := PA.weak pa_nil fun _ _ _ ⟨_, _, _, _, _, w, q, k⟩ => k [] _ [] _ q Fr.refl w .nil
theorem da_cons [Amb] {es : List Expr} {T : TAD} (ha : DE X a Ta) (hr : DA X es T) (he : starEach (a :: es) X.env = (false, eval a X.env) :: starEach es X.env := by rfl) : DA X (a :: es) (dCons Ta T) := by
  refine PA.weak (pa_cons ha hr he) fun σ H Q ⟨h, ρ, ω, R, sl, w, t, k⟩ => ?_
  refine ⟨h, ρ, ω, _, sl, w, t, fun x ω1 vx H1 t1 f1 w1 rx => ?_⟩
  exact ⟨h, ρ, ω1, _, sl.keep f1.kp, w1, t1, fun xs ω2 vs H2 t2 f2 w2 rs => k _ ω2 _ _ t2 (f1.trans f2) w2 (.cons (rx.keep f2.kp) rs)⟩
def dLst (T : TAD) : TD := fun ρ ω Q => T ρ ω fun xs ω1 => xs.length ≤ sizeLine ∧ Q (.lst xs) ω1
def dTup (T : TAD) : TD := fun ρ ω Q => T ρ ω fun xs ω1 => xs.length ≤ sizeLine ∧ Q (.tup xs) ω1
def dLstO (T : TAD) : TD := fun ρ ω Q => T ρ ω fun xs ω1 => xs.length ≤ sizeLine ∧ ∀ p, ω1 p = none → Q (.raw (.ref p)) (oset ω1 p (.lst xs))
variable {es : List Expr} {T : TAD}
theorem de_lst [Amb] (hr : DA X es T) : DE X (.List es pos) (dLst T) :=
  PE.weak (pe_lst hr) fun _ _ _ ⟨h, ρ, ω, _, sl, w, t, k⟩ => ⟨h, ρ, ω, _, sl, w, t, fun _ _ _ _ t1 f1 w1 rs => ⟨by rw [← rs.len]; exact t1.1, fun _ e => (k.go f1).nlst w1 t1.2 rs e⟩⟩
theorem de_tup [Amb] {x1} (hr : DA X es T) : DE X (.Tuple es x1 pos) (dTup T) :=
  PE.weak (pe_tup hr) fun _ _ _ ⟨h, ρ, ω, _, sl, w, t, k⟩ => ⟨h, ρ, ω, _, sl, w, t, fun _ _ _ _ t1 f1 w1 rs => ⟨by rw [← rs.len]; exact t1.1, fun _ e => (k.go f1).ntup w1 t1.2 rs e⟩⟩
theorem de_lstO [Amb] (hr : DA X es T) : DE X (.List es pos) (dLstO T) :=
  PE.weak (pe_lst hr) fun _ _ _ ⟨h, ρ, ω, _, sl, w, t, k⟩ => ⟨h, ρ, ω, _, sl, w, t, fun _ _ _ _ t1 f1 w1 rs => ⟨by rw [← rs.len]; exact t1.1, fun p e =>
    (k.go f1) _ _ _ _ (t1.2 p (w1.fresh e)) (Fr.own e) (w1.own e fun H' f' kp hp => ⟨_, hp, rs.keep kp⟩) (.raw _)⟩⟩
abbrev DOn := List D → Om → DQ → Prop
def CallD [Amb] (K : PySem.W.Frag) (o : DOn) (r : List V → Hp → VK → Prop) : Prop := ∀ h xs ω R vs H Q, o xs ω R → Wd K h H ω → RpAll K (fre ω h) H xs vs → Cnt K h H ω R Q → r vs H Q
def dCall (o : DOn) (T : TAD) : TD := fun ρ ω Q => T ρ ω fun xs ω1 => o xs ω1 Q
theorem up_call [Amb] {o : DOn} {r} (ok : CallD K o r) {σ H Q} (u : up K (dCall o T) σ H Q) : tCB r (upA K T) σ H Q := by
  obtain ⟨h, ρ, ω, R, sl, w, t, k⟩ := u
  exact ⟨h, ρ, ω, _, sl, w, t, fun xs ω1 vs H1 t1 f1 w1 rs => ok h xs ω1 R vs H1 Q t1 w1 rs (k.go f1)⟩
variable {id Ty : String} {x : Str} {p : Pos} {e : Expr}
theorem de_callB [Amb] {o : DOn} {r} (hc : CallR X (.builtin id) r) (ok : CallD X.K o r) (hg : Gl X x) (hm : X.mg x = none) (hv : bootBuiltins x = some (.builtin id)) (ha : DA X (e :: es) T) (hn : x ≠ "__name__" := by decide) (hdb : (x == ("__debug__" : Str)) = false := by decide)
    (he : starEach (e :: es) X.env = (false, eval e X.env) :: starEach es X.env := by rfl) (hpl : (backTo pos (starEach es X.env)).any (·.1) = false := by rfl) : DE X (.Call (.Name x p) (e :: es) [] pos) (dCall o T) :=
  PE.weak (pe_callB hc hg hm hv ha hn hdb he hpl) fun _ _ _ => up_call ok
theorem de_callTy [Amb] {o : DOn} {r} (hc : CallR X (.type Ty) r) (ok : CallD X.K o r) (hg : Gl X x) (hm : X.mg x = none) (hv : bootBuiltins x = some (.type Ty)) (ha : DA X (e :: es) T) (hn : x ≠ "__name__" := by decide) (hdb : (x == ("__debug__" : Str)) = false := by decide)
    (he : starEach (e :: es) X.env = (false, eval e X.env) :: starEach es X.env := by rfl) (hpl : (backTo pos (starEach es X.env)).any (·.1) = false := by rfl) : DE X (.Call (.Name x p) (e :: es) [] pos) (dCall o T) :=
  PE.weak (pe_callTy hc hg hm hv ha hn hdb he hpl) fun _ _ _ => up_call ok

/-! ### defs -/
abbrev SpD := List D → Om → DQ → Prop
def spU (K : PySem.W.Frag) (S : SpD) : Sp := fun vs H Q _ => ∃ h ds ω R, RpAll K (fre ω h) H ds vs ∧ Wd K h H ω ∧ S ds ω R ∧ Cnt K h H ω R Q
theorem de_fn [Amb] {CX : CXT} {k : Nat} {f : Addr} {fd : FuncData} {ps : List Str} {S : SpD} {E : XK} (F : FnG X.prog X.w X.K X.mg X.base CX k f fd ps (spU X.K S)) (hr : Room k X.A) (gd : X.A.guards = some []) (hg : Gl X x) (hm : X.mg x = some (.ref f)) (hk : PySem.W.keepIn X.K (.ref f) = true)
    (hb : Binds X.K fd ps []) (hx : Passes CX X E) (ha : DA X (e :: es) T) (hdb : (x == ("__debug__" : Str)) = false := by decide)
    (e1 : starEach (e :: es) X.env = (false, eval e X.env) :: starEach es X.env := by rfl) (e2 : (backTo pos (starEach es X.env)).any (·.1) = false := by rfl) : DE X (.Call (.Name x p) (e :: es) [] pos) (dCall S T) := by
  refine PE.weak (pe_callG F hr gd hg hm hk hb .nil hx ha hdb e1 e2) fun σ H Q ⟨h, ρ, ω, R, sl, w, t, k⟩ => ?_
  refine ⟨h, ρ, ω, _, sl, w, t, fun xs ω1 vs H1 t1 f1 w1 rs => ?_⟩
  show spU X.K S (vs ++ []) H1 Q E
  rw [List.append_nil]
  exact ⟨h, xs, ω1, R, rs, w1.drop, t1, (k.go f1).drop w1⟩
def startD (N : List Str) (ds : List D) : Rho := ds.map some ++ List.replicate (N.length - ds.length) none
theorem start_eq {N : List Str} {vs : List V} : start N vs = vs.map some ++ List.replicate (N.length - vs.length) none := rfl
theorem Sl.start {f : Fp} {H : Hp} {N : List Str} {ds : List D} {vs : List V} (r : RpAll K f H ds vs) : Sl K f H (start N vs) (startD N ds) := by
  have l := r.len
  refine ⟨by simp only [startD, start_eq, List.length_append, List.length_map, List.length_replicate, l], fun i d z => ?_⟩
  unfold startD at z
  rw [start_eq]
  by_cases hi : i < ds.length
  · rw [List.getElem?_append_left (by simpa using hi), List.getElem?_map] at z
    cases e : ds[i]? with
    | none => rw [e] at z; cases z
    | some d' =>
      rw [e] at z
      cases z
      obtain ⟨v, e2, rv⟩ := r.get e
      exact ⟨v, by rw [List.getElem?_append_left (by simpa [← l] using hi), List.getElem?_map, e2]; rfl, rv⟩
  · rw [List.getElem?_append_right (by simpa using Nat.le_of_not_lt hi), List.getElem?_replicate] at z
    split at z <;> cases z
/-- a def by its body over plain data -/
theorem FnG.ofD {P : Program} {w : World} {K : PySem.W.Frag} {mg : Str → Option Value} {base : Heap} {k : Nat} {x qual : Str} {st : Stmt} {f : Addr} {fd : FuncData} {N ps : List Str} {S : SpD} {T : TSD}
    (F : Fun K x qual st f fd) (sc : FnScope N ps (defScope st)) (ar : ∀ ds ω R, S ds ω R → ds.length = ps.length)
    (b : ∀ (cdv : Value) (A : Around) (fs : List Env) (s : Shared) (hp : Hp) (e : XK), Room k (A.deeper (PyProof.Rows.envOfC qual (defScope st) s.heap.objs.size f cdv)) → A.guards = some [] →
      DSs (cxOf CX0 P w K mg base N qual (defScope st) f cdv A fs s hp e).nox (defBody st) T)
    (rd : ∀ ds ω R, S ds ω R → T { nx := fun _ ω' => R .non ω', rt := R } (startD N ds) ω) : FnG P w K mg base CX0 (k + 1) f fd ps (spU K S) := by
  refine FnG.body F sc (fun vs H Q e ⟨h, ds, ω, R, r, _, s, _⟩ => by rw [← r.len]; exact ar ds ω R s) fun cdv A fs s hp vs q e room gd ⟨h, ds, ω, R, r, w, sp, k⟩ => ?_
  refine ⟨_, (b cdv A fs s hp e room gd).nox, h, startD N ds, ω, _, Sl.start r, w, rd ds ω R sp, ?_, k, ?_, ?_⟩
  · exact fun ρ' ω' σ' H' z f' w' _ => k .non ω' .non H' z f' w' .non
  · exact fun _ _ _ _ z => z.elim
  · exact fun _ _ _ _ z => z.elim

/-! ### tests -/
def dTst (Ta : TD) : TTD := fun ρ ω Q => Ta ρ ω fun x ω1 => ∃ b, x = .bl b ∧ Q b ω1
theorem up_tst [Amb] {σ H} {Q : Bool → Hp → Prop} (u : upT K (dTst Ta) σ H Q) : up K Ta σ H fun x H1 => ∃ b, x = .bl b ∧ Q b H1 := by
  obtain ⟨h, ρ, ω, R, sl, w, t, k⟩ := u
  refine ⟨h, ρ, ω, _, sl, w, t, fun x ω1 vx H1 t1 f1 w1 rx => ?_⟩
  obtain ⟨b, rfl, t1⟩ := t1
  cases rx
  exact ⟨b, rfl, k _ _ _ t1 f1 w1⟩
theorem dt_val [Amb] (ha : DE X a Ta) (he : ∀ whole, isTrue a X.env whole = (do let v ← whole; standAt a.pos; holding [v] (truthy v)) := by intro _; rfl) : DT X a (dTst Ta) :=
  PT.weak (pt_val ha he) fun _ _ _ => up_tst
theorem dt_cmp [Amb] {op} {o : DO2} {r : R2} (ho : OpR X (compareOp op) r) (ok : OpD X.K o r) (ha : DE X a Ta) (hb : DE X b Tb) (hm : behindInMarks op b = false := by rfl) : DT X (.Compare a [op] [b] pos) (dTst (dBin o Ta Tb)) :=
  PT.weak (pt_cmpR ho ha hb hm) fun _ _ _ u => up_bin ok (up_tst u)
def dAndT (A B : TTD) : TTD := fun ρ ω Q => A ρ ω fun b ω1 => if b = true then B ρ ω1 Q else Q false ω1
def dOrT (A B : TTD) : TTD := fun ρ ω Q => A ρ ω fun b ω1 => if b = true then Q true ω1 else B ρ ω1 Q
def dNotT (A : TTD) : TTD := fun ρ ω Q => A ρ ω fun b ω1 => Q (!b) ω1
abbrev DW [Amb] (X : Cx) (e : Expr) (T : TTD) : Prop := PW X e (upT X.K T)
theorem PW.weak {X : Cx} {e : Expr} {t u : TT} (p : PW X e t) (w : ∀ σ H Q, u σ H Q → t σ H Q) : PW X e u := ⟨fun wh pins s σ H Q I q => p.run wh pins s σ H Q I (w σ H Q q)⟩
variable {A B : TTD} {rest : List Expr}
theorem dw_and1 [Amb] (ha : DT X a A) : DW X (.BoolOp .And [a] pos) A := pw_and1 ha
theorem dw_or1 [Amb] (ha : DT X a A) : DW X (.BoolOp .Or [a] pos) A := pw_or1 ha
theorem dw_and [Amb] (ha : DT X a A) (hb : DW X (.BoolOp .And (b :: rest) pos) B) : DW X (.BoolOp .And (a :: b :: rest) pos) (dAndT A B) := by
  refine PW.weak (pw_and ha hb) fun σ H Q ⟨h, ρ, ω, R, sl, w, t, k⟩ => ?_
  refine ⟨h, ρ, ω, _, sl, w, t, fun c ω1 H1 t1 f1 w1 => ?_⟩
  cases c with
  | true => exact ⟨h, ρ, ω1, R, sl.keep f1.kp, w1, t1, fun b w2 H2 t2 f2 w3 => k b w2 H2 t2 (f1.trans f2) w3⟩
  | false => exact k _ _ _ t1 f1 w1
theorem dw_or [Amb] (ha : DT X a A) (hb : DW X (.BoolOp .Or (b :: rest) pos) B) : DW X (.BoolOp .Or (a :: b :: rest) pos) (dOrT A B) := by
  refine PW.weak (pw_or ha hb) fun σ H Q ⟨h, ρ, ω, R, sl, w, t, k⟩ => ?_
  refine ⟨h, ρ, ω, _, sl, w, t, fun c ω1 H1 t1 f1 w1 => ?_⟩
  cases c with
  | false => exact ⟨h, ρ, ω1, R, sl.keep f1.kp, w1, t1, fun b w2 H2 t2 f2 w3 => k b w2 H2 t2 (f1.trans f2) w3⟩
  | true => exact k _ _ _ t1 f1 w1
theorem dt_bool [Amb] (h : DW X e A) : DT X e A := h.pt
theorem dt_not [Amb] (ha : DT X a A) : DT X (.UnaryOp .Not a pos) (dNotT A) := by
  refine PT.weak (pt_not ha) fun σ H Q ⟨h, ρ, ω, R, sl, w, t, k⟩ => ?_
  exact ⟨h, ρ, ω, _, sl, w, t, fun c ω1 H1 t1 f1 w1 => k _ _ _ t1 f1 w1⟩
/-- as values -/
def dAndV (Ta Tb : TD) : TD := fun ρ ω Q => Ta ρ ω fun x ω1 => ∃ c, x = .bl c ∧ if c = true then Tb ρ ω1 Q else Q (.bl false) ω1
def dOrV (Ta Tb : TD) : TD := fun ρ ω Q => Ta ρ ω fun x ω1 => ∃ c, x = .bl c ∧ if c = true then Q (.bl true) ω1 else Tb ρ ω1 Q
def dNotV (Ta : TD) : TD := fun ρ ω Q => Ta ρ ω fun x ω1 => ∃ c, x = .bl c ∧ Q (.bl (!c)) ω1
theorem de_one [Amb] {op} (ha : DE X a Ta) : DE X (.BoolOp op [a] pos) Ta := pe_one ha
theorem de_and [Amb] (ha : DE X a Ta) (hb : DE X (.BoolOp .And (b :: rest) pos) Tb) : DE X (.BoolOp .And (a :: b :: rest) pos) (dAndV Ta Tb) := by
  refine PE.weak (pe_and ha hb) fun σ H Q ⟨h, ρ, ω, R, sl, w, t, k⟩ => ?_
  refine ⟨h, ρ, ω, _, sl, w, t, fun x ω1 vx H1 t1 f1 w1 rx => ?_⟩
  obtain ⟨c, rfl, t1⟩ := t1
  cases rx
  refine ⟨c, rfl, ?_⟩
  cases c with
  | true => exact ⟨h, ρ, ω1, R, sl.keep f1.kp, w1, t1, k.go f1⟩
  | false => exact k _ _ _ _ t1 f1 w1 (.bl _)
theorem de_or [Amb] (ha : DE X a Ta) (hb : DE X (.BoolOp .Or (b :: rest) pos) Tb) : DE X (.BoolOp .Or (a :: b :: rest) pos) (dOrV Ta Tb) := by
  refine PE.weak (pe_or ha hb) fun σ H Q ⟨h, ρ, ω, R, sl, w, t, k⟩ => ?_
  refine ⟨h, ρ, ω, _, sl, w, t, fun x ω1 vx H1 t1 f1 w1 rx => ?_⟩
  obtain ⟨c, rfl, t1⟩ := t1
  cases rx
  refine ⟨c, rfl, ?_⟩
  cases c with
  | false => exact ⟨h, ρ, ω1, R, sl.keep f1.kp, w1, t1, k.go f1⟩
  | true => exact k _ _ _ _ t1 f1 w1 (.bl _)
theorem de_not [Amb] (ha : DE X a Ta) : DE X (.UnaryOp .Not a pos) (dNotV Ta) := by
  refine PE.weak (pe_not ha) fun σ H Q ⟨h, ρ, ω, R, sl, w, t, k⟩ => ?_
  refine ⟨h, ρ, ω, _, sl, w, t, fun x ω1 vx H1 t1 f1 w1 rx => ?_⟩
  obtain ⟨c, rfl, t1⟩ := t1
  cases rx
  exact ⟨c, rfl, k _ _ _ _ t1 f1 w1 (.bl _)⟩
def dIf (A : TTD) (Ta Tb : TD) : TD := fun ρ ω Q => A ρ ω fun c ω1 => if c = true then Ta ρ ω1 Q else Tb ρ ω1 Q
theorem de_if [Amb] (hc : DT X c A) (ha : DE X a Ta) (hb : DE X b Tb) : DE X (.IfExp c a b pos) (dIf A Ta Tb) := by
  refine PE.weak (pe_ifExp hc ha hb) fun σ H Q ⟨h, ρ, ω, R, sl, w, t, k⟩ => ?_
  refine ⟨h, ρ, ω, _, sl, w, t, fun c ω1 H1 t1 f1 w1 => ?_⟩
  cases c with
  | true => exact ⟨h, ρ, ω1, R, sl.keep f1.kp, w1, t1, k.go f1⟩
  | false => exact ⟨h, ρ, ω1, R, sl.keep f1.kp, w1, t1, k.go f1⟩

/-! ### statements -/
variable {S T1 T2 : TSD} {st : Stmt} {sts : List Stmt}
def dNext : TSD := fun E ρ ω => E.nx ρ ω
def dSeq (t u : TSD) : TSD := fun E ρ ω => t { E with nx := u E } ρ ω
def dRet (Ta : TD) : TSD := fun E ρ ω => Ta ρ ω E.rt
def dRetN : TSD := fun E _ ω => E.rt .non ω
def dBreak : TSD := fun E ρ ω => E.bk ρ ω
def dCont : TSD := fun E ρ ω => E.ct ρ ω
def dDrop (Ta : TD) : TSD := fun E ρ ω => Ta ρ ω fun _ ω1 => E.nx ρ ω1
def dIfS (A : TTD) (t u : TSD) : TSD := fun E ρ ω => A ρ ω fun c ω1 => if c = true then t E ρ ω1 else u E ρ ω1
def dAsg (Ta : TD) (g : TGD) : TSD := fun E ρ ω => Ta ρ ω fun x ω1 => g x ρ ω1 E.nx
theorem ds_nil [Amb] : DSs X [] dNext := PSs.weak pss_nil fun _ _ _ ⟨_, ρ, ω, _, sl, w, t, k, _⟩ => k ρ ω _ _ t Fr.refl w sl
theorem ds_pass [Amb] : DS X (.Pass pos) dNext := PS.weak ps_pass fun _ _ _ ⟨_, ρ, ω, _, sl, w, t, k, _⟩ => k ρ ω _ _ t Fr.refl w sl
theorem ds_one [Amb] (hs : DS X st T1) : DSs X [st] T1 := pss_one hs
theorem ds_cons [Amb] (hs : DS X st T1) (hr : DSs X sts T2) : DSs X (st :: sts) (dSeq T1 T2) := by
  refine PSs.weak (pss_cons hs hr) fun E σ H ⟨h, ρ, ω, e, sl, w, t, k1, k2, k3, k4⟩ => ?_
  refine ⟨h, ρ, ω, _, sl, w, t, fun ρ' ω' σ' H' t1 f1 w1 sl1 => ?_, k2, k3, k4⟩
  exact ⟨h, ρ', ω', e, sl1, w1, t1, k1.go f1, k2.go f1, k3.go f1, k4.go f1⟩
theorem ds_ret [Amb] (ha : DE X a Ta) : DS X (.Return (some a) pos) (dRet Ta) :=
  PS.weak (ps_ret ha) fun E σ H ⟨h, ρ, ω, e, sl, w, t, k1, k2, k3, k4⟩ => ⟨h, ρ, ω, _, sl, w, t, k2⟩
theorem ds_expr [Amb] (ha : DE X a Ta) (hs : swapsWith a none pos.line X.env = pure false := by rfl) : DS X (.Expr a pos) (dDrop Ta) :=
  PS.weak (ps_expr ha hs) fun E σ H ⟨h, ρ, ω, e, sl, w, t, k1, k2, k3, k4⟩ => ⟨h, ρ, ω, _, sl, w, t, fun x ω1 v H1 t1 f1 w1 _ => k1 ρ ω1 σ H1 t1 f1 w1 (sl.keep f1.kp)⟩
theorem ds_if [Amb] {xs ys : List Stmt} (hc : DT X c A) (ha : DSs X xs T1) (hb : DSs X ys T2) : DS X (.If c xs ys pos) (dIfS A T1 T2) := by
  refine PS.weak (ps_if hc ha hb) fun E σ H ⟨h, ρ, ω, e, sl, w, t, k1, k2, k3, k4⟩ => ?_
  refine ⟨h, ρ, ω, _, sl, w, t, fun c ω1 H1 t1 f1 w1 => ?_⟩
  cases c with
  | true => exact ⟨h, ρ, ω1, e, sl.keep f1.kp, w1, t1, k1.go f1, k2.go f1, k3.go f1, k4.go f1⟩
  | false => exact ⟨h, ρ, ω1, e, sl.keep f1.kp, w1, t1, k1.go f1, k2.go f1, k3.go f1, k4.go f1⟩
variable {g : TGD} {tg : Expr}
theorem PG.weak {X : Cx} {e : Expr} {t u : TG} (p : PG X e t) (w : ∀ v σ H Q, u v σ H Q → t v σ H Q) : PG X e u := ⟨fun pins s σ H v vv Q I r q => p.run pins s σ H v vv Q I r (w v σ H Q q)⟩
theorem ds_asg [Amb] (ha : DE X a Ta) (hg : DG X tg g) (hs : swapsWithSole [tg] a pos.line X.env = pure false := by rfl) (hw : swappedStores [tg] a X.env = pure none := by rfl)
    (h1 : (assignEach [tg] X.env).map (·.2) = [assign tg X.env] := by rfl) : DS X (.Assign [tg] a pos) (dAsg Ta g) :=
  PS.weak (ps_asg ha hg hs hw h1) fun E σ H ⟨h, ρ, ω, e, sl, w, t, k1, k2, k3, k4⟩ => ⟨h, ρ, ω, _, sl, w, t, fun x ω1 v H1 t1 f1 w1 rx => ⟨h, ρ, ω1, x, _, sl.keep f1.kp, w1, rx, t1, k1.go f1⟩⟩
def dgName (i : Nat) : TGD := fun x ρ ω Q => Q (ρ.set i (some x)) ω
theorem dg_name [Amb] {i : Nat} {x : Str} (hN : X.N.Nodup) (hi : X.N[i]? = some x) (hx : L2.Loc X.env.scope x) (hf : X.fn x = true ∨ X.env.scope.names.lookup x = some .local := by first | exact .inl rfl | exact .inr rfl | assumption) : DG X (.Name x pos) (dgName i) :=
  PG.weak (pg_name hN hi hx hf) fun v σ H Q ⟨h, ρ, ω, d, R, sl, w, r, t, k⟩ => k _ _ _ _ t Fr.refl w (sl.set r i)
theorem ds_set [Amb] {i : Nat} {x : Str} {p2 : Pos} (hN : X.N.Nodup) (hi : X.N[i]? = some x) (hx : L2.Loc X.env.scope x) (ha : DE X a Ta) (hs : swapsWith a (some (.Name x p2)) pos.line X.env = pure false := by rfl) (hf : X.fn x = true ∨ X.env.scope.names.lookup x = some .local := by first | exact .inl rfl | exact .inr rfl | assumption) :
    DS X (.Assign [.Name x p2] a pos) (dAsg Ta (dgName i)) :=
  PS.weak (ps_set hN hi hx ha hs hf) fun E σ H ⟨h, ρ, ω, e, sl, w, t, k1, k2, k3, k4⟩ => ⟨h, ρ, ω, _, sl, w, t, fun x ω1 v H1 t1 f1 w1 rx => k1 _ _ _ _ t1 f1 w1 ((sl.keep f1.kp).set rx i)⟩
abbrev TGsD := List D → Rho → Om → (Rho → Om → Prop) → Prop
def upGs [Amb] (K : PySem.W.Frag) (T : TGsD) : TGs := fun vs σ H Q => ∃ h ρ ω ds R, Sl K (fre ω h) H σ ρ ∧ Wd K h H ω ∧ RpAll K (fre ω h) H ds vs ∧ T ds ρ ω R ∧ CntS K h H ω R Q
abbrev DGs [Amb] (X : Cx) (es : List Expr) (T : TGsD) : Prop := PGs X es (upGs X.K T)
theorem PGs.weak {X : Cx} {e : List Expr} {t u : TGs} (p : PGs X e t) (w : ∀ v σ H Q, u v σ H Q → t v σ H Q) : PGs X e u := ⟨fun pins s σ H v vv Q I r q => p.run pins s σ H v vv Q I r (w v σ H Q q)⟩
def dgNil : TGsD := fun ds ρ ω Q => ds = [] ∧ Q ρ ω
def dgCons (t : TGD) (u : TGsD) : TGsD := fun ds ρ ω Q => ∃ x xs, ds = x :: xs ∧ t x ρ ω fun ρ' ω' => u xs ρ' ω' Q
theorem dgs_nil [Amb] : DGs X [] dgNil := PGs.weak pgs_nil fun vs σ H Q ⟨h, ρ, ω, ds, R, sl, w, r, ⟨e, t⟩, k⟩ => by
  subst e
  cases r
  exact ⟨rfl, k _ _ _ _ t Fr.refl w sl⟩
theorem dgs_cons [Amb] {us : TGsD} (h1 : DG X a g) (h2 : DGs X es us) (hs : (assignEach (a :: es) X.env).map (·.2) = assign a X.env :: (assignEach es X.env).map (·.2) := by rfl) : DGs X (a :: es) (dgCons g us) :=
  PGs.weak (pgs_cons h1 h2 hs) fun vs σ H Q ⟨h, ρ, ω, ds, R, sl, w, r, ⟨x, xs, e, t⟩, k⟩ => by
    subst e
    cases r with
    | cons r1 r2 => exact ⟨_, _, rfl, h, ρ, ω, x, _, sl, w, r1, t, fun ρ' ω' σ' H' t1 f1 w1 sl1 => ⟨h, ρ', ω', xs, R, sl1, w1, r2.keep f1.kp, t1, k.go f1⟩⟩
def dgTup (n : Nat) (t : TGsD) : TGD := fun x ρ ω Q => ∃ xs, x = .tup xs ∧ xs.length = n ∧ t xs ρ ω Q
theorem dg_tup [Amb] {n kk : Nat} {t : TGsD} (hc : X.calm = true) (h : DGs X es t) (hn : (assignEach es X.env).length = n := by rfl) (hst : (assignEach es X.env).findIdx? (·.1) = none := by rfl) : DG X (.Tuple es kk pos) (dgTup n t) :=
  PG.weak (pg_tup hc h hn hst) fun v σ H Q ⟨h, ρ, ω, d, R, sl, w, r, ⟨xs, e, l, t⟩, k⟩ => by
    subst e
    cases r with
    | tup s ra => exact ⟨_, _, rfl, s.sq, by rw [← ra.len]; exact l, h, ρ, ω, xs, R, sl, w, ra, t, k⟩
def dPar (i j : Nat) (T : TAD) : TSD := fun E ρ ω => T ρ ω fun xs ω1 => ∃ x y, xs = [x, y] ∧ E.nx ((ρ.set i (some x)).set j (some y)) ω1
theorem ds_par [Amb] {i j : Nat} {x y : Str} {px py pt : Pos} {kt k2 pt2} (hc : X.calm = true) (hN : X.N.Nodup) (hi : X.N[i]? = some x) (hj : X.N[j]? = some y) (hij : i ≠ j)
    (hx : X.env.scope.names.lookup x = some .local) (hy : X.env.scope.names.lookup y = some .local) (ha : DA X [a, b] T)
    (hw : swappedStores [.Tuple [.Name x px, .Name y py] kt pt] (.Tuple [a, b] k2 pt2) X.env = pure (some [x, y]))
    (hs : swapsWithSole [.Tuple [.Name x px, .Name y py] kt pt] (.Tuple [a, b] k2 pt2) pos.line X.env = pure false := by rfl) :
    DS X (.Assign [.Tuple [.Name x px, .Name y py] kt pt] (.Tuple [a, b] k2 pt2) pos) (dPar i j T) := by
  refine PS.weak (ps_par hc hN hi hj hij hx hy ha hw hs) fun E σ H ⟨h, ρ, ω, e, sl, w, t, k1, k2, k3, k4⟩ => ?_
  refine ⟨h, ρ, ω, _, sl, w, t, fun xs ω1 vs H1 t1 f1 w1 rs => ?_⟩
  obtain ⟨x, y, rfl, t1⟩ := t1
  cases rs with
  | cons r1 rs =>
    cases rs with
    | cons r2 rs =>
      cases rs
      exact ⟨_, _, rfl, k1 _ _ _ _ t1 f1 w1 (((sl.keep f1.kp).set r1 i).set r2 j)⟩

/-! ### walks -/
def ItOk [Amb] (K : PySem.W.Frag) (h : Fp) (J : It) (xs : List D) (P : Om → Prop) (H1 : Hp) (ω1 : Om) : Prop := ∀ h2 i H ω, P ω → Kp H1 (fre ω1 h) H (fre ω h2) → Wd K h2 H ω →
  (i = xs.length → J.stop i H) ∧ ∀ d, xs[i]? = some d → J.go i H ∧ ∀ x H', J.yld i H x H' → Fr H ω H' ω ∧ Wd K h2 H' ω ∧ Rp K (fre ω h2) H' d x
abbrev TID := Rho → Om → (List D → (Om → Prop) → Om → Prop) → Prop
def upI [Amb] (K : PySem.W.Frag) (T : TID) : TI := fun σ H Q => ∃ h ρ ω R, Sl K (fre ω h) H σ ρ ∧ Wd K h H ω ∧ T ρ ω R ∧ ∀ xs P ω' J H', R xs P ω' → Fr H ω H' ω' → Wd K h H' ω' → ItOk K h J xs P H' ω' → Q J H'
abbrev DI [Amb] (X : Cx) (tg e : Expr) (T : TID) : Prop := PI X tg e (upI X.K T)
theorem PI.weak {X : Cx} {tg e : Expr} {t u : TI} (p : PI X tg e t) (w : ∀ σ H Q, u σ H Q → t σ H Q) : PI X tg e u := ⟨fun pins s σ H Q I q => p.run pins s σ H Q I (w σ H Q q)⟩
def dFor (Ti : TID) (g : TGD) (Tb : TSD) : TSD := fun E ρ ω => Ti ρ ω fun xs P ω1 => ∃ I : Nat → Rho → Om → Prop, I 0 ρ ω1 ∧ (∀ i ρ ω, I i ρ ω → P ω) ∧
  (∀ i d ρ ω, xs[i]? = some d → I i ρ ω → g d ρ ω fun ρ2 ω2 => Tb { E with nx := I (i + 1), ct := I (i + 1), bk := E.nx } ρ2 ω2) ∧ ∀ ρ ω, I xs.length ρ ω → E.nx ρ ω
variable {Ti : TID} {Tbd : TSD} {iter : Expr} {body : List Stmt}
theorem ds_for [Amb] (hp : PassesOwn (model X.prog X.w) X.A X.env X.xe) (hc : X.calm = true) (hi : DI X tg iter Ti) (hg : DG X tg g) (hb : DSs X body Tbd) (hs : ∀ x, foldedSetIterable iter X.env x = pure x := by intro _; rfl) : DS X (.For tg iter body [] pos) (dFor Ti g Tbd) := by
  refine PS.weak (ps_for hp hc hi hg hb hs) fun E σ H ⟨h, ρ, ω, e, sl, w, t, k1, k2, k3, k4⟩ => ?_
  refine ⟨h, ρ, ω, _, sl, w, t, fun xs P ω1 J H1 t1 f1 w1 it => ?_⟩
  obtain ⟨I, i0, ip, step, fin⟩ := t1
  refine ⟨fun i m σ' H' => m = xs.length - i ∧ i ≤ xs.length ∧ ∃ ρ' ω', I i ρ' ω' ∧ Fr H1 ω1 H' ω' ∧ Wd X.K h H' ω' ∧ Sl X.K (fre ω' h) H' σ' ρ', ⟨_, rfl, Nat.zero_le _, ρ, ω1, i0, Fr.refl, w1, sl.keep f1.kp⟩, ?_⟩
  rintro i m σ' H' ⟨rfl, hi, ρ', ω', ii, f2, w2, sl2⟩
  obtain ⟨st, go⟩ := it h i H' ω' (ip _ _ _ ii) f2.kp w2
  by_cases lt : i < xs.length
  · obtain ⟨g1, y1⟩ := go xs[i] (by simp [lt])
    refine .inr ⟨g1, fun σ3 H3 => ∃ ρ3 ω3, I (i + 1) ρ3 ω3 ∧ Fr H1 ω1 H3 ω3 ∧ Wd X.K h H3 ω3 ∧ Sl X.K (fre ω3 h) H3 σ3 ρ3, fun σ3 H3 ⟨ρ3, ω3, z⟩ => ⟨_, by omega, rfl, lt, ρ3, ω3, z⟩, fun x H3 y => ?_⟩
    obtain ⟨f3, w3, r3⟩ := y1 x H3 y
    refine ⟨h, ρ', ω', xs[i], _, sl2.keep f3.kp, w3, r3, step i xs[i] ρ' ω' (by simp [lt]) ii, fun ρ4 ω4 σ4 H4 t4 f4 w4 sl4 => ?_⟩
    have fa := f2.trans (f3.trans f4)
    refine ⟨h, ρ4, ω4, _, sl4, w4, t4, fun ρ5 ω5 σ5 H5 t5 f5 w5 sl5 => ⟨ρ5, ω5, t5, fa.trans f5, w5, sl5⟩, k2.go (f1.trans fa), k1.go (f1.trans fa), fun ρ5 ω5 σ5 H5 t5 f5 w5 sl5 => ⟨ρ5, ω5, t5, fa.trans f5, w5, sl5⟩⟩
  · have e : i = xs.length := by omega
    subst e
    exact .inl ⟨st rfl, k1 ρ' ω' σ' H' (fin ρ' ω' ii) (f1.trans f2) w2 sl2⟩
def dWhile (A : TTD) (Tb : TSD) : TSD := fun E ρ ω => ∃ I : Nat → Rho → Om → Prop, (∃ m, I m ρ ω) ∧
  ∀ m ρ ω, I m ρ ω → A ρ ω fun b ω1 => if b = true then Tb { E with nx := fun ρ2 ω2 => ∃ m2, m2 < m ∧ I m2 ρ2 ω2, ct := fun ρ2 ω2 => ∃ m2, m2 < m ∧ I m2 ρ2 ω2, bk := E.nx } ρ ω1 else E.nx ρ ω1
end
end DL

/-! DD: walks over data, comprehensions. -/
namespace DL
open PySem PySem.Spec L2
section
variable {K : PySem.W.Frag} {X : Cx} {h : Fp} {H H' : Hp} {ω ω' : Om} {a b c tg : Expr} {pos : Pos} {Ta Tb Tc : TD}

theorem itok_list [Amb] {a : Addr} {vs : List V} {xs : List D} {P : Om → Prop} (s : SL K (fre ω h) H a vs) (r : RpAll K (fre ω h) H xs vs) : ItOk K h (Itl K a) xs P H ω := by
  intro h2 i H2 ω2 _ f w
  have s2 := (s.keep f).sq
  refine ⟨fun l => ⟨vs, s2, by rw [← r.len]; exact Nat.le_of_eq l.symm⟩, fun d e => ?_⟩
  obtain ⟨v, ev, rv⟩ := r.get e
  refine ⟨⟨vs, v, s2, ev⟩, fun x H3 ⟨e1, e2⟩ => ?_⟩
  subst e1
  have e3 := e2 vs s2
  rw [ev] at e3
  cases e3
  exact ⟨Fr.refl, w, rv.keep f⟩
theorem itok_own [Amb] {a : Addr} {xs : List D} : ItOk K h (Itl K a) xs (fun ω => ω a = some (.lst xs)) H ω := by
  intro h2 i H2 ω2 p f w
  obtain ⟨vs, e0, r⟩ := w.cell a _ p
  have s2 : SqL K H2 a vs := .inl (.inl e0)
  refine ⟨fun l => ⟨vs, s2, by rw [← r.len]; exact Nat.le_of_eq l.symm⟩, fun d e => ?_⟩
  obtain ⟨v, ev, rv⟩ := r.get e
  refine ⟨⟨vs, v, s2, ev⟩, fun x H3 ⟨e1, e2⟩ => ?_⟩
  subst e1
  have e3 := e2 vs s2
  rw [ev] at e3
  cases e3
  exact ⟨Fr.refl, w, rv⟩
theorem itok_tup [Amb] {a : Addr} {vs : List V} {xs : List D} {P : Om → Prop} (s : ST K (fre ω h) H a vs) (r : RpAll K (fre ω h) H xs vs) : ItOk K h (Itt K a) xs P H ω := by
  intro h2 i H2 ω2 _ f w
  have s2 := (s.keep f).sq
  refine ⟨fun l => ⟨vs, s2, by rw [← r.len]; exact Nat.le_of_eq l.symm⟩, fun d e => ?_⟩
  obtain ⟨v, ev, rv⟩ := r.get e
  refine ⟨⟨vs, v, s2, ev⟩, fun x H3 ⟨e1, e2⟩ => ?_⟩
  subst e1
  have e3 := e2 vs s2
  rw [ev] at e3
  cases e3
  exact ⟨Fr.refl, w, rv.keep f⟩
theorem itok_tpn [Amb] {a : Addr} {vs : List V} {xs : List D} {P : Om → Prop} (s : SN (fre ω h) H a vs) (r : RpAll K (fre ω h) H xs vs) : ItOk K h (Itt K a) xs P H ω := by
  intro h2 i H2 ω2 _ f w
  have s2 : SqT K H2 a vs := (s.keep f).sq
  refine ⟨fun l => ⟨vs, s2, by rw [← r.len]; exact Nat.le_of_eq l.symm⟩, fun d e => ?_⟩
  obtain ⟨v, ev, rv⟩ := r.get e
  refine ⟨⟨vs, v, s2, ev⟩, fun x H3 ⟨e1, e2⟩ => ?_⟩
  subst e1
  have e3 := e2 vs s2
  rw [ev] at e3
  cases e3
  exact ⟨Fr.refl, w, rv.keep f⟩
def rngD (lo : Int) (n : Nat) : List D := (List.range n).map fun k => D.int (lo + (k : Nat))
theorem rngD_get {lo : Int} {n i : Nat} (hi : i < n) : (rngD lo n)[i]? = some (.int (lo + (i : Nat))) := by
  unfold rngD
  rw [List.getElem?_map, List.getElem?_range hi]
  rfl
theorem rngD_len {lo : Int} {n : Nat} : (rngD lo n).length = n := by simp [rngD]
theorem itok_rng [Amb] {lo : Int} {n : Nat} {P : Om → Prop} : ItOk K h (Itr lo n) (rngD lo n) P H ω := by
  intro h2 i H2 ω2 _ f w
  refine ⟨fun l => by rw [rngD_len] at l; exact Nat.le_of_eq l.symm, fun d e => ?_⟩
  by_cases hi : i < n
  · rw [rngD_get hi] at e
    cases e
    refine ⟨hi, fun x H3 ⟨e1, e2⟩ => ?_⟩
    subst e1 e2
    exact ⟨Fr.refl, w, .int _⟩
  · rw [List.getElem?_eq_none (by rw [rngD_len]; omega)] at e
    cases e
/-- a list or a tuple, whichever comes -/
def iSeq (K : PySem.W.Frag) (tl : TE) : TI := fun σ H R => tl σ H fun x H1 => ∃ a, x = .ref a ∧ ((∃ xs, SqL K H1 a xs ∧ R (Itl K a) H1) ∨ ∃ xs, SqT K H1 a xs ∧ R (Itt K a) H1)
theorem pi_seq {l : Expr} {tl : TE} (hl : PE X l tl) : PI X tg l (iSeq X.K tl) := by
  constructor
  intro pins s σ H R I hh
  refine thn (hl.run pins s σ H _ I hh) fun v t1 ⟨x, H1, I1, r1, q1⟩ => ?_
  obtain ⟨a, rfl, q⟩ := q1
  cases r1
  have new : ∀ b, b ∈ [t1.heap.objs.size] → FpOk X pins H1 b := fun b hb => by
    obtain rfl : b = t1.heap.objs.size := by simpa using hb
    exact I1.fpOk (Nat.le_refl _) (I1.hok.fresh (Nat.le_refl _))
  rcases q with ⟨xs, hq, q⟩ | ⟨xs, hq, q⟩
  · obtain ⟨its, rv, p, hz⟩ := I1.list hq
    refine wpAny_pyIter_list p.isList ?_
    exact ⟨_, _, _, _, H1, rfl, I1.kept (t' := t1.toks) fun b o e => Heap.get?_push_of_some _ e, turn_list a _, ⟨_, Heap.get?_push_size _ rfl, rfl, rfl⟩, new, q⟩
  · obtain ⟨its, rv, p, hz⟩ := I1.tuple hq
    refine wpAny_pyIter_tuple (show t1.heap.IsTuple a its.toArray from p) ?_
    exact ⟨_, _, _, _, H1, rfl, I1.kept (t' := t1.toks) fun b o e => Heap.get?_push_of_some _ e, turn_tuple a _, ⟨_, Heap.get?_push_size _ rfl, rfl, rfl⟩, new, q⟩
/-- the items of a sequence -/
def seqD : D → Option (List D)
  | .lst xs => some xs
  | .tup xs => some xs
  | .tpn xs => some xs
  | _ => none
def dItems (Ta : TD) : TID := fun ρ ω Q => Ta ρ ω fun x ω1 => (∃ xs, seqD x = some xs ∧ Q xs (fun _ => True) ω1) ∨ ∃ p xs, x = .raw (.ref p) ∧ ω1 p = some (.lst xs) ∧ Q xs (fun ω => ω p = some (.lst xs)) ω1
theorem di_seq [Amb] (ha : DE X a Ta) : DI X tg a (dItems Ta) := by
  refine PI.weak (pi_seq ha) fun σ H Q ⟨h, ρ, ω, R, sl, w, t, k⟩ => ?_
  refine ⟨h, ρ, ω, _, sl, w, t, fun x ω1 v H1 t1 f1 w1 r => ?_⟩
  rcases t1 with ⟨xs, e, q⟩ | ⟨p, xs, e, c, q⟩
  · cases r with
    | lst s ra =>
      cases e
      exact ⟨_, rfl, .inl ⟨_, s.sq, k _ _ _ _ _ q f1 w1 (itok_list s ra)⟩⟩
    | tup s ra =>
      cases e
      exact ⟨_, rfl, .inr ⟨_, s.sq, k _ _ _ _ _ q f1 w1 (itok_tup s ra)⟩⟩
    | tpn s ra =>
      cases e
      exact ⟨_, rfl, .inr ⟨_, s.sq, k _ _ _ _ _ q f1 w1 (itok_tpn s ra)⟩⟩
    | _ => cases e
  · subst e
    cases r
    obtain ⟨vs, e0, _⟩ := w1.cell p _ c
    exact ⟨_, rfl, .inl ⟨vs, .inl (.inl e0), k _ _ _ _ _ q f1 w1 itok_own⟩⟩
variable {T : TAD} {p : Pos}
def dRng1 (T : TAD) : TID := fun ρ ω Q => T ρ ω fun xs ω1 => ∃ n : Int, xs = [.int n] ∧ -(2 ^ 62) ≤ n ∧ n < 2 ^ 62 ∧ Q (rngD 0 n.toNat) (fun _ => True) ω1
def dRng2 (T : TAD) : TID := fun ρ ω Q => T ρ ω fun xs ω1 => ∃ m n : Int, xs = [.int m, .int n] ∧ (-(2 ^ 62) ≤ m ∧ m < 2 ^ 62 ∧ -(2 ^ 62) ≤ n ∧ n < 2 ^ 62) ∧ Q (rngD m (n - m).toNat) (fun _ => True) ω1
theorem di_rng1 [Amb] (hg : Gl X "range") (hm : X.mg "range" = none) (ha : DA X [a] T) (hs : starEach [a] X.env = [(false, eval a X.env)] := by rfl) : DI X tg (.Call (.Name "range" p) [a] [] pos) (dRng1 T) := by
  refine PI.weak (pi_range1 hg hm ha hs) fun σ H Q ⟨h, ρ, ω, R, sl, w, t, k⟩ => ?_
  refine ⟨h, ρ, ω, _, sl, w, t, fun xs ω1 v H1 t1 f1 w1 r => ?_⟩
  obtain ⟨n, rfl, l1, l2, q⟩ := t1
  cases r with
  | cons r1 r2 =>
    cases r1
    cases r2
    exact ⟨n, rfl, l1, l2, k _ _ _ _ _ q f1 w1 itok_rng⟩

/-! ### comprehensions -/
theorem kp_hid {p : Addr} (e : H p = none) (o : HO) : Kp H (fre ω h) (upd H p o) (fre ω (hid h p)) := fun b u x y => ⟨by rw [upd_ne (ne_of_none y e)]; exact y, x.1, x.2, ne_of_none y e⟩
theorem kp_unhid {p : Addr} : Kp H (fre ω (hid h p)) H (fre ω h) := fun b u x y => ⟨y, x.1, x.2.1⟩
theorem kp_app {p : Addr} {o : HO} : Kp H (fre ω (hid h p)) (upd H p o) (fre ω (hid h p)) := fun b u x y => ⟨by rw [upd_ne x.2.2]; exact y, x⟩
theorem Wd.hide [Amb] (w : Wd K h H ω) {p : Addr} (e : H p = none) (o : HO) (ho : ∀ vs, o ≠ .tup vs) : Wd K (hid h p) (upd H p o) ω where
  amb := Amb.hide (Amb.mono w.amb (Fr.new e))
  cell a c x := by
    have n : a ≠ p := fun z => by
      have y := w.fresh e
      rw [← z, x] at y
      cases y
    exact (w.cell a c x).keep (upd_ne n) (kp_hid e o)
  open_ b x := by
    by_cases hb : b = p
    · subst hb; rw [upd_same] at x; cases x
    · rw [upd_ne hb] at x; exact ⟨w.open_ b x, hb⟩
  tup_ b vs m x := by
    by_cases hb : b = p
    · subst hb; rw [upd_same] at x; cases x; exact absurd rfl (ho vs)
    · rw [upd_ne hb] at x; exact ⟨w.tup_ b vs m x, hb⟩
theorem Wd.app [Amb] {p : Addr} {o : HO} (w : Wd K (hid h p) H ω) (nw : Amb.N p) (n : ω p = none) (ho : ∀ vs, o ≠ .tup vs) : Wd K (hid h p) (upd H p o) ω where
  amb := Amb.put nw w.amb
  cell a c x := by
    have n : a ≠ p := fun z => by rw [z, n] at x; cases x
    exact (w.cell a c x).keep (upd_ne n) kp_app
  open_ b x := by
    by_cases hb : b = p
    · subst hb; rw [upd_same] at x; cases x
    · rw [upd_ne hb] at x; exact w.open_ b x
  tup_ b vs m x := by
    by_cases hb : b = p
    · subst hb; rw [upd_same] at x; cases x; exact absurd rfl (ho vs)
    · rw [upd_ne hb] at x; exact w.tup_ b vs m x
theorem Wd.unhide [Amb] {p : Addr} (w : Wd K (hid h p) H ω) (nw : Amb.N p) : Wd K h H ω := ⟨fun a c x => (w.cell a c x).keep rfl kp_unhid, fun b x => (w.open_ b x).1, fun b vs n x => (w.tup_ b vs n x).1, Amb.show_ nw w.amb⟩

/-- a comprehension's own names: g stores the item in slots of vs alone -/
structure GOk [Amb] (K : PySem.W.Frag) (g : TG) (gd : TGD) (vs : List Nat) : Prop where
  run : ∀ h σ ρ ω d v H R Q, Sl K (fre ω h) H (wipe σ vs) (wipeD ρ vs) → Wd K h H ω → Rp K (fre ω h) H d v → gd d (wipeD ρ vs) ω R →
    (∀ σ2 ρ2, wipe σ2 vs = wipe σ vs → R ρ2 ω → Sl K (fre ω h) H σ2 ρ2 → Q σ2 H) → g v (wipe σ vs) H Q
def wiped (vs : List Nat) : Bool := true
theorem wipe_set {σ : L2.St} {i : Nat} {x : Option V} : ∀ {vs : List Nat}, i ∈ vs → wipe (σ.set i x) vs = wipe σ vs
  | [], hm => nomatch hm
  | j :: vs, hm => by
    unfold wipe
    by_cases e : i ∈ vs
    · rw [wipe_set e]
    · have ej : i = j := by
        rcases List.mem_cons.mp hm with z | z
        · exact z
        · exact absurd z e
      subst ej
      have aux : ∀ (vs : List Nat) (σ : L2.St), i ∉ vs → (wipe (σ.set i x) vs) = (wipe σ vs).set i x := by
        intro vs
        induction vs with
        | nil => intro σ _; rfl
        | cons k vs ih =>
          intro σ hn
          have hk : k ≠ i := fun z => hn (by simp [z])
          unfold wipe
          rw [ih σ (fun z => hn (List.mem_cons_of_mem _ z)), List.set_comm _ _ (Ne.symm hk)]
      rw [aux vs σ e, List.set_set]
theorem wipe_wipe (σ : L2.St) : ∀ (vs ws : List Nat), (∀ i ∈ vs, i ∈ ws) → wipe (wipe σ vs) ws = wipe σ ws
  | [], _, _ => rfl
  | v :: vs, ws, hm => by
    show wipe ((wipe σ vs).set v none) ws = wipe σ ws
    rw [wipe_set (hm v (by simp)), wipe_wipe σ vs ws fun i hi => hm i (by simp [hi])]
theorem gok_name [Amb] {i : Nat} {vs : List Nat} (hi : i ∈ vs) : GOk K (gName i) (dgName i) vs := ⟨fun h σ ρ ω d v H R Q sl w r t k => k _ _ (by
  rw [wipe_set hi, wipe_wipe σ vs vs fun _ z => z]) t (sl.set r i)⟩
abbrev DTs [Amb] (X : Cx) (es : List Expr) (T : TTD) : Prop := PTs X es (upT X.K T)
def dYes : TTD := fun _ ω Q => Q true ω
theorem PTs.weak {X : Cx} {e : List Expr} {t u : TT} (p : PTs X e t) (w : ∀ σ H Q, u σ H Q → t σ H Q) : PTs X e u := ⟨fun pins s σ H Q I q => p.run pins s σ H Q I (w σ H Q q)⟩
theorem dts_nil [Amb] : DTs X [] dYes := PTs.weak pts_nil fun σ H Q ⟨h, ρ, ω, R, sl, w, t, k⟩ => k true ω H t Fr.refl w
theorem dts_one [Amb] {A : TTD} (ha : DT X a A) : DTs X [a] A := pts_one ha
def lcBody (gd : TGD) (Tt : TTD) (Te : TD) (vs : List Nat) (ρ : Rho) (xs : List D) (P : Om → Prop) (ω1 : Om) (F : List D → Om → Prop) : Prop :=
  ∃ I : Nat → List D → Om → Prop, I 0 [] ω1 ∧ (∀ i acc ω, I i acc ω → P ω) ∧
    (∀ i d acc ω, xs[i]? = some d → I i acc ω → gd d (wipeD ρ vs) ω fun ρ2 ω2 => Tt ρ2 ω2 fun b ω3 => if b = true then Te ρ2 ω3 fun y ω4 => acc.length < sizeLine ∧ I (i + 1) (acc ++ [y]) ω4 else I (i + 1) acc ω3) ∧
    ∀ acc ω, I xs.length acc ω → F acc ω
def dLc (Ti : TID) (gd : TGD) (Tt : TTD) (Te : TD) (vs : List Nat) : TD := fun ρ ω Q => Ti ρ ω fun xs P ω1 => lcBody gd Tt Te vs ρ xs P ω1 fun acc ω2 => Q (.lst acc) ω2
def dLcO (Ti : TID) (gd : TGD) (Tt : TTD) (Te : TD) (vs : List Nat) : TD := fun ρ ω Q => Ti ρ ω fun xs P ω1 => lcBody gd Tt Te vs ρ xs P ω1 fun acc ω2 => ∀ p, ω2 p = none → Q (.raw (.ref p)) (oset ω2 p (.lst acc))
variable {Ti : TID} {g : TG} {gd : TGD} {Tt : TTD} {Te : TD} {vs : List Nat}
theorem Kp.trans {f1 f2 f3 : Fp} {H1 H2 H3 : Hp} (a : Kp H1 f1 H2 f2) (b : Kp H2 f2 H3 f3) : Kp H1 f1 H3 f3 := fun c o x y => b c o (a c o x y).2 (a c o x y).1
/-- where a comprehension stands -/
structure LcSt [Amb] (K : PySem.W.Frag) (h : Fp) (H : Hp) (ω : Om) (D : Addr) (acc : List DL.D) (ω' : Om) (H' : Hp) : Prop where
  kp : Kp H (fre ω h) H' (fre ω' (hid h D))
  fr : Fr H ω H' ω'
  wd : Wd K (hid h D) H' ω'
  no : ω' D = none
  nw : Amb.N D
  ls : ∃ us, H' D = some (.lst us) ∧ RpAll K (fre ω' (hid h D)) H' acc us
theorem lc_upd [Amb] {σ : L2.St} {Q : VK} {F : List D → Om → Prop} {ρ : Rho} {xs : List D} {P : Om → Prop} {J : It} (gk : GOk K g gd vs) (sl : Sl K (fre ω h) H σ ρ) (w : Wd K h H ω) (it : ItOk K h J xs P H ω) (b : lcBody gd Tt Te vs ρ xs P ω F)
    (fin : ∀ D acc ω' H', H D = none → F acc ω' → LcSt K h H ω D acc ω' H' → Q (.ref D) H') :
    ∀ D, H D = none → ∃ W : Nat → Nat → Hp → Prop, (∃ m, W 0 m (upd H D (.lst []))) ∧ ∀ i m H, W i m H →
      (J.stop i H ∧ Q (.ref D) H) ∨ (J.go i H ∧ ∃ Nx : Hp → Prop, (∀ H', Nx H' → ∃ m', m' < m ∧ W (i + 1) m' H') ∧ ∀ x H', J.yld i H x H' → g x (wipe σ vs) H' fun σ2 H2 => wipe σ2 vs = wipe σ vs ∧ upT K Tt σ2 H2 fun b H3 =>
        if b = true then up K Te σ2 H3 fun y H4 => ∃ acc, H4 D = some (.lst acc) ∧ acc.length < sizeLine ∧ Nx (upd H4 D (.lst (acc ++ [y]))) else Nx H3) := by
  intro D hD
  obtain ⟨I, i0, ip, step, last⟩ := b
  refine ⟨fun i m H' => m = xs.length - i ∧ i ≤ xs.length ∧ ∃ acc ω', I i acc ω' ∧ LcSt K h H ω D acc ω' H', ⟨_, rfl, Nat.zero_le _, [], ω, i0, ?_⟩, ?_⟩
  · exact ⟨kp_hid hD _, Fr.new hD, w.hide hD _ (fun _ z => nomatch z), w.fresh hD, Amb.new w.amb hD (w.open_ D hD), [], upd_same, .nil⟩
  rintro i m H1 ⟨rfl, hi, acc, ω1, ii, L⟩
  obtain ⟨st, go⟩ := it (hid h D) i H1 ω1 (ip _ _ _ ii) L.kp L.wd
  by_cases lt : i < xs.length
  · obtain ⟨g1, y1⟩ := go xs[i] (by simp [lt])
    refine .inr ⟨g1, fun H2 => ∃ acc ω', I (i + 1) acc ω' ∧ LcSt K h H ω D acc ω' H2, fun H2 ⟨acc2, ω2, z1, z2⟩ => ⟨_, by omega, rfl, lt, acc2, ω2, z1, z2⟩, fun x H3 y => ?_⟩
    obtain ⟨f3, w3, r3⟩ := y1 x H3 y
    obtain ⟨us, e1, ra⟩ := L.ls
    have k3 : Kp H (fre ω h) H3 (fre ω1 (hid h D)) := L.kp.trans f3.kp
    have sl3 : Sl K (fre ω1 (hid h D)) H3 σ ρ := sl.keep k3
    refine gk.run (hid h D) σ ρ ω1 xs[i] x H3 _ _ (sl3.wipe vs) w3 r3 (step i xs[i] acc ω1 (by simp [lt]) ii) fun σ2 ρ2 e2 t2 sl2 => ⟨e2, ?_⟩
    refine ⟨hid h D, ρ2, ω1, _, sl2, w3, t2, fun b ω4 H4 t4 f4 w4 => ?_⟩
    have fa := f3.trans f4
    cases b with
    | false =>
      obtain ⟨e4, n4⟩ := fa D _ L.no e1
      exact ⟨acc, ω4, t4, k3.trans f4.kp, L.fr.trans fa, w4, n4, L.nw, us, e4, ra.keep fa.kp⟩
    | true =>
      refine ⟨hid h D, ρ2, ω4, _, sl2.keep f4.kp, w4, t4, fun y ω5 v H5 t5 f5 w5 r5 => ?_⟩
      have fb := fa.trans f5
      obtain ⟨e5, n5⟩ := fb D _ L.no e1
      refine ⟨us, e5, by rw [← ra.len]; exact t5.1, acc ++ [y], ω5, t5.2, (k3.trans (f4.trans f5).kp).trans kp_app, fun b o x1 x2 => ?_, w5.app L.nw n5 (fun _ z => nomatch z), n5, L.nw, us ++ [v], upd_same, ((ra.keep fb.kp).app (.cons r5 .nil)).keep kp_app⟩
      obtain ⟨z1, z2⟩ := (L.fr.trans fb) b o x1 x2
      exact ⟨by rw [upd_ne (ne_of_none x2 hD)]; exact z1, z2⟩
  · have e : i = xs.length := by omega
    subst e
    exact .inl ⟨st rfl, fin D acc ω1 H1 hD (last acc ω1 ii) L⟩
/-- a comprehension, its list a plain value -/
theorem up_lc [Amb] {wi : TI} {σ : L2.St} {Q : VK} (hwi : ∀ R, upI K Ti σ H R → wi σ H R) (gk : GOk K g gd vs) (u : up K (dLc Ti gd Tt Te vs) σ H Q) : tLc wi g (upT K Tt) (up K Te) vs σ H Q := by
  obtain ⟨h, ρ, ω, R, sl, w, t, k⟩ := u
  refine hwi _ ⟨h, ρ, ω, _, sl, w, t, fun xs P ω1 J H1 t1 f1 w1 it => ?_⟩
  refine lc_upd gk (sl.keep f1.kp) w1 it t1 fun D acc ω' H' hD q L => ?_
  obtain ⟨us, e, r⟩ := L.ls
  refine k _ ω' _ H' q (f1.trans L.fr) (L.wd.unhide L.nw) (.lst (.inl ⟨⟨L.no, w1.open_ D hD⟩, .inl e⟩) (r.keep kp_unhid))
theorem up_lcO [Amb] {wi : TI} {σ : L2.St} {Q : VK} (hwi : ∀ R, upI K Ti σ H R → wi σ H R) (gk : GOk K g gd vs) (u : up K (dLcO Ti gd Tt Te vs) σ H Q) : tLc wi g (upT K Tt) (up K Te) vs σ H Q := by
  obtain ⟨h, ρ, ω, R, sl, w, t, k⟩ := u
  refine hwi _ ⟨h, ρ, ω, _, sl, w, t, fun xs P ω1 J H1 t1 f1 w1 it => ?_⟩
  refine lc_upd gk (sl.keep f1.kp) w1 it t1 fun D acc ω' H' hD q L => ?_
  obtain ⟨us, e, r⟩ := L.ls
  have kk : Kp H' (fre ω' (hid h D)) H' (fre (oset ω' D (.lst acc)) h) := fun b o x y => ⟨y, by
    show oset ω' D _ b = none
    rw [oset_ne x.2.2]; exact x.1, x.2.1⟩
  refine k _ _ _ H' (q D L.no) (f1.trans fun b o x y => ?_) ⟨fun a c x => ?_, fun b x => (L.wd.open_ b x).1, fun b vs n x => by
    by_cases hb : b = D
    · subst hb; rw [oset_same] at n; cases n
    · rw [oset_ne hb] at n; exact (L.wd.tup_ b vs n x).1, Amb.own L.nw (Amb.show_ L.nw L.wd.amb)⟩ (.raw _)
  · obtain ⟨z1, z2⟩ := L.fr b o x y
    exact ⟨z1, by rw [oset_ne (ne_of_none y hD)]; exact z2⟩
  · by_cases n : a = D
    · subst n
      rw [oset_same] at x
      cases x
      exact ⟨us, e, r.keep kk⟩
    · rw [oset_ne n] at x
      exact (L.wd.cell a c x).keep rfl kk
variable {elt iter : Expr} {ifs : List Expr} {scope : Scope} {own : List (Str × Nat)}
theorem de_lc [Amb] (hc : X.calm = true) (hN : X.N.Nodup) (hi : DI X tg iter Ti) (ok : BlkOk X.N X.env.scope scope own)
    (hg : ∀ (s : Shared) (H : Hp) (C : Addr) (cl : List (Str × Addr)) (fp : List Addr), PG (X.blk s H scope (compEnvC scope cl C X.env) fp) tg g) (gk : GOk X.K g gd (own.map (·.2)))
    (ht : ∀ (s : Shared) (H : Hp) (C : Addr) (cl : List (Str × Addr)) (fp : List Addr), DTs (X.blk s H scope (compEnvC scope cl C X.env) fp) ifs Tt)
    (he : ∀ (s : Shared) (H : Hp) (C : Addr) (cl : List (Str × Addr)) (fp : List Addr), DE (X.blk s H scope (compEnvC scope cl C X.env) fp) elt Te) (hs : ∀ x, foldedSetIterable iter X.env x = pure x := by intro _; rfl) :
    DE X (.ListComp elt [⟨tg, iter, ifs, 0⟩] scope pos) (dLc Ti gd Tt Te (own.map (·.2))) :=
  PE.weak (pe_lc hc hN hi ok hg ht he hs) fun _ _ _ => up_lc (fun _ z => z) gk
theorem de_lcO [Amb] (hc : X.calm = true) (hN : X.N.Nodup) (hi : DI X tg iter Ti) (ok : BlkOk X.N X.env.scope scope own)
    (hg : ∀ (s : Shared) (H : Hp) (C : Addr) (cl : List (Str × Addr)) (fp : List Addr), PG (X.blk s H scope (compEnvC scope cl C X.env) fp) tg g) (gk : GOk X.K g gd (own.map (·.2)))
    (ht : ∀ (s : Shared) (H : Hp) (C : Addr) (cl : List (Str × Addr)) (fp : List Addr), DTs (X.blk s H scope (compEnvC scope cl C X.env) fp) ifs Tt)
    (he : ∀ (s : Shared) (H : Hp) (C : Addr) (cl : List (Str × Addr)) (fp : List Addr), DE (X.blk s H scope (compEnvC scope cl C X.env) fp) elt Te) (hs : ∀ x, foldedSetIterable iter X.env x = pure x := by intro _; rfl) :
    DE X (.ListComp elt [⟨tg, iter, ifs, 0⟩] scope pos) (dLcO Ti gd Tt Te (own.map (·.2))) :=
  PE.weak (pe_lc hc hN hi ok hg ht he hs) fun _ _ _ => up_lcO (fun _ z => z) gk
end
end DL

/-! DO: operators and built-ins over plain data. -/
namespace DL
open PySem PySem.Spec L2

/-! ### data as the library's data -/
mutual
def D.py : D → PyData
  | .non => .none
  | .bl b => .bool b
  | .int i => .int i
  | .str s => .str s
  | .lst xs => .list (pyAll xs)
  | .tup xs => .tuple (pyAll xs)
  | .tpn xs => .tuple (pyAll xs)
  | .dic kvs => .dict (pyKv kvs)
  | .obj _ _ => .none
  | .raw _ => .none
def pyAll : List D → List PyData
  | [] => []
  | x :: xs => x.py :: pyAll xs
def pyKv : List (Key × D) → List (PyData × PyData)
  | [] => []
  | (.inl i, v) :: r => (.int i, v.py) :: pyKv r
  | (.inr s, v) :: r => (.str s, v.py) :: pyKv r
end
mutual
/-- nothing raw in it -/
def D.ok : D → Bool
  | .raw _ => false
  | .obj _ _ => false
  | .lst xs => okAll xs
  | .tup xs => okAll xs
  | .tpn xs => okAll xs
  | .dic kvs => okKv kvs
  | _ => true
def okAll : List D → Bool
  | [] => true
  | x :: xs => x.ok && okAll xs
def okKv : List (Key × D) → Bool
  | [] => true
  | (_, v) :: r => v.ok && okKv r
end
mutual
/-- neither raw nor a dict in it -/
def D.flat : D → Bool
  | .raw _ => false
  | .obj _ _ => false
  | .dic _ => false
  | .lst xs => flatAll xs
  | .tup xs => flatAll xs
  | .tpn xs => flatAll xs
  | _ => true
def flatAll : List D → Bool
  | [] => true
  | x :: xs => x.flat && flatAll xs
end
section
variable {K : PySem.W.Frag} {X : Cx} {f h : Fp} {H H' : Hp} {ω ω' : Om}
theorem flat_cons {x : D} {xs : List D} (e : flatAll (x :: xs) = true) : x.flat = true ∧ flatAll xs = true := by simpa [flatAll] using e
mutual
theorem Rp.dp : ∀ (d : D) {v : V}, d.flat = true → Rp K f H d v → Dp K H v d.py
  | .non, _, _, r => by cases r; simp only [D.py]; exact .non
  | .bl b, _, _, r => by cases r; simp only [D.py]; exact .bl b
  | .int i, _, _, r => by cases r; simp only [D.py]; exact .int i
  | .str x, _, _, r => by cases r; simp only [D.py]; exact .str x
  | .raw v, _, e, r => by simp [D.flat] at e
  | .lst ds, _, e, r => by
    cases r with
    | lst s r => simp only [D.py]; exact .lst s.sq (RpAll.dp ds (by simpa [D.flat] using e) r)
  | .tup ds, _, e, r => by
    cases r with
    | tup s r => simp only [D.py]; exact .tup s.sq (RpAll.dp ds (by simpa [D.flat] using e) r)
  | .tpn ds, _, e, r => by
    cases r with
    | tpn s r => simp only [D.py]; exact .tup s.sq (RpAll.dp ds (by simpa [D.flat] using e) r)
  | .dic _, _, e, _ => by simp [D.flat] at e
  | .obj _ _, _, e, _ => by simp [D.flat] at e
theorem RpAll.dp : ∀ (ds : List D) {vs : List V}, flatAll ds = true → RpAll K f H ds vs → DpAll K H vs (pyAll ds)
  | [], _, _, r => by cases r; simp only [pyAll]; exact .nil
  | d :: ds, _, e, r => by
    cases r with
    | cons r t =>
      simp only [pyAll]
      exact .cons (Rp.dp d (flat_cons e).1 r) (RpAll.dp ds (flat_cons e).2 t)
end

/-! ### + -/
def rAddL (K : PySem.W.Frag) : R2 := fun x y H Q => ∃ a b xs ys, x = .ref a ∧ y = .ref b ∧ SqL K H a xs ∧ SqL K H b ys ∧ xs.length + ys.length ≤ sizeLine ∧ ∀ p, H p = none → Q (.ref p) (upd H p (.lst (xs ++ ys)))
theorem op_addL : OpR X (binaryOp .Add) (rAddL X.K) := by
  intro pins s σ H x y v u Q I rx ry hh
  obtain ⟨a, b, xs, ys, rfl, rfl, ha, hb, sz, q⟩ := hh
  cases rx
  cases ry
  obtain ⟨is, r1, p1, _⟩ := I.list ha
  obtain ⟨js, r2, p2, _⟩ := I.list hb
  obtain ⟨⟨c1, d1, t1, l1⟩, n1, g1, hc1, _, hd1⟩ := p1
  obtain ⟨⟨c2, d2, t2, l2⟩, n2, g2, hc2, _, hd2⟩ := p2
  simp only at hc1 hd1 hc2 hd2
  subst hc1 hd1 hc2 hd2
  have sz' : is.toArray.size + js.toArray.size ≤ sizeLine := by rw [List.size_toArray, List.size_toArray, ← r1.length, ← r2.length]; exact sz
  refine concat_meets ⟨_, g1, rfl⟩ ⟨_, g2, rfl⟩ noFill_list_add seq_list_add PySem.F.slot_list_add PySem.F.entry_list_add
    (PySem.F.args_list_add_2 _ _) (PyProof.Rows.list_addW a b is.toArray js.toArray n1 n2 d1 d2 l1 l2 sz') ⟨g1, g2, ?_⟩
  have ea : is.toArray ++ js.toArray = (is ++ js).toArray := by simp
  rw [ea]
  exact ⟨.ref _, _, I.lnew (t' := s.toks) (r1.append r2) (by rw [List.length_append]; exact sz), rfl, q _ I.fresh⟩
def rAddT (K : PySem.W.Frag) : R2 := fun x y H Q => ∃ a b xs ys, x = .ref a ∧ y = .ref b ∧ SqT K H a xs ∧ SqT K H b ys ∧ xs.length + ys.length ≤ sizeLine ∧
  (xs = [] → Q (.ref b) H) ∧ (xs ≠ [] → ys = [] → Q (.ref a) H) ∧ (xs ≠ [] → ys ≠ [] → ∀ p, H p = none → Q (.ref p) (upd H p (.tup (xs ++ ys))))
theorem op_addT : OpR X (binaryOp .Add) (rAddT X.K) := by
  intro pins s σ H x y v u Q I rx ry hh
  obtain ⟨a, b, xs, ys, rfl, rfl, ha, hb, sz, q0, q1, q2⟩ := hh
  by_cases ex : xs = []
  · subst ex
    cases rx
    cases ry
    obtain ⟨is, r1, p1, _⟩ := I.tuple ha
    obtain ⟨js, r2, p2, _⟩ := I.tuple hb
    cases r1
    obtain ⟨⟨c1, d1, t1, l1⟩, g1, hc1, n1, hd1⟩ := p1
    obtain ⟨⟨c2, d2, t2, l2⟩, g2, hc2, n2, hd2⟩ := p2
    simp only at hc1 hd1 hc2 hd2
    subst hc1 hd1 hc2 hd2
    exact concat_meets ⟨_, g1, rfl⟩ ⟨_, g2, rfl⟩ noFill_tuple_add seq_tuple_add PySem.F.slot_tuple_add PySem.F.entry_tuple_add
      (PySem.F.args_tuple_add_2 _ _) (PyProof.Rows.tuple_addW0 a b #[] js.toArray n1 n2 d1 d2 l1 l2 rfl) ⟨g1, g2, .ref b, H, I, rfl, q0 rfl⟩
  · exact op_catT pins s σ H _ _ v u Q I rx ry ⟨a, b, xs, ys, rfl, rfl, ha, hb, ex, sz, q1 ex, q2 ex⟩
/-- a list's items: a plain one, or an owned one -/
def lstOf (ω : Om) : D → Option (List D)
  | .lst xs => some xs
  | .raw (.ref p) => match ω p with
    | some (.lst xs) => some xs
    | _ => none
  | _ => none
theorem lstOf_sq [Amb] {d : D} {v : V} {xs : List D} (w : Wd K h H ω) (e : lstOf ω d = some xs) (r : Rp K (fre ω h) H d v) : ∃ a vs, v = .ref a ∧ SqL K H a vs ∧ RpAll K (fre ω h) H xs vs := by
  cases r with
  | lst s ra =>
    cases e
    exact ⟨_, _, rfl, s.sq, ra⟩
  | raw v =>
    cases v with
    | ref p =>
      simp only [lstOf] at e
      split at e
      · rename_i ys ey
        cases e
        obtain ⟨vs, e1, e2⟩ := w.cell p _ ey
        exact ⟨_, vs, rfl, .inl (.inl e1), e2⟩
      · cases e
    | _ => simp [lstOf] at e
  | _ => simp [lstOf] at e
def dAdd : DO2 := fun x y ω Q => match x, y with
  | .int i, .int j => Q (.int (i + j)) ω
  | .str s, .str t => s.length + t.length ≤ sizeLine ∧ Q (.str (s ++ t)) ω
  | .tup xs, .tup ys => xs.length + ys.length ≤ sizeLine ∧ Q (.tup (xs ++ ys)) ω
  | .lst xs, .lst ys => xs.length + ys.length ≤ sizeLine ∧ Q (.lst (xs ++ ys)) ω
  | x, y => ∃ xs ys, lstOf ω x = some xs ∧ lstOf ω y = some ys ∧ xs.length + ys.length ≤ sizeLine ∧ Q (.lst (xs ++ ys)) ω
def rAddA (K : PySem.W.Frag) : R2 := fun x y H Q => rI0 (fun i j => .int (i + j)) x y H Q ∨ (∃ i j, x = .str i ∧ y = .str j ∧ i.length + j.length ≤ sizeLine ∧ Q (.str (i ++ j)) H) ∨ rAddL K x y H Q ∨ rAddT K x y H Q
theorem op_addA : OpR X (binaryOp .Add) (rAddA X.K) := op_add.or (op_add_str.or (op_addL.or op_addT))
theorem ok_addL [Amb] {x y : D} {vx vy : V} {R : DQ} {Q : VK} {xs ys : List D} (w : Wd K h H ω) (ex : lstOf ω x = some xs) (ey : lstOf ω y = some ys) (sz : xs.length + ys.length ≤ sizeLine) (q : R (.lst (xs ++ ys)) ω) (rx : Rp K (fre ω h) H x vx) (ry : Rp K (fre ω h) H y vy)
    (k : Cnt K h H ω R Q) : rAddL K vx vy H Q := by
  obtain ⟨a, us, rfl, sx, ra⟩ := lstOf_sq w ex rx
  obtain ⟨b, ws, rfl, sy, rb⟩ := lstOf_sq w ey ry
  exact ⟨a, b, us, ws, rfl, rfl, sx, sy, by rw [← ra.len, ← rb.len]; exact sz, fun p e => k.nlst w q (ra.app rb) e⟩
theorem ok_addT [Amb] {xs ys : List D} {vx vy : V} {R : DQ} {Q : VK} (w : Wd K h H ω) (sz : xs.length + ys.length ≤ sizeLine) (q : R (.tup (xs ++ ys)) ω) (rx : Rp K (fre ω h) H (.tup xs) vx) (ry : Rp K (fre ω h) H (.tup ys) vy)
    (k : Cnt K h H ω R Q) : rAddT K vx vy H Q := by
  cases rx with
  | tup sx ra =>
    cases ry with
    | tup sy rb =>
      refine ⟨_, _, _, _, rfl, rfl, sx.sq, sy.sq, by rw [← ra.len, ← rb.len]; exact sz, fun e => ?_, fun _ e => ?_, fun _ _ p e => k.ntup w q (ra.app rb) e⟩
      · subst e
        cases ra
        exact k.self w q (.tup sy rb)
      · subst e
        cases rb
        rw [List.append_nil] at q
        exact k.self w q (.tup sx ra)
theorem ok_add [Amb] : OpD K dAdd (rAddA K) := by
  intro h x y ω R vx vy H Q t w rx ry k
  unfold dAdd at t
  split at t
  · cases rx; cases ry; exact .inl ⟨_, _, rfl, rfl, k.self w t (.int _)⟩
  · cases rx; cases ry; exact .inr (.inl ⟨_, _, rfl, rfl, t.1, k.self w t.2 (.str _)⟩)
  · exact .inr (.inr (.inr (ok_addT w t.1 t.2 rx ry k)))
  · exact .inr (.inr (.inl (ok_addL w rfl rfl t.1 t.2 rx ry k)))
  · obtain ⟨xs, ys, ex, ey, sz, q⟩ := t
    exact .inr (.inr (.inl (ok_addL w ex ey sz q rx ry k)))

/-! ### the other operators on ints -/
def dI2 (C : Int → Int → Prop) (g : Int → Int → Int) : DO2 := fun x y ω Q => ∃ i j, x = .int i ∧ y = .int j ∧ C i j ∧ Q (.int (g i j)) ω
theorem ok_i2 [Amb] {C : Int → Int → Prop} {g : Int → Int → Int} : OpD K (dI2 C g) (rI C fun i j => .int (g i j)) := by
  intro h x y ω R vx vy H Q ⟨i, j, e1, e2, c, t⟩ w rx ry k
  subst e1 e2
  cases rx; cases ry
  exact ⟨i, j, rfl, rfl, c, k.self w t (.int _)⟩
def dI0 (g : Int → Int → Int) : DO2 := fun x y ω Q => ∃ i j, x = .int i ∧ y = .int j ∧ Q (.int (g i j)) ω
theorem ok_i0 [Amb] {g : Int → Int → Int} : OpD K (dI0 g) (rI0 fun i j => .int (g i j)) := by
  intro h x y ω R vx vy H Q ⟨i, j, e1, e2, t⟩ w rx ry k
  subst e1 e2
  cases rx; cases ry
  exact ⟨i, j, rfl, rfl, k.self w t (.int _)⟩
def dB0 (g : Int → Int → Bool) : DO2 := fun x y ω Q => ∃ i j, x = .int i ∧ y = .int j ∧ Q (.bl (g i j)) ω
theorem ok_b0 [Amb] {g : Int → Int → Bool} : OpD K (dB0 g) (rI0 fun i j => .bl (g i j)) := by
  intro h x y ω R vx vy H Q ⟨i, j, e1, e2, t⟩ w rx ry k
  subst e1 e2
  cases rx; cases ry
  exact ⟨i, j, rfl, rfl, k.self w t (.bl _)⟩
abbrev dSub : DO2 := dI0 fun i j => i - j
abbrev dMod : DO2 := dI2 (fun _ j => 0 < j) fun i j => i % j
abbrev dFdv : DO2 := dI2 CDivW fun i j => i / j
abbrev dPow : DO2 := dI2 CPow fun i j => i ^ j.toNat
def rMulL (K : PySem.W.Frag) : R2 := fun x y H Q => ∃ l k xs, x = .ref l ∧ y = .int k ∧ SqL K H l xs ∧ -(2 ^ 63) ≤ k ∧ k < 2 ^ 63 ∧ xs.length * k.toNat ≤ sizeLine ∧
  ∀ p, H p = none → Q (.ref p) (upd H p (.lst (List.replicate k.toNat xs).flatten))
theorem op_mulL [Amb] : OpR X (binaryOp .Mult) (rMulL X.K) := by
  intro pins s σ H x y v u Q I rx ry hh
  obtain ⟨l, k, xs, rfl, rfl, hl, lo, up, sz, q⟩ := hh
  cases rx
  obtain ⟨t, rfl⟩ := ry
  obtain ⟨is, r1, p1, _⟩ := I.list hl
  obtain ⟨⟨c1, d1, t1, l1⟩, n1, g1, hc1, _, hd1⟩ := p1
  simp only at hc1 hd1
  subst hc1 hd1
  have ln := r1.length
  have sz2 : is.toArray.size * k.toNat ≤ 2 ^ 24 := by
    have e : (2 : Nat) ^ 24 = sizeLine := by decide
    rw [List.size_toArray, ← ln, e]
    exact sz
  refine wpAny_binaryOp_repeat_ref (T := "list") (U := "int") (by decide) ⟨_, g1, rfl⟩ (fun s' => typeIs_int s' k t) noFill_list_mul F.fills_int_mul
    F.slot_int_rmul repeat_list F.slot_int_index.lookup (call_meets F.slot_int_rmul (typeIs_int s k t) F.entry_int_rmul (F.args_int_rmul_2 _ _) (lm_int_rmul_list_any k t l is.toArray n1 d1 l1)
      ⟨g1, rfl, ⟨_, g1, rfl⟩, call_meets F.slot_list_mul ⟨_, g1, rfl⟩ F.entry_list_mul (F.args_list_mul_2 _ _)
        (lm_list_mul_any l is.toArray n1 d1 l1 k t (by simp [Builtin.List.listFitsIndex]; omega) (by omega) (by simp [Builtin.List.listTooLong, sizeLine]; omega)) ⟨g1, ?_⟩⟩)
  rw [PyProof.Rows.listMul_foldl_if]
  exact ⟨.ref _, _, I.lnew (t' := s.toks) (r1.rep k.toNat) (by rw [PyProof.Rows.lm_len_rep_flat, Nat.mul_comm]; exact sz), rfl, q _ I.fresh⟩
/-- * : ints, a list or a tuple times an int -/
def dMul : DO2 := fun x y ω Q => match x, y with
  | .int i, .int j => CMul i j ∧ Q (.int (i * j)) ω
  | .lst xs, .int k => -(2 ^ 63) ≤ k ∧ k < 2 ^ 63 ∧ xs.length * k.toNat ≤ sizeLine ∧ Q (.lst (List.replicate k.toNat xs).flatten) ω
  | .tup xs, .int k => xs ≠ [] ∧ 2 ≤ k ∧ k ≤ 1000 ∧ xs.length ≤ 1000 ∧ Q (.tup (List.replicate k.toNat xs).flatten) ω
  | _, _ => False
def rMulA (K : PySem.W.Frag) : R2 := fun x y H Q => rI CMul (fun i j => .int (i * j)) x y H Q ∨ rRepT K x y H Q ∨ rMulL K x y H Q
theorem op_mulA : OpR X (binaryOp .Mult) (rMulA X.K) := op_mul.or (op_repT.or op_mulL)
theorem ok_mul [Amb] : OpD K dMul (rMulA K) := by
  intro h x y ω R vx vy H Q t w rx ry k
  unfold dMul at t
  split at t
  · cases rx; cases ry; exact .inl ⟨_, _, rfl, rfl, t.1, k.self w t.2 (.int _)⟩
  · obtain ⟨k2, k3, l, q⟩ := t
    cases ry
    cases rx with
    | lst s ra => exact .inr (.inr ⟨_, _, _, rfl, rfl, s.sq, k2, k3, by rw [← ra.len]; exact l, fun p e => k.nlst w q (ra.rep _) e⟩)
  · obtain ⟨n, k2, k3, l, q⟩ := t
    cases ry
    cases rx with
    | tup s ra =>
      refine .inr (.inl ⟨_, _, _, rfl, rfl, s.sq, fun e => n ?_, k2, k3, by rw [← ra.len]; exact l, fun p e => k.ntup w q (ra.rep _) e⟩)
      subst e
      cases ra
      rfl
  · exact t.elim
theorem ok_neg [Amb] : UnD K (fun x ω Q => ∃ i, x = .int i ∧ Q (.int (-i)) ω) (rU fun i => .int (-i)) := by
  intro h x ω R vx H Q ⟨i, e, t⟩ w rx k
  subst e
  cases rx
  exact ⟨i, rfl, k.self w t (.int _)⟩

/-! ### == and != -/
def eqS : D → D → Option Bool
  | .int i, .int j => some (decide (i = j))
  | .str s, .str t => some (decide (s = t))
  | .bl a, .bl b => some (decide (a = b))
  | .non, .non => some true
  | .non, .int _ => some false
  | .int _, .non => some false
  | .non, .str _ => some false
  | .str _, .non => some false
  | .int _, .str _ => some false
  | .str _, .int _ => some false
  | _, _ => none
def eqD (x y : D) : Prop := x.flat = true ∧ y.flat = true ∧ SeqAt.shaped x.py = true ∧ SeqAt.shaped y.py = true
def dEq (neg : Bool) : DO2 := fun x y ω Q => match eqS x y with
  | some b => Q (.bl (if neg then !b else b)) ω
  | none => eqD x y ∧ Q (.bl (if neg then !PyData.eqv x.py y.py else PyData.eqv x.py y.py)) ω
def rEqA (K : PySem.W.Frag) : R2 := fun x y H Q => rEq x y H Q ∨ rEqD K x y H Q
def rNeA (K : PySem.W.Frag) : R2 := fun x y H Q => rNe x y H Q ∨ rNeD K x y H Q
theorem op_eqA (hu : X.A.units + 64 < cLine) : OpR X (compareOp .Eq) (rEqA X.K) := op_eq.or (op_eqD hu)
theorem op_neA (hu : X.A.units + 64 < cLine) : OpR X (compareOp .NotEq) (rNeA X.K) := op_ne.or (op_neD hu)
theorem eqS_ok {x y : D} {b : Bool} {vx vy : V} (e : eqS x y = some b) (rx : Rp K f H x vx) (ry : Rp K f H y vy) : scal vx vy = true ∧ decide (vx = vy) = b := by
  unfold eqS at e
  split at e <;> cases e <;> cases rx <;> cases ry <;> refine ⟨rfl, ?_⟩ <;> simp
theorem ok_eq [Amb] : OpD K (dEq false) (rEqA K) := by
  intro h x y ω R vx vy H Q t w rx ry k
  unfold dEq at t
  split at t
  · rename_i b e
    obtain ⟨s, e2⟩ := eqS_ok e rx ry
    refine .inl ⟨s, ?_⟩
    rw [e2]
    exact k.self w t (.bl b)
  · obtain ⟨⟨f1, f2, s1, s2⟩, q⟩ := t
    exact .inr ⟨_, _, Rp.dp _ f1 rx, Rp.dp _ f2 ry, s1, s2, k.self w q (.bl _)⟩
theorem ok_ne [Amb] : OpD K (dEq true) (rNeA K) := by
  intro h x y ω R vx vy H Q t w rx ry k
  unfold dEq at t
  split at t
  · rename_i b e
    obtain ⟨s, e2⟩ := eqS_ok e rx ry
    refine .inl ⟨s, ?_⟩
    rw [e2]
    exact k.self w t (.bl (!b))
  · obtain ⟨⟨f1, f2, s1, s2⟩, q⟩ := t
    exact .inr ⟨_, _, Rp.dp _ f1 rx, Rp.dp _ f2 ry, s1, s2, k.self w q (.bl _)⟩
def isNonD : D → Bool
  | .non => true
  | .raw .non => true
  | _ => false
def dIsN (neg : Bool) : DO2 := fun x y ω Q => y = .non ∧ Q (.bl (if neg then !isNonD x else isNonD x)) ω
theorem isNon_ok {x : D} {v : V} (r : Rp K f H x v) : decide (v = .non) = isNonD x := by
  cases r with
  | raw v => cases v <;> rfl
  | _ => rfl
theorem ok_isN [Amb] : OpD K (dIsN false) (fun x y H Q => y = .non ∧ Q (.bl (decide (x = .non))) H) := by
  intro h x y ω R vx vy H Q ⟨e, t⟩ w rx ry k
  subst e
  cases ry
  refine ⟨rfl, ?_⟩
  rw [isNon_ok rx]
  exact k.self w t (.bl _)
theorem ok_notN [Amb] : OpD K (dIsN true) (fun x y H Q => y = .non ∧ Q (.bl (!decide (x = .non))) H) := by
  intro h x y ω R vx vy H Q ⟨e, t⟩ w rx ry k
  subst e
  cases ry
  refine ⟨rfl, ?_⟩
  rw [isNon_ok rx]
  exact k.self w t (.bl _)
end
end DL

/-! DP: subscripts, slices, len, tuple, list, isinstance, repr, str, int .. over plain data. -/
namespace DL
open PySem PySem.Spec L2
section
variable {K : PySem.W.Frag} {X : Cx} {f h : Fp} {H H' : Hp} {ω ω' : Om} {a b c e : Expr} {pos p p2 : Pos} {Ta Tb Tc : TD} {T : TAD} {es : List Expr}

theorem RpAll.atI {ds : List D} {vs : List V} {i : Int} {d : D} (r : RpAll K f H ds vs) (e : L2.atI ds i = some d) : ∃ v, L2.atI vs i = some v ∧ Rp K f H d v := by
  unfold L2.atI at e ⊢
  rw [r.len] at e
  cases z : ixN vs.length i with
  | none => rw [z] at e; cases e
  | some j =>
    rw [z] at e
    exact r.get e
/-- x[i] of a list, a tuple -/
def dIx : DO2 := fun x y ω Q => ∃ i xs d, y = .int i ∧ (x = .tup xs ∨ lstOf ω x = some xs) ∧ L2.atI xs i = some d ∧ Q d ω
theorem ok_ix [Amb] : OpD K dIx (fun x y H Q => rIxL K x y H Q ∨ rIxT K x y H Q) := by
  intro h x y ω R vx vy H Q ⟨i, xs, d, e1, e2, e3, q⟩ w rx ry k
  subst e1
  cases ry
  rcases e2 with e2 | e2
  · subst e2
    cases rx with
    | tup s ra =>
      obtain ⟨v, ev, rv⟩ := ra.atI e3
      exact .inr ⟨_, _, i, v, rfl, rfl, s.sq, ev, k.self w q rv⟩
  · obtain ⟨a, vs, rfl, sx, ra⟩ := lstOf_sq w e2 rx
    obtain ⟨v, ev, rv⟩ := ra.atI e3
    exact .inl ⟨_, _, i, v, rfl, rfl, sx, ev, k.self w q rv⟩
theorem de_ix [Amb] (ha : DE X a Ta) (hb : DE X b Tb) (hs : PlainIx b) : DE X (.Subscript a b pos) (dBin dIx Ta Tb) :=
  PE.weak (pe_ix (ix_list.or ix_tup) ha hb hs) fun _ _ _ => up_bin ok_ix

/-! ### slices -/
abbrev TOD := Rho → Om → (Option Int → Om → Prop) → Prop
def upO [Amb] (K : PySem.W.Frag) (T : TOD) : TO := fun σ H Q => ∃ h ρ ω R, Sl K (fre ω h) H σ ρ ∧ Wd K h H ω ∧ T ρ ω R ∧ ∀ o ω' H', R o ω' → Fr H ω H' ω' → Wd K h H' ω' → Q o H'
abbrev DOp [Amb] (X : Cx) (e : Option Expr) (T : TOD) : Prop := PO X e (upO X.K T)
theorem PO.weak {X : Cx} {e : Option Expr} {t u : TO} (p : PO X e t) (w : ∀ σ H Q, u σ H Q → t σ H Q) : PO X e u := ⟨fun pins s σ H Q I q => p.run pins s σ H Q I (w σ H Q q)⟩
def dNoP : TOD := fun _ ω Q => Q none ω
def dPart (Ta : TD) : TOD := fun ρ ω Q => Ta ρ ω fun x ω1 => ∃ i, x = .int i ∧ Q (some i) ω1
theorem do_none [Amb] : DOp X none dNoP := PO.weak po_none fun _ _ _ ⟨_, _, _, _, _, w, q, k⟩ => k none _ _ q Fr.refl w
theorem do_some [Amb] (ha : DE X a Ta) : DOp X (some a) (dPart Ta) := by
  refine PO.weak (po_some ha) fun σ H Q ⟨h, ρ, ω, R, sl, w, t, k⟩ => ?_
  refine ⟨h, ρ, ω, _, sl, w, t, fun x ω1 v H1 t1 f1 w1 r => ?_⟩
  obtain ⟨i, e, q⟩ := t1
  subst e
  cases r
  exact ⟨i, rfl, k _ _ _ q f1 w1⟩
def cutD {α : Type} (xs : List α) (lo hi : Option Int) : List α := (xs.drop (HT.sIx xs.length 0 lo)).take (HT.sIx xs.length xs.length hi - HT.sIx xs.length 0 lo)
theorem RpAll.cut {ds : List D} {vs : List V} (r : RpAll K f H ds vs) (lo hi : Option Int) : RpAll K f H (cutD ds lo hi) (cutV vs lo hi) := by
  unfold cutD cutV
  rw [r.len]
  exact (r.drop _).take _
def dSl (Te : TD) (Tl Th : TOD) : TD := fun ρ ω Q => Te ρ ω fun x ω1 => Tl ρ ω1 fun lo ω2 => Th ρ ω2 fun hi ω3 => (∃ xs, x = .tup xs ∧ Q (.tup (cutD xs lo hi)) ω3) ∨ ∃ xs, lstOf ω3 x = some xs ∧ Q (.lst (cutD xs lo hi)) ω3
theorem cut_whole {α : Type} {xs : List α} {lo hi : Option Int} (e : HT.sIx xs.length 0 lo = 0 ∧ HT.sIx xs.length xs.length hi = xs.length) : cutD xs lo hi = xs := by
  unfold cutD
  rw [e.1, e.2, List.drop_zero, Nat.sub_zero, List.take_length]
theorem de_sl [Amb] {lo hi : Option Expr} {Tl Th : TOD} (ha : DE X a Ta) (hl : DOp X lo Tl) (hh : DOp X hi Th) : DE X (.Subscript a (.Slice lo hi none p2) pos) (dSl Ta Tl Th) := by
  refine PE.weak (pe_slice (sl_list.or sl_tupA) ha hl hh) fun σ H Q ⟨h, ρ, ω, R, sl, w, t, k⟩ => ?_
  refine ⟨h, ρ, ω, _, sl, w, t, fun x ω1 v H1 t1 f1 w1 r1 => ?_⟩
  refine ⟨h, ρ, ω1, _, sl.keep f1.kp, w1, t1, fun l ω2 H2 t2 f2 w2 => ?_⟩
  refine ⟨h, ρ, ω2, _, sl.keep (f1.trans f2).kp, w2, t2, fun u ω3 H3 t3 f3 w3 => ?_⟩
  have kk := k.go (f1.trans (f2.trans f3))
  have r3 := r1.keep (f2.trans f3).kp
  rcases t3 with ⟨xs, e, q⟩ | ⟨xs, e, q⟩
  · subst e
    cases r3 with
    | tup s ra =>
      refine .inr ⟨_, _, rfl, s.sq, fun z => ?_, fun _ p e => kk.ntup w3 q (ra.cut l u) e⟩
      rw [← ra.len] at z
      rw [cut_whole z] at q
      exact kk.self w3 q (.tup s ra)
  · obtain ⟨a, vs, rfl, sx, ra⟩ := lstOf_sq w3 e r3
    exact .inl ⟨a, vs, rfl, sx, fun p e => kk.nlst w3 q (ra.cut l u) e⟩

/-! ### len, tuple, list -/
def dLen : DOn := fun xs ω Q => ∃ x, xs = [x] ∧ ((∃ ys, (x = .tup ys ∨ lstOf ω x = some ys) ∧ Q (.int ys.length) ω) ∨ ∃ z, x = .str z ∧ z.length ≤ sizeLine ∧ Q (.int z.length) ω)
theorem RpAll.one {d : D} {vs : List V} (r : RpAll K f H [d] vs) : ∃ v, vs = [v] ∧ Rp K f H d v := by
  cases r with
  | cons r t => cases t; exact ⟨_, rfl, r⟩
theorem RpAll.two {d e : D} {vs : List V} (r : RpAll K f H [d, e] vs) : ∃ v u, vs = [v, u] ∧ Rp K f H d v ∧ Rp K f H e u := by
  cases r with
  | cons r t =>
    obtain ⟨u, rfl, r2⟩ := t.one
    exact ⟨_, u, rfl, r, r2⟩
theorem ok_len [Amb] : CallD K dLen (fun xs H Q => ∃ x n, xs = [x] ∧ LenV K x H n ∧ Q (.int n) H) := by
  intro h xs ω R vs H Q ⟨x, e, t⟩ w r k
  subst e
  obtain ⟨v, rfl, rv⟩ := r.one
  rcases t with ⟨ys, e | e, q⟩ | ⟨z, e, l, q⟩
  · subst e
    cases rv with
    | tup s ra => exact ⟨_, _, rfl, .inr ⟨_, s.sq, by rw [← ra.len]⟩, k.self w q (.int _)⟩
  · obtain ⟨a, vs, rfl, sx, ra⟩ := lstOf_sq w e rv
    exact ⟨_, _, rfl, .inl ⟨_, sx, by rw [← ra.len]⟩, k.self w q (.int _)⟩
  · subst e
    cases rv
    exact ⟨_, _, rfl, ⟨l, rfl⟩, k.self w q (.int _)⟩
def dTupOf : DOn := fun xs ω Q => ∃ x ys, xs = [x] ∧ (x = .tup ys ∨ lstOf ω x = some ys) ∧ Q (.tup ys) ω
theorem ok_tupOf [Amb] : CallD K dTupOf (fun xs H Q => ∃ p ys, xs = [.ref p] ∧ ((SqL K H p ys ∧ ∀ l, H l = none → Q (.ref l) (upd H l (.tup ys))) ∨ (SqT K H p ys ∧ Q (.ref p) H))) := by
  intro h xs ω R vs H Q ⟨x, ys, e, t, q⟩ w r k
  subst e
  obtain ⟨v, rfl, rv⟩ := r.one
  rcases t with e | e
  · subst e
    cases rv with
    | tup s ra => exact ⟨_, _, rfl, .inr ⟨s.sq, k.self w q (.tup s ra)⟩⟩
  · obtain ⟨a, vs, rfl, sx, ra⟩ := lstOf_sq w e rv
    exact ⟨_, _, rfl, .inl ⟨sx, fun p e => k.ntup w q ra e⟩⟩
def dLstOf : DOn := fun xs ω Q => ∃ x ys, xs = [x] ∧ (x = .tup ys ∨ lstOf ω x = some ys) ∧ Q (.lst ys) ω
def dTupRg (T : TAD) : TD := fun ρ ω Q => T ρ ω fun xs ω1 => ∃ n, xs = [.int n] ∧ RgOk 0 n ∧ Q (.tup (rngD 0 n.toNat)) ω1

/-! ### isinstance of built-in types -/
def tyN : D → Option String
  | .non => some "NoneType"
  | .bl _ => some "bool"
  | .int _ => some "int"
  | .str _ => some "str"
  | .lst _ => some "list"
  | .tup _ => some "tuple"
  | .tpn _ => some "tuple"
  | .dic _ => some "dict"
  | .obj _ _ => none
  | .raw _ => none
/-- a value of the first type is an instance of the second -/
def isN (t n : String) : Bool := t == n || n == "object" || (t == "bool" && n == "int")
def knownT : List String := ["NoneType", "bool", "int", "str", "list", "tuple", "dict"]
theorem kit_all : (knownT.all fun t => ["bool", "int", "str", "list", "tuple", "dict"].all fun n => kitB t n == some (isN t n)) = true := by decide +kernel
theorem kit_of2 {t n : String} (ht : t ∈ knownT) (hn : n ∈ ["bool", "int", "str", "list", "tuple", "dict"]) : kitB t n = some (isN t n) := by
  have z := List.all_eq_true.mp (List.all_eq_true.mp kit_all t ht) n hn
  exact eq_of_beq z
def dIsi : DOn := fun xs ω Q => ∃ x n t, xs = [x, .raw (.ty n)] ∧ n ∈ ["bool", "int", "str", "list", "tuple", "dict"] ∧ tyN x = some t ∧ Q (.bl (isN t n)) ω
theorem sl_ty {a : Addr} {vs : List V} (s : SL K f H a vs) : TyX K H (.ref a) (.type "list") := by
  rcases s with ⟨_, r | ⟨o, r⟩⟩ | (⟨r | ⟨_, r⟩⟩ | ⟨o, its, n, hl, hc, _⟩)
  · exact .base (.lst r)
  · exact .base (.frz r)
  · cases r
  · cases r
  · exact .kList hl hc
theorem st_ty {a : Addr} {vs : List V} (s : ST K f H a vs) : TyX K H (.ref a) (.type "tuple") := by
  exact .base (.tup s.2)
theorem sn_ty {a : Addr} {vs : List V} (s : SN f H a vs) : TyX K H (.ref a) (.type "tuple") := by
  obtain ⟨_, o, _, c, e⟩ := s
  exact .fTuple e
theorem ty_ok {x : D} {v : V} {t : String} (e : tyN x = some t) (r : Rp K f H x v) : t ∈ knownT ∧ TyX K H v (.type t) := by
  cases r <;> cases e <;> refine ⟨by decide, ?_⟩
  · exact .base .non
  · exact .base (.bl _)
  · exact .base (.int _)
  · exact .base (.str _)
  · exact sl_ty ‹_›
  · exact st_ty ‹_›
  · exact sn_ty ‹_›
  · exact .base (.dK ‹_›)
theorem ok_isi [Amb] : CallD K dIsi (rIsi K) := by
  intro h xs ω R vs H Q ⟨x, n, t, e, hn, et, q⟩ w r k
  subst e
  obtain ⟨v, u, rfl, r1, r2⟩ := r.two
  cases r2
  obtain ⟨kt, ty⟩ := ty_ok et r1
  exact ⟨v, _, _, _, _, rfl, .ty n, ty, kit_ty (kit_of2 kt hn), k.self w q (.bl _)⟩

/-! ### small built-ins -/
def dInt1 : DOn := fun xs ω Q => (∃ i, xs = [.int i] ∧ Q (.int i) ω) ∨ ∃ b, xs = [.bl b] ∧ Q (.int (if b then 1 else 0)) ω
def dStr1 : DOn := fun xs ω Q => ∃ i, xs = [.int i] ∧ i.natAbs.log2 < 1920 ∧ Q (.str (toString i)) ω
def dAbs : DOn := fun xs ω Q => ∃ i, xs = [.int i] ∧ Q (.int (if i < 0 then -i else i)) ω
theorem ok_abs [Amb] : CallD K dAbs (fun xs H Q => ∃ i, xs = [.int i] ∧ Q (.int (if i < 0 then -i else i)) H) := by
  intro h xs ω R vs H Q ⟨i, e, q⟩ w r k
  subst e
  obtain ⟨v, rfl, rv⟩ := r.one
  cases rv
  exact ⟨i, rfl, k.self w q (.int _)⟩
def dII (g : Int → Int → Int) : DOn := fun xs ω Q => ∃ i j, xs = [.int i, .int j] ∧ Q (.int (g i j)) ω
theorem ok_ii [Amb] {g : Int → Int → Int} : CallD K (dII g) (fun xs H Q => ∃ i j, xs = [.int i, .int j] ∧ Q (.int (g i j)) H) := by
  intro h xs ω R vs H Q ⟨i, j, e, q⟩ w r k
  subst e
  obtain ⟨v, u, rfl, r1, r2⟩ := r.two
  cases r1; cases r2
  exact ⟨i, j, rfl, k.self w q (.int _)⟩
abbrev dMax2 : DOn := dII fun i j => if j > i then j else i
abbrev dMin2 : DOn := dII fun i j => if j < i then j else i
def dSum : DOn := fun xs ω Q => ∃ (x : D) (ns : List Int), xs = [x] ∧ lstOf ω x = some (ns.map D.int) ∧ Q (.int ns.sum) ω
theorem ok_sum [Amb] : CallD K dSum (rSum K) := by
  intro h xs ω R vs H Q ⟨x, ns, e, t, q⟩ w r k
  subst e
  obtain ⟨v, rfl, rv⟩ := r.one
  obtain ⟨a, vs, rfl, sx, ra⟩ := lstOf_sq w t rv
  have z := ra.ints
  subst z
  exact ⟨a, ns, rfl, sx, k.self w q (.int _)⟩
end
end DL

/-! DQ: repr of data in which each dict stands elsewhere than sys.modules (lists may stand anywhere). -/
namespace PySem
mutual
inductive Rs (h : Heap) : Value → PyData → Prop
  | none : Rs h .none .none
  | bool (b) : Rs h (.bool b) (.bool b)
  | int (i t) : Rs h (.int i t) (.int i)
  | str (x t) : Rs h (.str x t) (.str x)
  | list {a o vs n xs} : h.get? a = some o → o.cls = .type "list" → o.data = .seq vs n → RsAll h vs.toList xs → Rs h (.ref a) (.list xs)
  | tuple {a o vs n xs} : h.get? a = some o → o.cls = .type "tuple" → o.data = .seq vs n → RsAll h vs.toList xs → Rs h (.ref a) (.tuple xs)
  | dict {a o es n kvs} : h.get? a = some o → o.cls = .type "dict" → o.data = .dict es n → a ≠ sysModules → RsAll h (es.toList.map (·.key)) (kvs.map (·.1)) → RsAll h (es.toList.map (·.val)) (kvs.map (·.2)) → Rs h (.ref a) (.dict kvs)
inductive RsAll (h : Heap) : List Value → List PyData → Prop
  | nil : RsAll h [] []
  | cons {v vs d ds} : Rs h v d → RsAll h vs ds → RsAll h (v :: vs) (d :: ds)
end
section
variable {prog : Program} {w : World} {h₀ : Heap}
mutual
theorem Rs.reads : ∀ {v : Value} {d : PyData}, Rs h₀ v d → ∃ as, Reads h₀ v d as
  | _, _, .none => ⟨_, .none⟩
  | _, _, .bool b => ⟨_, .bool b⟩
  | _, _, .int i t => ⟨_, .int i t⟩
  | _, _, .str x t => ⟨_, .str x t⟩
  | _, _, .list a b c r => let ⟨_, q⟩ := r.readsAll; ⟨_, .list a b c q⟩
  | _, _, .tuple a b c r => let ⟨_, q⟩ := r.readsAll; ⟨_, .tuple a b c q⟩
  | _, _, .dict a b c _ r t => let ⟨_, q⟩ := r.readsAll; let ⟨_, q'⟩ := t.readsAll; ⟨_, .dict a b c q q'⟩
theorem RsAll.readsAll : ∀ {vs : List Value} {ds : List PyData}, RsAll h₀ vs ds → ∃ as, ReadsAll h₀ vs ds as
  | _, _, .nil => ⟨_, .nil⟩
  | _, _, .cons r t => let ⟨_, q⟩ := r.reads; let ⟨_, q'⟩ := t.readsAll; ⟨_, .cons q q'⟩
end
theorem kv_keys (kvs : List (PyData × PyData)) (hz : (dictText (PyData.shownKv kvs)).length ≤ sizeLine) : ∀ t ∈ PyData.shownAll (kvs.map (·.1)), t.length ≤ sizeLine := fun t ht =>
  let ⟨_, hp, l⟩ := PyData.shownKv_key_le kvs t ht
  Nat.le_trans l (Nat.le_trans (dictText_mem_le hp) hz)
theorem kv_vals (kvs : List (PyData × PyData)) (hz : (dictText (PyData.shownKv kvs)).length ≤ sizeLine) : ∀ t ∈ PyData.shownAll (kvs.map (·.2)), t.length ≤ sizeLine := fun t ht =>
  let ⟨_, hp, l⟩ := PyData.shownKv_val_le kvs t ht
  Nat.le_trans l (Nat.le_trans (dictText_mem_le hp) hz)
mutual
theorem Rs.k : ∀ {v : Value} {d : PyData}, Rs h₀ v d → d.showable = true → d.shown.length ≤ sizeLine → ∃ bs, ReadAtMost h₀ d.depth bs ∧ ReprK prog w bs h₀ d.depth v d.shown
  | _, _, .none, _, _ => ⟨[], fun _ z => (nomatch z), by simp only [PyData.shown]; exact .of_is ReprIs.none _ _ _⟩
  | _, _, .bool b, _, _ => ⟨[], fun _ z => (nomatch z), by simp only [PyData.shown]; exact .of_is (ReprIs.bool b) _ _ _⟩
  | _, _, .int i t, s, _ => ⟨[], fun _ z => (nomatch z), by simp only [PyData.shown]; exact .of_is (ReprIs.int t (by simpa [PyData.showable] using s)) _ _ _⟩
  | _, _, .str x t, _, z => ⟨[], fun _ z => (nomatch z), by simp only [PyData.shown]; exact .of_is (ReprIs.str x t (by simpa only [PyData.shown] using z)) _ _ _⟩
  | _, _, .list (a := a) (vs := vs) (xs := xs) e1 e2 e3 rr, s, z => by
    have z' : (listText (PyData.shownAll xs)).length ≤ sizeLine := by simpa only [PyData.shown] using z
    obtain ⟨bs, hb, k⟩ := RsAll.k rr (by simpa [PyData.showable] using s) fun t ht => Nat.le_trans (listText_mem_le ht) z'
    obtain ⟨as, q⟩ := rr.readsAll
    have r : Reads h₀ (.ref a) (.list xs) _ := .list e1 e2 e3 q
    have na : a ∉ bs := not_mem_of_deeper r (by simp only [PyData.depth]; omega) hb
    refine ⟨a :: bs, hb.cons r (by simp only [PyData.depth]; omega), ?_⟩
    simp only [PyData.depth, PyData.shown]
    obtain ⟨l⟩ := vs
    cases l with
    | nil =>
      have rr' : RsAll h₀ [] xs := rr
      cases rr'
      simp only [PyData.shownAll, listText_nil]
      exact .listEmpty e1 e2 e3
    | cons x l => exact .list e1 e2 e3 na (by simpa using k.length_eq) fun i y e => k.item i y (by simpa using e)
  | _, _, .tuple (a := a) (xs := xs) e1 e2 e3 rr, s, z => by
    have z' : (tupleText (PyData.shownAll xs)).length ≤ sizeLine := by simpa only [PyData.shown] using z
    obtain ⟨bs, hb, k⟩ := RsAll.k rr (by simpa [PyData.showable] using s) fun t ht => Nat.le_trans (tupleText_mem_le ht) z'
    obtain ⟨as, q⟩ := rr.readsAll
    have r : Reads h₀ (.ref a) (.tuple xs) _ := .tuple e1 e2 e3 q
    have na : a ∉ bs := not_mem_of_deeper r (by simp only [PyData.depth]; omega) hb
    refine ⟨a :: bs, hb.cons r (by simp only [PyData.depth]; omega), ?_⟩
    simp only [PyData.depth, PyData.shown]
    exact .tuple e1 e2 e3 na k
  | _, _, .dict (a := a) (es := es) (kvs := kvs) e1 e2 e3 ne r1 r2, s, z => by
    have z' : (dictText (PyData.shownKv kvs)).length ≤ sizeLine := by simpa only [PyData.shown] using z
    obtain ⟨s1, s2⟩ := PyData.showableKv_split kvs (by simpa [PyData.showable] using s)
    obtain ⟨b1, hb1, k1⟩ := RsAll.k r1 s1 (kv_keys kvs z')
    obtain ⟨b2, hb2, k2⟩ := RsAll.k r2 s2 (kv_vals kvs z')
    obtain ⟨as, q1⟩ := r1.readsAll
    obtain ⟨bs, q2⟩ := r2.readsAll
    have r : Reads h₀ (.ref a) (.dict kvs) _ := .dict e1 e2 e3 q1 q2
    have hb : ReadAtMost h₀ (PyData.depthKv kvs) (b1 ++ b2) :=
      (hb1.mono (PyData.depthAll_keys_le kvs)).append (hb2.mono (PyData.depthAll_vals_le kvs))
    have na : a ∉ b1 ++ b2 := not_mem_of_deeper r (by simp only [PyData.depth]; omega) hb
    refine ⟨a :: (b1 ++ b2), hb.cons r (by simp only [PyData.depth]; omega), ?_⟩
    simp only [PyData.depth, PyData.shown, PyData.shownKv_eq]
    exact .dict e1 e2 e3 (beq_eq_false_iff_ne.mpr ne) na (.of_two es.toList _ _
      (k1.more_le (fun _ => List.mem_append_left _) (PyData.depthAll_keys_le kvs)) (k2.more_le (fun _ => List.mem_append_right _) (PyData.depthAll_vals_le kvs)))
theorem RsAll.k : ∀ {vs : List Value} {ds : List PyData}, RsAll h₀ vs ds → PyData.showableAll ds = true → (∀ t ∈ PyData.shownAll ds, t.length ≤ sizeLine) →
    ∃ bs, ReadAtMost h₀ (PyData.depthAll ds) bs ∧ ReprAllK prog w bs h₀ (PyData.depthAll ds) vs (PyData.shownAll ds)
  | _, _, .nil, _, _ => ⟨[], fun _ z => (nomatch z), by simp only [PyData.shownAll]; exact .nil⟩
  | _, _, .cons (d := d) (ds := ds) r t, s, z => by
    have s' : d.showable = true ∧ PyData.showableAll ds = true := by simpa [PyData.showableAll] using s
    obtain ⟨b1, hb1, k1⟩ := Rs.k r s'.1 (z _ (by simp only [PyData.shownAll]; exact List.mem_cons_self ..))
    obtain ⟨b2, hb2, k2⟩ := RsAll.k t s'.2 fun u hu => z u (by simp only [PyData.shownAll]; exact List.mem_cons_of_mem _ hu)
    simp only [PyData.depthAll, PyData.shownAll]
    exact ⟨b1 ++ b2, (hb1.mono (Nat.le_max_left _ _)).append (hb2.mono (Nat.le_max_right _ _)),
      .cons ((k1.more fun _ => List.mem_append_left _).level_le (Nat.le_max_left _ _)) (k2.more_le (fun _ => List.mem_append_right _) (Nat.le_max_right _ _))⟩
end
end
end PySem

/-! DR: repr over plain data. -/
namespace DL
open PySem PySem.Spec L2
section
variable {X : Cx} {f : Fp} {H : Hp} {σ : L2.St} {s : Shared} {pins : List (Addr × Obj)}
def pyK : Key → PyData
  | .inl i => .int i
  | .inr s => .str s
theorem pyKv_1 : ∀ kvs : List (Key × D), (pyKv kvs).map (·.1) = kvs.map fun p => pyK p.1
  | [] => by simp [pyKv]
  | (.inl i, v) :: r => by simp only [pyKv, List.map_cons, pyKv_1 r, pyK]
  | (.inr i, v) :: r => by simp only [pyKv, List.map_cons, pyKv_1 r, pyK]
theorem pyKv_2 : ∀ kvs : List (Key × D), (pyKv kvs).map (·.2) = pyAll (kvs.map (·.2))
  | [] => by simp [pyKv, pyAll]
  | (.inl i, v) :: r => by simp only [pyKv, List.map_cons, pyKv_2 r, pyAll]
  | (.inr i, v) :: r => by simp only [pyKv, List.map_cons, pyKv_2 r, pyAll]
theorem vals_pairs {P : Program} {w : World} : ∀ {es : List DictEntry} {vs : List (Key × Value)}, Pairs (mixKind P w) es vs → es.map (·.val) = vs.map (·.2)
  | _, _, .nil => rfl
  | _, _, .cons a b c => by rw [List.map_cons, List.map_cons, b, vals_pairs c]
theorem okc {x : D} {xs : List D} (e : okAll (x :: xs) = true) : x.ok = true ∧ okAll xs = true := by simpa [okAll] using e
theorem kv_split : ∀ {kvs : List (Key × V)} {vs : List (Key × Value)}, KV kvs vs → (kvs.map (·.1)) = vs.map (·.1) ∧ Vals (kvs.map (·.2)) (vs.map (·.2))
  | _, _, .nil => ⟨rfl, .nil⟩
  | _, _, .cons a b => by
    obtain ⟨h1, h2⟩ := kv_split b
    exact ⟨by rw [List.map_cons, List.map_cons, a.1, h1], .cons a.2 h2⟩
theorem rpkv_split : ∀ {kds : List (Key × D)} {kvs : List (Key × V)}, RpKv X.K f H kds kvs → (kds.map (·.1)) = kvs.map (·.1) ∧ RpAll X.K f H (kds.map (·.2)) (kvs.map (·.2))
  | _, _, .nil => ⟨rfl, .nil⟩
  | _, _, .cons a b => by
    obtain ⟨h1, h2⟩ := rpkv_split b
    exact ⟨by rw [List.map_cons, List.map_cons, h1], .cons a h2⟩
theorem key_rs {h : Heap} {k : Key} {u : Value} (e : keyIs k u = true) : Rs h u (pyK k) := by
  rcases keyIs_shape e with ⟨i, t, rfl, rfl⟩ | ⟨x, t, rfl, rfl⟩
  · exact .int i t
  · exact .str x t
theorem keys_rs {h : Heap} {P : Program} {w : World} : ∀ {es : List DictEntry} {vs : List (Key × Value)}, Pairs (mixKind P w) es vs → RsAll h (es.map (·.key)) (vs.map fun p => pyK p.1)
  | _, _, .nil => .nil
  | _, _, .cons a b c => .cons (key_rs a) (keys_rs c)
mutual
theorem Rp.rs (I : Inv X pins σ H s) : ∀ (d : D) (v : V) (u : Value), d.ok = true → Rp X.K f H d v → RelV v u → Rs s.heap u d.py
  | .non, _, _, _, r, z => by cases r; cases z; simp only [D.py]; exact .none
  | .bl b, _, _, _, r, z => by cases r; cases z; simp only [D.py]; exact .bool b
  | .int i, _, _, _, r, z => by cases r; obtain ⟨t, rfl⟩ := z; simp only [D.py]; exact .int i t
  | .str x, _, _, _, r, z => by cases r; obtain ⟨t, rfl⟩ := z; simp only [D.py]; exact .str x t
  | .raw v, _, _, e, _, _ => by simp [D.ok] at e
  | .obj _ _, _, _, e, _, _ => by simp [D.ok] at e
  | .lst ds, _, _, e, r, z => by
    cases r with
    | @lst a vs _ sl ra =>
      cases z
      obtain ⟨its, rv, ⟨o, n, ho, hc, _, hd⟩, _⟩ := I.list sl.sq
      simp only [D.py]
      exact .list ho hc hd (Rp.rsAll I ds _ its (by simpa [D.ok] using e) ra rv)
  | .tup ds, _, _, e, r, z => by
    cases r with
    | @tup a vs _ sl ra =>
      cases z
      obtain ⟨its, rv, ⟨o, ho, hc, n, hd⟩, _⟩ := I.tuple sl.sq
      simp only [D.py]
      exact .tuple ho hc hd (Rp.rsAll I ds _ its (by simpa [D.ok] using e) ra rv)
  | .tpn ds, _, _, e, r, z => by
    cases r with
    | @tpn a vs _ sl ra =>
      cases z
      obtain ⟨its, rv, ⟨o, ho, hc, n, hd⟩, _⟩ := I.tuple sl.sq
      simp only [D.py]
      exact .tuple ho hc hd (Rp.rsAll I ds _ its (by simpa [D.ok] using e) ra rv)
  | .dic kds, _, _, e, r, z => by
    cases r with
    | @dic a kvs _ fa ha rk =>
      cases z
      obtain ⟨_, hsm, vs, rel, o, es, ep, ho, hx, hd, _, hp, _⟩ := I.hok a _ ha
      obtain ⟨k1, k2⟩ := kv_split rel
      obtain ⟨k3, k4⟩ := rpkv_split rk
      have rr := Rp.rsKv I kds kvs _ (by simpa [D.ok] using e) rk k2
      simp only [D.py]
      have e1 : (pyKv kds).map (·.1) = vs.map fun p => pyK p.1 := by
        rw [pyKv_1]
        have q : (kds.map (·.1)).map pyK = (vs.map (·.1)).map pyK := by rw [k3, k1]
        rw [List.map_map, List.map_map] at q
        exact q
      exact .dict ho hx.1 hd (fun q => by rw [q] at hsm; simp at hsm) (by rw [e1]; exact keys_rs hp) (by rw [pyKv_2, vals_pairs hp]; exact rr)
theorem Rp.rsAll (I : Inv X pins σ H s) : ∀ (ds : List D) (vs : List V) (us : List Value), okAll ds = true → RpAll X.K f H ds vs → Vals vs us → RsAll s.heap us (pyAll ds)
  | [], _, _, _, r, z => by cases r; cases z; simp only [pyAll]; exact .nil
  | d :: ds, _, _, e, r, z => by
    cases r with
    | cons r1 r2 =>
      cases z with
      | cons z1 z2 =>
        simp only [pyAll]
        exact .cons (Rp.rs I d _ _ (okc e).1 r1 z1) (Rp.rsAll I ds _ _ (okc e).2 r2 z2)
theorem Rp.rsKv (I : Inv X pins σ H s) : ∀ (ds : List (Key × D)) (vs : List (Key × V)) (us : List Value), okKv ds = true → RpKv X.K f H ds vs → Vals (vs.map (·.2)) us → RsAll s.heap us (pyAll (ds.map (·.2)))
  | [], _, _, _, r, z => by cases r; cases z; simp only [List.map_nil, pyAll]; exact .nil
  | (k, d) :: ds, _, _, e, r, z => by
    have e' : d.ok = true ∧ okKv ds = true := by simpa [okKv] using e
    cases r with
    | cons r1 r2 =>
      rw [List.map_cons] at z
      cases z with
      | cons z1 z2 =>
        rw [List.map_cons]
        simp only [pyAll]
        exact .cons (Rp.rs I d _ _ e'.1 r1 z1) (Rp.rsKv I ds _ _ e'.2 r2 z2)
end
/-- what repr wants of a value -/
structure Shows (d : D) : Prop where
  ok : d.ok = true
  sh : d.py.showable = true
  dp : d.py.depth ≤ 60
  sz : d.py.shown.length ≤ sizeLine
def rReprD (X : Cx) : List V → Hp → VK → Prop := fun xs H Q => ∃ v d f, xs = [v] ∧ Rp X.K f H d v ∧ Shows d ∧ Q (.str d.py.shown) H
def dRepr : DOn := fun xs ω Q => ∃ d, xs = [d] ∧ Shows d ∧ Q (.str d.py.shown) ω
end
end DL

/-! DT: short forms for written derivations; calls of defs by their promises; stores; the law's end. -/
namespace DL
open PySem PySem.Spec L2
abbrev dLt : DO2 := dB0 fun i j => decide (i < j)
abbrev dLe : DO2 := dB0 fun i j => decide (i ≤ j)
abbrev dGt : DO2 := dB0 fun i j => decide (j < i)
abbrev dGe : DO2 := dB0 fun i j => decide (j ≤ i)
def dNeg : DO1 := fun x ω Q => ∃ i, x = .int i ∧ Q (.int (-i)) ω
section
variable {K : PySem.W.Frag} {X : Cx} {f h : Fp} {H H' : Hp} {ω ω' : Om} {a b c e : Expr} {pos p p2 : Pos} {Ta Tb Tc : TD} {T : TAD} {es : List Expr}
theorem dv [Amb] (i : Nat) {x : Str} (hN : X.N[i]? = some x := by rfl) (hv : Vis X.env.scope x := by first | exact Or.inl rfl | exact Or.inr (Or.inl rfl) | exact Or.inr (Or.inr rfl)) (hd : (x == ("__debug__" : Str)) = false := by decide)
    (hcd : (x == ("__classdict__" : Str)) = false := by decide) : DE X (.Name x pos) (dVar i) := de_var hN hv hd hcd
theorem de_globI2 [Amb] {x : Str} {i : Int} (hg : Gl X x) (hm : ∃ t, X.mg x = some (.int i t)) (hd : (x == ("__debug__" : Str)) = false := by decide) : DE X (.Name x pos) (dC (.int i)) := by
  obtain ⟨t, e⟩ := hm
  exact de_globI hg e ⟨t, rfl⟩ hd
theorem dt_chain [Amb] {op op'} {o o' : DO2} {r r' : R2} (ho : OpR X (compareOp op) r) (ok : OpD X.K o r) (ho' : OpR X (compareOp op') r') (ok' : OpD X.K o' r') (ha : DE X a Ta) (hb : DE X b Tb) (hc : DE X c Tc)
    (hm : lastMarks [op, op'] [b, c] = false := by with_unfolding_all rfl) : DT X (.Compare a [op, op'] [b, c] pos) (dTst (dChain o o' Ta Tb Tc)) := by
  refine PT.weak (pt_chain ho ho' ha hb hc hm) fun σ H Q u => ?_
  obtain ⟨h, ρ, ω, R, sl, w, t, k⟩ := up_tst u
  refine ⟨h, ρ, ω, _, sl, w, t, fun x ω1 vx H1 t1 f1 w1 rx => ?_⟩
  refine ⟨h, ρ, ω1, _, sl.keep f1.kp, w1, t1, fun y ω2 vy H2 t2 f2 w2 ry => ?_⟩
  refine ok h x y ω2 _ vx vy H2 _ t2 w2 (rx.keep f2.kp) ry fun z ω3 vz H3 t3 f3 w3 rz => ?_
  obtain ⟨kk, rfl, t3⟩ := t3
  cases rz
  refine ⟨kk, rfl, ?_⟩
  cases kk with
  | false => exact k _ _ _ _ t3 (f1.trans (f2.trans f3)) w3 (.bl false)
  | true =>
    refine ⟨h, ρ, ω3, _, sl.keep (f1.trans (f2.trans f3)).kp, w3, t3, fun u ω4 vu H4 t4 f4 w4 ru => ?_⟩
    exact ok' h y u ω4 R vy vu H4 _ t4 w4 (ry.keep (f3.trans f4).kp) ru (k.go (f1.trans (f2.trans (f3.trans f4))))
/-! ### a def's promise, as its callers have it -/
def CalD (P : Program) (w : World) (K : PySem.W.Frag) (mg : Str → Option Value) (base : Heap) (k : Nat) (x : Str) (ps : List Str) (S : SpD) : Prop :=
  ∃ f fd, FnG P w K mg base CX0 k f fd ps (spU K S) ∧ mg x = some (.ref f) ∧ PySem.W.keepIn K (.ref f) = true ∧ Binds K fd ps [] ∧ ∃ oc od osl, K.lookup f = some ⟨oc, od, .func fd, osl⟩
def DefAt (K : PySem.W.Frag) (mg : Str → Option Value) (x : Str) (st : Stmt) : Prop := ∃ f fd, mg x = some (.ref f) ∧ Fun K x x st f fd
theorem de_call [Amb] {k : Nat} {x : Str} {ps : List Str} {S : SpD} (C : CalD X.prog X.w X.K X.mg X.base k x ps S) (hr : Room k X.A) (gd : X.A.guards = some []) (hg : Gl X x) (ha : DA X (e :: es) T) (hdb : (x == ("__debug__" : Str)) = false := by decide)
    (e1 : starEach (e :: es) X.env = (false, eval e X.env) :: starEach es X.env := by rfl) (e2 : (backTo pos (starEach es X.env)).any (·.1) = false := by rfl) : DE X (.Call (.Name x p) (e :: es) [] pos) (dCall S T) := by
  obtain ⟨f, fd, F, hm, hk, hb, _⟩ := C
  exact de_fn (E := fun _ _ _ => True) F hr gd hg hm hk hb (fun _ _ _ _ _ _ _ z => z.elim) ha hdb e1 e2
theorem CalD.mk {P : Program} {w : World} {K : PySem.W.Frag} {mg : Str → Option Value} {base : Heap} {k : Nat} {x : Str} {st : Stmt} {N ps : List Str} {S : SpD} {T : TSD} (D : DefAt K mg x st) (sc : FnScope N ps (defScope st))
    (bi : ∀ (kV doc pm : Value) (an : Option Addr) (cdv ct : Value) (us : List Value), us.length = ps.length → bindArgs (PySem.W.fnOf x x (defArgs st) (defBody st) (defScope st) .none kV doc pm an cdv ct) ⟨us, []⟩ = pure (ps.zip us))
    (ar : ∀ ds ω R, S ds ω R → ds.length = ps.length)
    (b : ∀ (f : Addr) (cdv : Value) (A : Around) (fs : List Env) (s : Shared) (hp : Hp) (e : XK), Room k (A.deeper (PyProof.Rows.envOfC x (defScope st) s.heap.objs.size f cdv)) → A.guards = some [] →
      DSs (cxOf CX0 P w K mg base N x (defScope st) f cdv A fs s hp e).nox (defBody st) T)
    (rd : ∀ ds ω R, S ds ω R → T { nx := fun _ ω' => R .non ω', rt := R } (startD N ds) ω) : CalD P w K mg base (k + 1) x ps S := by
  obtain ⟨f, fd, hm, F⟩ := D
  refine ⟨f, fd, FnG.ofD F sc ar (b f) rd, hm, F.kp, F.binds bi, ?_⟩
  obtain ⟨oc, od, kV, doc, pm, an, cdv, ct, osl, e, lk, _⟩ := F.ex
  exact ⟨oc, od, osl, lk⟩
theorem DefAt.mk {K : PySem.W.Frag} {h : Heap} {mg : Str → Option Value} (X : K.In h) (G : h.Ns mainGlobals mg) {x : Str} {st : Stmt} {f : Addr} {oc : Value} {od an : Option Addr} {osl : Array (Option Value)} {kV doc pm cdv ct : Value}
    (a : PySem.W.nsIn K mainGlobals x = some (some (.ref f))) (l : K.lookup f = some ⟨oc, od, .func (PySem.W.fnOf x x (defArgs st) (defBody st) (defScope st) .none kV doc pm an cdv ct), osl⟩)
    (c : PySem.W.codeIn K cdv x = true) (k : PySem.W.keepIn K (.ref f) = true) : DefAt K mg x st := ⟨f, _, PySem.W.mg_of X G a, fun_mk l c k⟩
/-! ### stores into an owned list -/
def dgSub (Ta Tb : TD) : TGD := fun x ρ ω Q => Ta ρ ω fun o ω1 => Tb ρ ω1 fun i ω2 => ∃ p k xs j, o = .raw (.ref p) ∧ i = .int k ∧ ω2 p = some (.lst xs) ∧ ixN xs.length k = some j ∧ Q ρ (oset ω2 p (.lst (xs.set j x)))
theorem dg_sub [Amb] (ha : DE X a Ta) (hb : DE X b Tb)
    (hh : ∀ v, assign (.Subscript a b pos) X.env v = (do
      let o ← holding [v] (eval a X.env)
      let i ← holding [v, o] (eval b X.env)
      standAt pos
      holding [v, o, i] (setItem o i v)
      release [v, o, i] []) := by intro _; rfl) : DG X (.Subscript a b pos) (dgSub Ta Tb) := by
  refine PG.weak (pg_sub ha hb set_list hh) fun v σ H Q ⟨h, ρ, ω, d, R, sl, w, r, t, k⟩ => ?_
  refine ⟨h, ρ, ω, _, sl, w, t, fun x ω1 vx H1 t1 f1 w1 rx => ?_⟩
  refine ⟨h, ρ, ω1, _, sl.keep f1.kp, w1, t1, fun y ω2 vy H2 t2 f2 w2 ry => ?_⟩
  obtain ⟨p, i, xs, j, e1, e2, e3, e4, q⟩ := t2
  subst e1 e2
  cases rx
  cases ry
  obtain ⟨vs, z1, z2⟩ := w2.cell p _ e3
  have r2 := r.keep (f1.trans f2).kp
  refine ⟨p, vs, i, j, rfl, rfl, z1, by rw [← z2.len]; exact e4, k _ _ _ _ q (f1.trans (f2.trans (Fr.put e3))) (w2.put e3 fun H' f' kp hp => ⟨_, hp, (z2.set r2 j).keep kp⟩) (sl.keep (f1.trans (f2.trans (Fr.put e3))).kp)⟩
/-! ### a written dict of one entry -/
def dDic1 (Ta Tb : TD) : TD := fun ρ ω Q => Ta ρ ω fun x ω1 => Tb ρ ω1 fun y ω2 => ∃ s, x = .str s ∧ Q (.dic [(.inr s, y)]) ω2
def dDic0 : TD := fun _ ω Q => Q (.dic []) ω
/-! ### name = [..] on one line -/
/-- what a law's def promises: for each list of ints it hands back True -/
def spLaw (bd : List Int → Prop) : SpD := fun ds ω R => ∃ ns : List Int, ds = [.lst (ns.map D.int)] ∧ ns.length ≤ 63 ∧ bd ns ∧ (∀ a, ω a = none) ∧ ∀ ω', R (.bl true) ω'
theorem law_sp {K : PySem.W.Frag} (hp : Hp) (a : Addr) (ns : List Int) (hl : ns.length ≤ 63) (_ : Only hp) (hS : SqL K hp a (ns.map V.int)) : spU K (spLaw fun _ => True) [.ref a] hp (fun v _ => v = .bl true) fun _ _ _ => False := by
  refine ⟨fun _ => True, [.lst (ns.map D.int)], fun _ => none, fun d _ => d = .bl true, ?_, ⟨fun a c x => (nomatch x), fun _ _ => trivial, fun _ _ _ _ => trivial, trivial⟩, ⟨ns, rfl, hl, trivial, fun _ => rfl, fun _ => rfl⟩, fun d ω' v H' e _ _ r => ?_⟩
  · refine .cons (.lst ?_ (RpAll.ofInts ns)) .nil
    rcases hS with r | r
    · exact .inl ⟨⟨rfl, trivial⟩, r⟩
    · exact .inr (.inr r)
  · subst e
    cases r
    rfl
end
end DL
namespace DL
open PySem PySem.Spec L2
/-- the law's def, from its promise over every base -/
theorem law_fd {P : Program} {w : World} {K : PySem.W.Frag} {mg : Str → Option Value} {fa : Addr} {k : Nat} {S : SpD} {I : Heap → Prop} (b0 : Heap) (h0 : I b0) (hm : mg "law" = some (.ref fa)) (C : ∀ base, I base → CalD P w K mg base k "law" ["script"] S)
    (bi : ∀ fd oc od osl, K.lookup fa = some ⟨oc, od, .func fd, osl⟩ → ∀ (s : Shared) (u : Value), BindsTo s fd ⟨[u], []⟩ [("script", u)]) :
    ∃ fd : FuncData, (∀ (s : Shared) (u : Value), BindsTo s fd ⟨[u], []⟩ [("script", u)]) ∧ ∀ base : Heap, I base → FnG P w K mg base CX0 k fa fd ["script"] (spU K S) := by
  obtain ⟨f, fd, F, e, _, _, oc, od, osl, lk⟩ := C b0 h0
  obtain rfl : fa = f := by
    have z := hm.symm.trans e
    cases z
    rfl
  refine ⟨fd, bi fd oc od osl lk, fun base hb => ?_⟩
  obtain ⟨f, fd2, F2, e2, _, _, oc2, od2, osl2, lk2⟩ := C base hb
  obtain rfl : fa = f := by
    have z := hm.symm.trans e2
    cases z
    rfl
  rw [lk] at lk2
  cases lk2
  exact F2
end DL

/-! DE: enumerate of a tuple. -/
namespace DL
open PySem PySem.Spec L2
section
open Sem (wp)
theorem enum_new1 {v : Value} {o : Obj} {Z : Heap → Prop} (B : Begins v o Z) :
    Meets (Builtin.«enumerate.__new__» ⟨[.type "enumerate", v], []⟩) (fun _ R s => Z s.heap ∧
      R (.ok (.ret (.ref (s.heap.push o).objs.size)))
        { s with heap := (s.heap.push o).push { cls := .type "enumerate", data := .fields #[.none, .bool false, .ref s.heap.objs.size, rawInt 0, .none, .none] } }) :=
  .of_wp fun prog w A R s hh => by
    obtain ⟨hp, g, d, tk, os⟩ := s
    obtain ⟨z, hh⟩ := hh
    have s1 := sub_enumerate
    have s2 : ∀ {B' : Around} {E Q : Value → Shared → Prop}, Q (.ref hp.objs.size) ⟨hp.push o, g, d, tk, os⟩ → wpAny (model prog w) B' (pyIter v) Q E ⟨hp, g, d, tk, os⟩ :=
      fun q => B.iter prog w _ _ ⟨hp, g, d, tk, os⟩ _ z q
    wp_walk using s2
    refine wpAny_stack_any fun st => wpAny_pure ?_
    split
    · rename_i c _ _ _ _ _
      cases (c == Value.type "enumerate") <;>
      · wp_walk using s2
        exact ⟨_, rfl, hh⟩
    · wp_walk using s2
      exact ⟨_, rfl, hh⟩
variable {prog : Program} {w : World} {A : Around} {E : Value → Shared → Prop} {s : Shared}
theorem enum_call1 {v : Value} {o : Obj} {Z : Heap → Prop} {Q : Value → Shared → Prop} (B : Begins v o Z) (z : Z s.heap)
    (hh : ∀ h', IsEnum h' (s.heap.objs.size + 1) s.heap.objs.size 0 .none → h'.get? s.heap.objs.size = some o →
      (∀ b u, s.heap.get? b = some u → h'.get? b = some u) → Q (.ref (s.heap.objs.size + 1)) { s with heap := h' }) :
    wpAny (model prog w) A (call (.type "enumerate") [v]) Q E s := by
  refine callType_new F.called_enumerate (by decide) (F.typeCall_enumerate_1 _) (F.newCall_enumerate_1 _) (fun obj => F.args_object_init_2 obj _) F.entry_enumerate_new
    (enum_new1 B) ⟨z, ?_⟩
  have sz : (s.heap.push o).objs.size = s.heap.objs.size + 1 := Heap.size_push ..
  show _ ∧ _
  rw [sz]
  have ie : IsEnum ((s.heap.push o).push { cls := .type "enumerate", data := .fields #[.none, .bool false, .ref s.heap.objs.size, rawInt 0, .none, .none] }) (s.heap.objs.size + 1) s.heap.objs.size 0 .none := by
    have q := Heap.get?_push_size (s.heap.push o) (o := { cls := .type "enumerate", data := .fields #[.none, .bool false, .ref s.heap.objs.size, rawInt 0, .none, .none] }) rfl
    rw [sz] at q
    exact q
  exact ⟨⟨_, ie, rfl⟩, hh _ ie (Heap.get?_push_of_some _ (Heap.get?_push_size _ B.free)) fun b u x => Heap.get?_push_of_some _ (Heap.get?_push_of_some _ x)⟩
end
/-- the tuple at a, each item in a new pair with its number -/
def IteT (K : PySem.W.Frag) (a : Addr) : It :=
  ⟨fun i H => ∃ (xs : List V) (x : V), SqT K H a xs ∧ xs[i]? = some x,
   fun i H v H' => ∃ p x, v = .ref p ∧ H p = none ∧ H' = upd H p (.tup [.int (i : Nat), x]) ∧ ∀ xs, SqT K H a xs → xs[i]? = some x,
   fun i H => ∃ xs : List V, SqT K H a xs ∧ xs.length = i⟩
theorem turn_enumT {P : Program} {w : World} {K : PySem.W.Frag} {elts : List Expr} {kk : Nat} {tpos : Pos} (a e it : Addr) :
    Turn P w K (.Tuple elts kk tpos) (IteT K a) [e, it] e (fun i h => (∃ old, IsEnum h e it ((i : Nat) : Int) old) ∧ h.IsTupleIter it a i ∧ e ≠ it) where
  mem := by simp
  obj := fun i h ⟨⟨old, ie⟩, ⟨o, ho, hc, hd⟩, _⟩ b hb => by
    have z : b = e ∨ b = it := by simpa using hb
    rcases z with rfl | rfl
    · exact ⟨_, ie, fun v q => nomatch q⟩
    · exact ⟨o, ho, fun v q => by rw [hd] at q; cases q⟩
  keep := fun i h h' ⟨⟨old, ie⟩, ii, ne⟩ k => ⟨⟨old, k e (by simp) _ ie⟩, ii.at fun o q => k it (by simp) o q, ne⟩
  item := by
    intro X hP hw hK hc i pins s σ H E I hf ⟨⟨old, ie⟩, ii, ne⟩ ⟨xs, x, hq, hx⟩
    subst hP hw hK
    obtain ⟨its, rv, p, hz⟩ := I.tuple hq
    obtain ⟨u, hu, ru⟩ := rv.get hx
    have nai : a ≠ it := fun z => by
      obtain ⟨o, ho, hcl, _⟩ := ii
      obtain ⟨o2, ho2, hcl2, _⟩ := p
      rw [z, ho] at ho2
      cases ho2
      rw [hcl] at hcl2
      exact absurd (Value.type.inj hcl2) (by decide)
    have nae : e ∉ [it, a] := fun z => by
      have z' : e = it ∨ e = a := by simpa using z
      rcases z' with z | z
      · exact ne z
      · obtain ⟨o2, ho2, hcl2, _⟩ := p
        have ie' : s.heap.get? e = _ := ie
        rw [z, ho2] at ie'
        cases ie'
        exact absurd (Value.type.inj hcl2) (by decide)
    have le : e < s.heap.objs.size := Heap.lt_size ie
    have li : it < s.heap.objs.size := by obtain ⟨_, q, _⟩ := ii; exact Heap.lt_size q
    have lt : i < its.toArray.size := by
      rw [List.size_toArray]
      exact (List.getElem?_eq_some_iff.mp hu).1
    refine wpAny_pyNext_enum_itemD (Draws.tuple (A := X.A.in1) (I.ok.hd hc) it a nai its.toArray) ie ⟨ii, p⟩ lt ne nae fun y h' tk py ho st' hT hsz hk => ?_
    obtain rfl : u = y := by
      have q : its.toArray[i]? = some u := by simpa using hu
      exact Option.some.inj (q.symm.trans py)
    refine ⟨_, rfl, wpAny_letOwnedTupleGo_enum (s := { s with heap := h', toks := tk + 1 }) ho fun h2 he2 sb => ?_⟩
    have hT2 : h2.get? s.heap.objs.size = some { cls := .type "tuple", data := .seq #[.int i tk, u] } := (sb.2 _ (Nat.ne_of_gt le)).trans hT
    have new : ObjOk X.prog X.w (upd H s.heap.objs.size (.tup [.int (i : Nat), x])) h2 s.heap.objs.size (.tup [.int (i : Nat), x]) :=
      ⟨by show 2 ≤ sizeLine; decide, [.int i tk, u], .cons ⟨_, rfl⟩ (.cons ru .nil), ⟨_, hT2, rfl, _, rfl⟩⟩
    have I1 : Inv X pins σ (upd H s.heap.objs.size (.tup [.int (i : Nat), x])) { s with heap := h2, toks := tk + 1 } :=
      I.turnedNew (ch := [e, it]) (fun b ob hb q => (sb.2 b fun z => hb (by simp [z])).trans (hk b ob (fun z => hb (by simp [z])) (fun z => hb (by simp [z])) q)) hf (Nat.le_refl _) new
    refine ⟨.ref s.heap.objs.size, _, I1, rfl, ⟨_, x, rfl, I.hok.fresh (Nat.le_refl _), rfl, fun ys hy => by rw [I.tuple_inj hy hq]; exact hx⟩, ⟨⟨u, ?_⟩, st'.1.at fun o q => (sb.2 it (Ne.symm ne)).trans q, ne⟩, fun b hb => ?_⟩
    · have q : ((i + 1 : Nat) : Int) = (i : Int) + 1 := by omega
      rw [q]
      exact he2
    · have z : b = e ∨ b = it := by simpa using hb
      have lb : b < s.heap.objs.size := z.elim (fun z => z ▸ le) fun z => z ▸ li
      rw [upd_ne (Nat.ne_of_lt lb)]
      exact (hf b hb).1
  done := by
    intro X hP hw hK hc i pins s σ H E I hf ⟨⟨old, ie⟩, ii, ne⟩ ⟨xs, hq, hx⟩
    subst hP hw hK
    obtain ⟨its, rv, p, hz⟩ := I.tuple hq
    obtain ⟨f0, f1, f2, f3, f4, f5⟩ := hf it (by simp)
    have nai : a ≠ it := fun z => by
      obtain ⟨o, ho, hcl, _⟩ := ii
      obtain ⟨o2, ho2, hcl2, _⟩ := p
      rw [z, ho] at ho2
      cases ho2
      rw [hcl] at hcl2
      exact absurd (Value.type.inj hcl2) (by decide)
    have e1 : i = its.toArray.size := by rw [List.size_toArray, ← rv.length]; exact hx.symm
    subst e1
    exact wpAny_pyNext_enum_endD (Draws.tuple (A := X.A.in1) (I.ok.hd hc) it a nai its.toArray) ie ⟨ii, p⟩ fun h' eb =>
      ⟨rfl, I.turned (t' := s.toks) (fun b o hb q => eb b o hb q) f0 f1 f3 f4 f5⟩
  self := fun A i s Q E ⟨⟨_, ie⟩, _⟩ hh => wpAny_pyIter_enum ie hh
def iEnumT (K : PySem.W.Frag) (ta : TA) : TI := fun σ H R => ta σ H fun vs H1 => ∃ a xs, vs = [.ref a] ∧ SqT K H1 a xs ∧ R (IteT K a) H1
theorem pi_enumT {X : Cx} {e : Expr} {ta : TA} {p pos tpos : Pos} {elts : List Expr} {kk : Nat} (hg : Gl X "enumerate") (hm : X.mg "enumerate" = none) (ha : PA X [e] ta) (hs : starEach [e] X.env = [(false, eval e X.env)] := by rfl) :
    PI X (.Tuple elts kk tpos) (.Call (.Name "enumerate" p) [e] [] pos) (iEnumT X.K ta) := by
  constructor
  intro pins s σ H R I hh
  refine PyProof.Rows.Call_ (ld_blt I hg hm PyProof.Rows.boot_enumerate (PyProof.Rows.callWith_type1 (thn (ha.run pos pins s σ H _ I hh) fun us s1 ⟨vs, H1, I1, r1, q1⟩ => ?_) hs rfl))
  obtain ⟨a, xs, ex, hq, q⟩ := q1
  subst ex
  cases r1 with
  | cons r rr =>
    cases rr
    cases r
    obtain ⟨its, rv, pt, hz⟩ := I1.tuple hq
    refine enum_call1 (begins_tuple a its.toArray) pt fun h' ie io hk => wpAny_pyIter_enum ie ?_
    have I2 : Inv X pins σ H1 { s1 with heap := h' } := I1.kept (t' := s1.toks) hk
    refine ⟨s1.heap.objs.size + 1, [s1.heap.objs.size + 1, s1.heap.objs.size], _, _, H1, rfl, I2, turn_enumT a (s1.heap.objs.size + 1) s1.heap.objs.size, ⟨⟨.none, ie⟩, ⟨_, io, rfl, rfl⟩, Nat.succ_ne_self _⟩, fun b hb => ?_, q⟩
    have z : b = s1.heap.objs.size + 1 ∨ b = s1.heap.objs.size := by simpa using hb
    have hle : s1.heap.objs.size ≤ b := z.elim (fun z => z ▸ Nat.le_add_right _ _) fun z => z ▸ Nat.le_refl _
    exact I1.fpOk hle (I1.hok.fresh hle)
section
variable {K : PySem.W.Frag} {X : Cx} {h : Fp} {H : Hp} {ω : Om} {a : Expr} {p pos tpos : Pos} {T : TAD} {elts : List Expr} {kk : Nat}
def enumD (xs : List D) : List D := (List.range xs.length).map fun i => .tup [.int (i : Nat), xs.getD i .non]
theorem enumD_len {xs : List D} : (enumD xs).length = xs.length := by simp [enumD]
theorem enumD_get {xs : List D} {i : Nat} {d : D} (e : xs[i]? = some d) : (enumD xs)[i]? = some (.tup [.int (i : Nat), d]) := by
  obtain ⟨l, e2⟩ := List.getElem?_eq_some_iff.mp e
  unfold enumD
  rw [List.getElem?_map, List.getElem?_range l]
  simp [List.getD, e]
theorem itok_enumT [Amb] {a : Addr} {vs : List V} {xs : List D} {P : Om → Prop} (s : ST K (fre ω h) H a vs) (r : RpAll K (fre ω h) H xs vs) : ItOk K h (IteT K a) (enumD xs) P H ω := by
  intro h2 i H2 ω2 _ f w
  have s2 := (s.keep f).sq
  refine ⟨fun l => ⟨vs, s2, by rw [← r.len, ← enumD_len]; exact l.symm⟩, fun d e => ?_⟩
  have li : i < xs.length := by
    have z := (List.getElem?_eq_some_iff.mp e).1
    rw [enumD_len] at z
    exact z
  have ei : xs[i]? = some xs[i] := List.getElem?_eq_getElem li
  rw [enumD_get ei] at e
  cases e
  obtain ⟨v, ev, rv⟩ := r.get ei
  refine ⟨⟨vs, v, s2, ev⟩, fun x H3 ⟨q, y, e1, hn, e2, e3⟩ => ?_⟩
  subst e1 e2
  have e4 := e3 vs s2
  rw [ev] at e4
  cases e4
  exact ⟨Fr.new hn, w.new hn, Rp.new_tup w hn (.cons (.int _) (.cons (rv.keep f) .nil))⟩
def dEnum (T : TAD) : TID := fun ρ ω Q => T ρ ω fun ds ω1 => ∃ xs, ds = [.tup xs] ∧ Q (enumD xs) (fun _ => True) ω1
theorem di_enum [Amb] (hg : Gl X "enumerate") (hm : X.mg "enumerate" = none) (ha : DA X [a] T) (hs : starEach [a] X.env = [(false, eval a X.env)] := by rfl) : DI X (.Tuple elts kk tpos) (.Call (.Name "enumerate" p) [a] [] pos) (dEnum T) := by
  refine PI.weak (pi_enumT hg hm ha hs) fun σ H Q ⟨h, ρ, ω, R, sl, w, t, k⟩ => ?_
  refine ⟨h, ρ, ω, _, sl, w, t, fun ds ω1 vs H1 t1 f1 w1 r => ?_⟩
  obtain ⟨xs, e, q⟩ := t1
  subst e
  obtain ⟨v, rfl, rv⟩ := r.one
  cases rv with
  | tup s ra => exact ⟨_, _, rfl, s.sq, k _ _ _ _ _ q f1 w1 (itok_enumT s ra)⟩
end
end DL
namespace DL
open PySem PySem.Spec L2
section
variable {K : PySem.W.Frag} {X : Cx} {a b c : Expr} {pos : Pos} {T : TAD}
def dPar3 (i j l : Nat) (T : TAD) : TSD := fun E ρ ω => T ρ ω fun xs ω1 => ∃ x y z, xs = [x, y, z] ∧ E.nx (((ρ.set i (some x)).set j (some y)).set l (some z)) ω1
theorem ds_par3 [Amb] {i j l : Nat} {x y z : Str} {px py pz pt : Pos} {kt k2 pt2} (hc : X.calm = true) (hN : X.N.Nodup) (hi : X.N[i]? = some x) (hj : X.N[j]? = some y) (hl : X.N[l]? = some z) (hij : i ≠ j) (hil : i ≠ l) (hjl : j ≠ l)
    (hx : X.env.scope.names.lookup x = some .local) (hy : X.env.scope.names.lookup y = some .local) (hz : X.env.scope.names.lookup z = some .local) (ha : DA X [a, b, c] T)
    (hw : swappedStores [.Tuple [.Name x px, .Name y py, .Name z pz] kt pt] (.Tuple [a, b, c] k2 pt2) X.env = pure (some [x, y, z]))
    (hs : swapsWithSole [.Tuple [.Name x px, .Name y py, .Name z pz] kt pt] (.Tuple [a, b, c] k2 pt2) pos.line X.env = pure false := by rfl) :
    DS X (.Assign [.Tuple [.Name x px, .Name y py, .Name z pz] kt pt] (.Tuple [a, b, c] k2 pt2) pos) (dPar3 i j l T) := by
  refine PS.weak (ps_par3 hc hN hi hj hl hij hil hjl hx hy hz ha hw hs) fun E σ H ⟨h, ρ, ω, e, sl, w, t, k1, k2, k3, k4⟩ => ?_
  refine ⟨h, ρ, ω, _, sl, w, t, fun xs ω1 vs H1 t1 f1 w1 rs => ?_⟩
  obtain ⟨x, y, z, rfl, t1⟩ := t1
  cases rs with
  | cons r1 rs =>
    obtain ⟨v, u, rfl, r2, r3⟩ := rs.two
    exact ⟨_, _, _, rfl, k1 _ _ _ _ t1 f1 w1 ((((sl.keep f1.kp).set r1 i).set r2 j).set r3 l)⟩
end
end DL

/-! DV: one step of a reading at a time. -/
namespace DL
open PySem PySem.Spec L2
section
variable {ρ : Rho} {ω ω' : Om} {Q : DQ} {E : DEnds} {Ta Tb Tc : TD} {A B : TTD} {t u : TSD} {g : TGD} {gs : TGsD} {us : TAD} {QB : Bool → Om → Prop} {QL : List D → Om → Prop} {QS : Rho → Om → Prop} {x y d : D} {xs ys : List D} {i j k : Int} {n m : Nat} {p : Addr} {s z : Str} {b : Bool} {o o' : DO2} {o1 : DO1} {on : DOn}
theorem st_seq (h : t { E with nx := u E } ρ ω) : dSeq t u E ρ ω := h
theorem st_next (h : E.nx ρ ω) : dNext E ρ ω := h
theorem st_asg (h : Ta ρ ω fun x ω1 => g x ρ ω1 E.nx) : dAsg Ta g E ρ ω := h
theorem st_ret (h : Ta ρ ω E.rt) : dRet Ta E ρ ω := h
theorem st_retN (h : E.rt .non ω) : dRetN E ρ ω := h
theorem st_drop (h : Ta ρ ω fun _ ω1 => E.nx ρ ω1) : dDrop Ta E ρ ω := h
theorem st_ifs (h : A ρ ω fun c ω1 => if c = true then t E ρ ω1 else u E ρ ω1) : dIfS A t u E ρ ω := h
theorem st_par {T : TAD} (h : T ρ ω fun xs ω1 => ∃ x y, xs = [x, y] ∧ E.nx ((ρ.set n (some x)).set m (some y)) ω1) : dPar n m T E ρ ω := h
theorem st_par' {Z : D → D → Prop} (h : Z x y) : ∃ x' y', [x, y] = [x', y'] ∧ Z x' y' := ⟨x, y, rfl, h⟩
theorem st_par3 {T : TAD} {l : Nat} (h : T ρ ω fun xs ω1 => ∃ x y z, xs = [x, y, z] ∧ E.nx (((ρ.set n (some x)).set m (some y)).set l (some z)) ω1) : dPar3 n m l T E ρ ω := h
theorem st_par3' {c : D} {Z : D → D → D → Prop} (h : Z x y c) : ∃ x' y' c', [x, y, c] = [x', y', c'] ∧ Z x' y' c' := ⟨x, y, c, rfl, h⟩
theorem st_name (h : QS (ρ.set n (some x)) ω) : dgName n x ρ ω QS := h
theorem st_gtup (l : xs.length = n) (h : gs xs ρ ω QS) : dgTup n gs (.tup xs) ρ ω QS := ⟨xs, rfl, l, h⟩
theorem st_gcons (h : g x ρ ω fun ρ' ω' => gs xs ρ' ω' QS) : dgCons g gs (x :: xs) ρ ω QS := ⟨x, xs, rfl, h⟩
theorem st_gnil (h : QS ρ ω) : dgNil [] ρ ω QS := ⟨rfl, h⟩
theorem st_var (e : ρ[n]? = some (some d)) (h : Q d ω) : dVar n ρ ω Q := ⟨d, e, h⟩
theorem st_c (h : Q d ω) : dC d ρ ω Q := h
theorem st_bin (h : Ta ρ ω fun x ω1 => Tb ρ ω1 fun y ω2 => o x y ω2 Q) : dBin o Ta Tb ρ ω Q := h
theorem st_un (h : Ta ρ ω fun x ω1 => o1 x ω1 Q) : dUn o1 Ta ρ ω Q := h
theorem st_neg (h : Q (.int (-i)) ω) : dNeg (.int i) ω Q := ⟨i, rfl, h⟩
theorem st_addI (h : Q (.int (i + j)) ω) : dAdd (.int i) (.int j) ω Q := h
theorem st_addT (l : xs.length + ys.length ≤ sizeLine) (h : Q (.tup (xs ++ ys)) ω) : dAdd (.tup xs) (.tup ys) ω Q := ⟨l, h⟩
theorem st_addL (l : xs.length + ys.length ≤ sizeLine) (h : Q (.lst (xs ++ ys)) ω) : dAdd (.lst xs) (.lst ys) ω Q := ⟨l, h⟩
theorem st_sub (h : Q (.int (i - j)) ω) : dSub (.int i) (.int j) ω Q := ⟨i, j, rfl, rfl, h⟩
theorem st_mulI (c : CMul i j) (h : Q (.int (i * j)) ω) : dMul (.int i) (.int j) ω Q := ⟨c, h⟩
theorem st_mod (c : 0 < j) (h : Q (.int (i % j)) ω) : dMod (.int i) (.int j) ω Q := ⟨i, j, rfl, rfl, c, h⟩
theorem st_fdv (c : CDivW i j) (h : Q (.int (i / j)) ω) : dFdv (.int i) (.int j) ω Q := ⟨i, j, rfl, rfl, c, h⟩
theorem st_pow (c : CPow i j) (h : Q (.int (i ^ j.toNat)) ω) : dPow (.int i) (.int j) ω Q := ⟨i, j, rfl, rfl, c, h⟩
theorem st_b0 {f : Int → Int → Bool} (h : Q (.bl (f i j)) ω) : dB0 f (.int i) (.int j) ω Q := ⟨i, j, rfl, rfl, h⟩
theorem st_eqI {neg : Bool} (h : Q (.bl (if neg then !decide (i = j) else decide (i = j))) ω) : dEq neg (.int i) (.int j) ω Q := h
theorem st_eqStr {neg : Bool} (h : Q (.bl (if neg then !decide (s = z) else decide (s = z))) ω) : dEq neg (.str s) (.str z) ω Q := h
theorem st_isN {neg : Bool} (h : Q (.bl (if neg then !isNonD x else isNonD x)) ω) : dIsN neg x .non ω Q := ⟨rfl, h⟩
theorem st_ixT (e : L2.atI xs i = some d) (h : Q d ω) : dIx (.tup xs) (.int i) ω Q := ⟨i, xs, d, rfl, .inl rfl, e, h⟩
theorem st_ixL (e : L2.atI xs i = some d) (h : Q d ω) : dIx (.lst xs) (.int i) ω Q := ⟨i, xs, d, rfl, .inr rfl, e, h⟩
theorem lst_raw (c : ω p = some (.lst xs)) : lstOf ω (.raw (.ref p)) = some xs := by
  simp only [lstOf, c]
theorem st_ixO (c : ω p = some (.lst xs)) (e : L2.atI xs i = some d) (h : Q d ω) : dIx (.raw (.ref p)) (.int i) ω Q := ⟨i, xs, d, rfl, .inr (lst_raw c), e, h⟩
theorem st_gsub (h : Ta ρ ω fun o ω1 => Tb ρ ω1 fun i ω2 => ∃ p k xs j, o = .raw (.ref p) ∧ i = .int k ∧ ω2 p = some (.lst xs) ∧ ixN xs.length k = some j ∧ QS ρ (oset ω2 p (.lst (xs.set j x)))) : dgSub Ta Tb x ρ ω QS := h
theorem st_gsub' {Z : Addr → List D → Nat → Prop} (c : ω p = some (.lst xs)) (e : ixN xs.length k = some n) (h : Z p xs n) : ∃ p' k' xs j, D.raw (.ref p) = .raw (.ref p') ∧ D.int k = .int k' ∧ ω p' = some (.lst xs) ∧ ixN xs.length k' = some j ∧ Z p' xs j :=
  ⟨p, k, xs, n, rfl, rfl, c, e, h⟩
theorem st_call {T : TAD} (h : T ρ ω fun xs ω1 => on xs ω1 Q) : dCall on T ρ ω Q := h
theorem st_cons (h : Ta ρ ω fun x ω1 => us ρ ω1 fun xs ω2 => QL (x :: xs) ω2) : dCons Ta us ρ ω QL := h
theorem st_nil (h : QL [] ω) : dNil ρ ω QL := h
theorem st_lst (h : us ρ ω fun xs ω1 => xs.length ≤ sizeLine ∧ Q (.lst xs) ω1) : dLst us ρ ω Q := h
theorem st_tup (h : us ρ ω fun xs ω1 => xs.length ≤ sizeLine ∧ Q (.tup xs) ω1) : dTup us ρ ω Q := h
theorem st_lstO (h : us ρ ω fun xs ω1 => xs.length ≤ sizeLine ∧ ∀ p, ω1 p = none → Q (.raw (.ref p)) (oset ω1 p (.lst xs))) : dLstO us ρ ω Q := h
theorem st_sz (l : xs.length ≤ sizeLine) {Z : Prop} (h : Z) : xs.length ≤ sizeLine ∧ Z := ⟨l, h⟩
theorem st_lenT (h : Q (.int xs.length) ω) : dLen [.tup xs] ω Q := ⟨_, rfl, .inl ⟨xs, .inl rfl, h⟩⟩
theorem st_lenL (h : Q (.int xs.length) ω) : dLen [.lst xs] ω Q := ⟨_, rfl, .inl ⟨xs, .inr rfl, h⟩⟩
theorem st_lenO (c : ω p = some (.lst xs)) (h : Q (.int xs.length) ω) : dLen [.raw (.ref p)] ω Q := ⟨_, rfl, .inl ⟨xs, .inr (lst_raw c), h⟩⟩
theorem st_tupT (h : Q (.tup xs) ω) : dTupOf [.tup xs] ω Q := ⟨_, xs, rfl, .inl rfl, h⟩
theorem st_tupL (h : Q (.tup xs) ω) : dTupOf [.lst xs] ω Q := ⟨_, xs, rfl, .inr rfl, h⟩
theorem st_lstT (h : Q (.lst xs) ω) : dLstOf [.tup xs] ω Q := ⟨_, xs, rfl, .inl rfl, h⟩
theorem st_lstL (h : Q (.lst xs) ω) : dLstOf [.lst xs] ω Q := ⟨_, xs, rfl, .inr rfl, h⟩
theorem st_abs (h : Q (.int (if i < 0 then -i else i)) ω) : dAbs [.int i] ω Q := ⟨i, rfl, h⟩
theorem st_ii {f : Int → Int → Int} (h : Q (.int (f i j)) ω) : dII f [.int i, .int j] ω Q := ⟨i, j, rfl, h⟩
theorem st_int1b (h : Q (.int (if b then 1 else 0)) ω) : dInt1 [.bl b] ω Q := .inr ⟨b, rfl, h⟩
theorem st_int1i (h : Q (.int i) ω) : dInt1 [.int i] ω Q := .inl ⟨i, rfl, h⟩
theorem st_dic0 (h : Q (.dic []) ω) : dDic0 ρ ω Q := h
theorem st_dic1 (h : Ta ρ ω fun x ω1 => Tb ρ ω1 fun y ω2 => ∃ s, x = .str s ∧ Q (.dic [(.inr s, y)]) ω2) : dDic1 Ta Tb ρ ω Q := h
theorem st_dic1' {Z : Str → Prop} (h : Z s) : ∃ s', D.str s = .str s' ∧ Z s' := ⟨s, rfl, h⟩
theorem st_tst (h : Ta ρ ω fun x ω1 => ∃ b, x = .bl b ∧ QB b ω1) : dTst Ta ρ ω QB := h
theorem st_bl {Z : Bool → Prop} (h : Z b) : ∃ b', D.bl b = .bl b' ∧ Z b' := ⟨b, rfl, h⟩
theorem st_andT (h : A ρ ω fun b ω1 => if b = true then B ρ ω1 QB else QB false ω1) : dAndT A B ρ ω QB := h
theorem st_orT (h : A ρ ω fun b ω1 => if b = true then QB true ω1 else B ρ ω1 QB) : dOrT A B ρ ω QB := h
theorem st_notT (h : A ρ ω fun b ω1 => QB (!b) ω1) : dNotT A ρ ω QB := h
theorem st_andV (h : Ta ρ ω fun x ω1 => ∃ c, x = .bl c ∧ if c = true then Tb ρ ω1 Q else Q (.bl false) ω1) : dAndV Ta Tb ρ ω Q := h
theorem st_orV (h : Ta ρ ω fun x ω1 => ∃ c, x = .bl c ∧ if c = true then Q (.bl true) ω1 else Tb ρ ω1 Q) : dOrV Ta Tb ρ ω Q := h
theorem st_notV (h : Ta ρ ω fun x ω1 => ∃ c, x = .bl c ∧ Q (.bl (!c)) ω1) : dNotV Ta ρ ω Q := h
theorem st_if (h : A ρ ω fun c ω1 => if c = true then Ta ρ ω1 Q else Tb ρ ω1 Q) : dIf A Ta Tb ρ ω Q := h
theorem st_chain (h : Ta ρ ω fun x ω1 => Tb ρ ω1 fun y ω2 => o x y ω2 fun z ω3 => ∃ k, z = .bl k ∧ if k = true then Tc ρ ω3 fun u ω4 => o' y u ω4 Q else Q (.bl false) ω3) : dChain o o' Ta Tb Tc ρ ω Q := h
theorem st_sl {Tl Th : TOD} (h : Ta ρ ω fun x ω1 => Tl ρ ω1 fun lo ω2 => Th ρ ω2 fun hi ω3 => (∃ xs, x = .tup xs ∧ Q (.tup (cutD xs lo hi)) ω3) ∨ ∃ xs, lstOf ω3 x = some xs ∧ Q (.lst (cutD xs lo hi)) ω3) : dSl Ta Tl Th ρ ω Q := h
theorem st_slT {Z Z' : List D → Prop} (h : Z xs) : (∃ ys, D.tup xs = .tup ys ∧ Z ys) ∨ ∃ ys, lstOf ω (.tup xs) = some ys ∧ Z' ys := .inl ⟨xs, rfl, h⟩
theorem st_slL {Z Z' : List D → Prop} (h : Z' xs) : (∃ ys, D.lst xs = .tup ys ∧ Z ys) ∨ ∃ ys, lstOf ω (.lst xs) = some ys ∧ Z' ys := .inr ⟨xs, rfl, h⟩
theorem st_nop {QO : Option Int → Om → Prop} (h : QO none ω) : dNoP ρ ω QO := h
theorem st_part {QO : Option Int → Om → Prop} (h : Ta ρ ω fun x ω1 => ∃ i, x = .int i ∧ QO (some i) ω1) : dPart Ta ρ ω QO := h
theorem st_int {Z : Int → Prop} (h : Z i) : ∃ i', D.int i = .int i' ∧ Z i' := ⟨i, rfl, h⟩
theorem st_dec {c : Prop} [Decidable c] {Y Z : Prop} (ht : c → Y) (hf : ¬c → Z) : if decide c = true then Y else Z := by
  by_cases h : c
  · rw [decide_eq_true h]; exact ht h
  · rw [decide_eq_false h]; exact hf h
theorem st_ndec {c : Prop} [Decidable c] {Y Z : Prop} (ht : ¬c → Y) (hf : c → Z) : if (!decide c) = true then Y else Z := by
  by_cases h : c
  · rw [decide_eq_true h]; exact hf h
  · rw [decide_eq_false h]; exact ht h
theorem st_isiT {t' n' : String} (hn : n' ∈ ["bool", "int", "str", "list", "tuple", "dict"]) (e : tyN x = some t') (eb : isN t' n' = true) (h : Q (.bl true) ω) : dIsi [x, .raw (.ty n')] ω Q := ⟨x, n', t', rfl, hn, e, by rw [eb]; exact h⟩
theorem st_isiF {t' n' : String} (hn : n' ∈ ["bool", "int", "str", "list", "tuple", "dict"]) (e : tyN x = some t') (eb : isN t' n' = false) (h : Q (.bl false) ω) : dIsi [x, .raw (.ty n')] ω Q := ⟨x, n', t', rfl, hn, e, by rw [eb]; exact h⟩
theorem st_T2 {Y Z : Prop} (h : Y) : if (!false) = true then Y else Z := h
theorem st_F2 {Y Z : Prop} (h : Z) : if (!true) = true then Y else Z := h
theorem st_nT (h : Q (.bl false) ω) : ∃ c, D.bl true = .bl c ∧ Q (.bl (!c)) ω := ⟨true, rfl, h⟩
theorem st_nF (h : Q (.bl true) ω) : ∃ c, D.bl false = .bl c ∧ Q (.bl (!c)) ω := ⟨false, rfl, h⟩
theorem st_T {Y Z : Prop} (h : Y) : if true = true then Y else Z := h
theorem st_F {Y Z : Prop} (h : Z) : if false = true then Y else Z := h
theorem st_ite {Y Z : Prop} (ht : b = true → Y) (hf : b = false → Z) : if b = true then Y else Z := by
  cases b with
  | true => exact ht rfl
  | false => exact hf rfl
end
end DL

/-! DK: what the laws' own helpers promise: the deck, a draw, a tower. -/
namespace DL
open PySem PySem.Spec L2
end DL
local macro_rules | `(tactic| walk_at "e1") => `(tactic| first | (with_reducible first | refine DL.st_seq ?_ | refine DL.st_next ?_ | refine DL.st_asg ?_ | refine DL.st_ret ?_ | refine DL.st_retN ?_ | refine DL.st_drop ?_ | refine DL.st_ifs ?_ | refine DL.st_par ?_ | refine DL.st_par' ?_ | refine DL.st_par3 ?_ | refine DL.st_par3' ?_ | refine DL.st_name ?_ | refine DL.st_gcons ?_ | refine DL.st_gnil ?_ | refine DL.st_c ?_ | refine DL.st_bin ?_ | refine DL.st_un ?_ | refine DL.st_neg ?_ | refine DL.st_addI ?_ | refine DL.st_sub ?_ | refine DL.st_b0 ?_ | refine DL.st_eqI ?_ | refine DL.st_eqStr ?_ | refine DL.st_isN ?_ | refine DL.st_gsub ?_ | refine DL.st_call ?_ | refine DL.st_cons ?_ | refine DL.st_nil ?_ | refine DL.st_lst ?_ | refine DL.st_tup ?_ | refine DL.st_lstO ?_ | refine DL.st_lenT ?_ | refine DL.st_lenL ?_ | refine DL.st_tupT ?_ | refine DL.st_tupL ?_ | refine DL.st_lstT ?_ | refine DL.st_lstL ?_ | refine DL.st_abs ?_ | refine DL.st_ii ?_ | refine DL.st_int1b ?_ | refine DL.st_int1i ?_ | refine DL.st_dic0 ?_ | refine DL.st_dic1 ?_ | refine DL.st_dic1' ?_ | refine DL.st_tst ?_ | refine DL.st_bl ?_ | refine DL.st_andT ?_ | refine DL.st_orT ?_ | refine DL.st_notT ?_ | refine DL.st_andV ?_ | refine DL.st_orV ?_ | refine DL.st_notV ?_ | refine DL.st_if ?_ | refine DL.st_chain ?_ | refine DL.st_sl ?_ | refine DL.st_slT ?_ | refine DL.st_slL ?_ | refine DL.st_nop ?_ | refine DL.st_part ?_ | refine DL.st_int ?_ | refine DL.st_T ?_ | refine DL.st_F ?_ | refine DL.st_T2 ?_ | refine DL.st_F2 ?_ | refine DL.st_nT ?_ | refine DL.st_nF ?_ | refine DL.st_lc ?_ | refine DL.st_lcO ?_ | refine DL.st_rng1 ?_ | refine DL.st_items ?_ | refine DL.st_itemsL ?_ | refine DL.st_itemsT ?_ | refine DL.st_enum ?_ | refine DL.st_enum' ?_ | refine DL.st_for ?_ | refine DL.st_tupRg ?_ | refine DL.st_p6 ?_ | refine DL.st_p18 ?_ | refine DL.st_p39 ?_) | ((with_reducible refine DL.st_var (d := ?d) ?e ?_); (case e => exact rfl)) | ((with_reducible refine DL.st_gtup ?e ?_); (case e => exact rfl)) | ((with_reducible refine DL.st_sz ?e ?_); (case e => (simp only [List.length_cons, List.length_nil]; decide))) | ((with_reducible refine DL.st_isiT (t' := ?t) ?n ?e ?b ?_); (case n => decide); (case e => exact rfl); (case b => decide)) | ((with_reducible refine DL.st_isiF (t' := ?t) ?n ?e ?b ?_); (case n => decide); (case e => exact rfl); (case b => decide)))
local macro_rules | `(tactic| walk_at "es") => `(tactic| repeat walk_at "e1")
namespace DL
open PySem PySem.Spec L2
/-- the deck: a list [cells, count] at a, its cells at p -/
def Deck (ω : Om) (a p : Addr) (N : Nat) : Prop := a ≠ p ∧ ∃ (cells : List Int) (n : Nat), ω a = some (.lst [.raw (.ref p), .int n]) ∧ ω p = some (.lst (cells.map D.int)) ∧ n ≤ N ∧ cells.length ≤ 63
/-- nothing else is owned -/
def Alone (ω : Om) (a p : Addr) : Prop := ∀ b, b ≠ a → b ≠ p → ω b = none
def DrawT : TSD := (dSeq (dAsg (dBin dAdd (dBin dIx (dVar 0) (dC (.int 1))) (dC (.int 1))) (dgSub (dVar 0) (dC (.int 1))))
    (dSeq (dAsg (dTup (dCons (dC (.int 0)) (dCons (dUn dNeg (dC (.int 1))) dNil))) (dgTup 2 (dgCons (dgName 2) (dgCons (dgName 3) dgNil))))
    (dSeq (dIfS (dTst (dBin dGt (dCall dLen (dCons (dBin dIx (dVar 0) (dC (.int 0))) dNil)) (dC (.int 0)))) (dSeq (dAsg (dBin dMod (dBin dIx (dVar 0) (dC (.int 1))) (dCall dLen (dCons (dBin dIx (dVar 0) (dC (.int 0))) dNil))) (dgName 3))
    (dAsg (dBin dIx (dBin dIx (dVar 0) (dC (.int 0))) (dVar 3)) (dgName 2))) dNext)
    (dSeq (dIfS (dTst (dBin dGe (dVar 2) (dBin dPow (dC (.int 10)) (dC (.int 18))))) (dSeq (dAsg (dBin dFdv (dVar 2) (dVar 1)) (dgSub (dBin dIx (dVar 0) (dC (.int 0))) (dVar 3)))
    (dRet (dBin dMod (dVar 2) (dVar 1)))) dNext)
    (dRet (dBin dMod (dBin dFdv (dBin dMod (dBin dPow (dBin dAdd (dBin dAdd (dBin dMod (dVar 2) (dC (.int 2147483587))) (dBin dMul (dC (.int 7919)) (dBin dIx (dVar 0) (dC (.int 1))))) (dC (.int 1))) (dC (.int 5))) (dC (.int 2147483647))) (dC (.int 7))) (dVar 1)))))))
/-- a draw: some number below the limit; the deck has been drawn from once more -/
def DrawS : SpD := fun ds ω R => ∃ a p N k, ds = [.raw (.ref a), .int k] ∧ 0 < k ∧ k < 2 ^ 100 ∧ Deck ω a p N ∧ N ≤ 2 ^ 40 ∧ ∀ (i : Int) ω', 0 ≤ i → i < k → Deck ω' a p (N + 1) → (∀ b, b ≠ a → b ≠ p → ω' b = ω b) → R (.int i) ω'
theorem atI_0 {α : Type} {x : α} {xs : List α} : L2.atI (x :: xs) 0 = some x := by
  unfold L2.atI L2.ixN
  simp
theorem atI_1 {α : Type} {x y : α} {xs : List α} : L2.atI (x :: y :: xs) 1 = some y := by
  unfold L2.atI L2.ixN
  have h : (1 : Int) < ((x :: y :: xs).length : Nat) := by simp only [List.length_cons]; omega
  rw [if_pos (by omega), if_pos h]
  rfl
theorem atI_nat {α : Type} {xs : List α} {i : Int} (h0 : 0 ≤ i) (h1 : i < (xs.length : Nat)) : L2.atI xs i = some (xs[i.toNat]'(by omega)) := by
  unfold L2.atI L2.ixN
  rw [if_pos h0, if_pos h1]
  exact List.getElem?_eq_getElem _
theorem ixN_nat {n : Nat} {i : Int} (h0 : 0 ≤ i) (h1 : i < (n : Nat)) : ixN n i = some i.toNat := by
  unfold L2.ixN
  rw [if_pos h0, if_pos h1]
theorem pow_lt64 {x : Int} (h0 : 0 ≤ x) (h1 : x < 2 ^ 63) : CPow x 5 := ⟨by decide, by decide, by omega⟩
theorem divW {i j : Int} (h0 : 0 < j) (h1 : j < 2 ^ 200) : CDivW i j := wide_div (b := 200) h0 (by omega) (by decide) (by decide)
end DL

/-! DN: values small enough to be written; picks from written lists; comprehensions and loops by what holds of them. -/
namespace DL
open PySem PySem.Spec L2
/-- may be written: nothing raw, so deep at most, so long at most -/
structure Nice (k n : Nat) (d : D) : Prop where
  ok : d.ok = true
  sh : d.py.showable = true
  dp : d.py.depth ≤ k
  sz : d.py.shown.length ≤ n
theorem Nice.mono {k n k' n' : Nat} {d : D} (h : Nice k n d) (a : k ≤ k') (b : n ≤ n') : Nice k' n' d := ⟨h.ok, h.sh, Nat.le_trans h.dp a, Nat.le_trans h.sz b⟩
structure NiceAll (k n : Nat) (xs : List D) : Prop where
  ok : okAll xs = true
  sh : PyData.showableAll (pyAll xs) = true
  dp : PyData.depthAll (pyAll xs) ≤ k
  sz : piled (PyData.shownAll (pyAll xs)) ≤ xs.length * (n + 2)
theorem nice_str {k n : Nat} {x : Str} (h : (reprText x).length ≤ n) : Nice k n (.str x) := ⟨rfl, rfl, Nat.zero_le _, by simpa only [D.py, PyData.shown] using h⟩
theorem all_nil {Y : D → Prop} : ∀ x ∈ ([] : List D), Y x := fun _ h => nomatch h
theorem all_cons {Y : D → Prop} {a : D} {xs : List D} (h : Y a) (t : ∀ x ∈ xs, Y x) : ∀ x ∈ a :: xs, Y x := fun x hx => by
  rcases List.mem_cons.mp hx with e | hx
  · rw [e]; exact h
  · exact t x hx
theorem all_app {Y : D → Prop} {xs ys : List D} (h : ∀ x ∈ xs, Y x) (t : ∀ x ∈ ys, Y x) : ∀ x ∈ xs ++ ys, Y x := fun x hx => (List.mem_append.mp hx).elim (h x) (t x)
section
variable {ρ : Rho} {ω : Om} {Q : DQ} {xs : List D} {i : Int}
/-- an item of a written list, whichever it is -/
theorem st_pick (Y : D → Prop) (h0 : 0 ≤ i) (h1 : i < (xs.length : Nat)) (all : ∀ x ∈ xs, Y x) (k : ∀ d, Y d → Q d ω) : dIx (.lst xs) (.int i) ω Q :=
  st_ixL (atI_nat h0 h1) (k _ (all _ (List.getElem_mem _)))
/-! ### comprehensions -/
variable {Ti : TID} {gd : TGD} {Tt : TTD} {Te : TD} {vs : List Nat} {P : Om → Prop} {F : List D → Om → Prop} {T : TAD}
theorem st_lc (h : Ti ρ ω fun xs P ω1 => lcBody gd Tt Te vs ρ xs P ω1 fun acc ω2 => Q (.lst acc) ω2) : dLc Ti gd Tt Te vs ρ ω Q := h
theorem st_lcO (h : Ti ρ ω fun xs P ω1 => lcBody gd Tt Te vs ρ xs P ω1 fun acc ω2 => ∀ p, ω2 p = none → Q (.raw (.ref p)) (oset ω2 p (.lst acc))) : dLcO Ti gd Tt Te vs ρ ω Q := h
variable {QI : List D → (Om → Prop) → Om → Prop} {n : Int}
theorem st_rng1 (h : T ρ ω fun xs ω1 => ∃ n : Int, xs = [.int n] ∧ -(2 ^ 62) ≤ n ∧ n < 2 ^ 62 ∧ QI (rngD 0 n.toNat) (fun _ => True) ω1) : dRng1 T ρ ω QI := h
theorem st_rng1' {Z : Int → Prop} (l : -(2 ^ 62) ≤ n) (u : n < 2 ^ 62) (h : Z n) : ∃ m : Int, [D.int n] = [.int m] ∧ -(2 ^ 62) ≤ m ∧ m < 2 ^ 62 ∧ Z m := ⟨n, rfl, l, u, h⟩
theorem st_tupRg {T : TAD} (h : T ρ ω fun xs ω1 => ∃ n, xs = [.int n] ∧ RgOk 0 n ∧ Q (.tup (rngD 0 n.toNat)) ω1) : dTupRg T ρ ω Q := h
theorem st_items (h : Ta ρ ω fun x ω1 => (∃ xs, seqD x = some xs ∧ QI xs (fun _ => True) ω1) ∨ ∃ p xs, x = .raw (.ref p) ∧ ω1 p = some (.lst xs) ∧ QI xs (fun ω => ω p = some (.lst xs)) ω1) : dItems Ta ρ ω QI := h
theorem st_itemsL {p : Prop} {Z : List D → Prop} (h : Z xs) : (∃ ys, seqD (.lst xs) = some ys ∧ Z ys) ∨ p := .inl ⟨xs, rfl, h⟩
theorem st_itemsT {p : Prop} {Z : List D → Prop} (h : Z xs) : (∃ ys, seqD (.tup xs) = some ys ∧ Z ys) ∨ p := .inl ⟨xs, rfl, h⟩
theorem st_enum (h : T ρ ω fun ds ω1 => ∃ xs, ds = [.tup xs] ∧ QI (enumD xs) (fun _ => True) ω1) : dEnum T ρ ω QI := h
theorem st_enum' {Z : List D → Prop} (h : Z xs) : ∃ ys, [D.tup xs] = [.tup ys] ∧ Z ys := ⟨xs, rfl, h⟩
/-- no test: each item gives some value with Y, the world keeps J -/
theorem lc_map (Y : D → D → Prop) (J : Nat → Om → Prop) (j0 : J 0 ω) (jp : ∀ i ω, J i ω → P ω) (sz : xs.length ≤ sizeLine)
    (step : ∀ i d ω (Z : DQ), xs[i]? = some d → J i ω → (∀ y ω', Y d y → J (i + 1) ω' → Z y ω') → gd d (wipeD ρ vs) ω fun ρ2 ω2 => Te ρ2 ω2 Z)
    (fin : ∀ acc ω, acc.length = xs.length → (∀ (i : Nat) y, acc[i]? = some y → ∃ d, xs[i]? = some d ∧ Y d y) → J xs.length ω → F acc ω) : lcBody gd dYes Te vs ρ xs P ω F := by
  refine ⟨fun i acc ω => i ≤ xs.length ∧ acc.length = i ∧ (∀ (j : Nat) y, acc[j]? = some y → ∃ d, xs[j]? = some d ∧ Y d y) ∧ J i ω, ⟨Nat.zero_le _, rfl, fun j y e => by simp at e, j0⟩, fun i acc ω h => jp i ω h.2.2.2, fun i d acc ω e h => ?_, fun acc ω h => fin acc ω h.2.1 h.2.2.1 h.2.2.2⟩
  obtain ⟨hi, hl, ha, hj⟩ := h
  have li : i < xs.length := (List.getElem?_eq_some_iff.mp e).1
  refine step i d ω _ e hj fun y ω' hy hj' => ⟨by omega, li, by rw [List.length_append, hl]; rfl, fun j z ez => ?_, hj'⟩
  by_cases hj2 : j < acc.length
  · rw [List.getElem?_append_left hj2] at ez
    exact ha j z ez
  · rw [List.getElem?_append_right (Nat.le_of_not_lt hj2)] at ez
    have ej : j - acc.length = 0 := by
      cases q : j - acc.length with
      | zero => rfl
      | succ m => rw [q] at ez; simp at ez
    have ej2 : j = i := by omega
    rw [ej] at ez
    cases ez
    subst ej2
    exact ⟨d, e, hy⟩
/-- a test and a value that are functions of the item; the world stays as it is -/
theorem lc_fun (t : D → Bool) (f : D → D) (sz : xs.length ≤ sizeLine) (hP : P ω)
    (step : ∀ d (Z : List D → Om → Prop) (acc : List D), d ∈ xs → acc.length < sizeLine → (t d = true → Z (acc ++ [f d]) ω) → (t d = false → Z acc ω) → gd d (wipeD ρ vs) ω fun ρ2 ω2 => Tt ρ2 ω2 fun b ω3 => if b = true then Te ρ2 ω3 fun y ω4 => acc.length < sizeLine ∧ Z (acc ++ [y]) ω4 else Z acc ω3)
    (fin : F ((xs.filter t).map f) ω) : lcBody gd Tt Te vs ρ xs P ω F := by
  refine ⟨fun i acc ω' => i ≤ xs.length ∧ acc = ((xs.take i).filter t).map f ∧ ω' = ω, ⟨Nat.zero_le _, rfl, rfl⟩, fun i acc ω' h => h.2.2 ▸ hP, fun i d acc ω' e h => ?_, fun acc ω' h => ?_⟩
  · obtain ⟨hi, rfl, rfl⟩ := h
    obtain ⟨li, ed⟩ := List.getElem?_eq_some_iff.mp e
    have tk : xs.take (i + 1) = xs.take i ++ [d] := by rw [List.take_succ, e]; rfl
    have ll : (((xs.take i).filter t).map f).length < sizeLine := by
      rw [List.length_map]
      have := List.length_filter_le t (xs.take i)
      rw [List.length_take] at this
      omega
    refine step d (fun acc' ω'' => i + 1 ≤ xs.length ∧ acc' = ((xs.take (i + 1)).filter t).map f ∧ ω'' = ω') _ (List.mem_of_getElem? e) ll (fun ht => ⟨li, ?_, rfl⟩) fun ht => ⟨li, ?_, rfl⟩
    · rw [tk, List.filter_append, List.map_append]
      simp [ht]
    · rw [tk, List.filter_append, List.map_append]
      simp [ht]
  · obtain ⟨_, rfl, rfl⟩ := h
    rw [List.take_length] at *
    exact fin
/-- a loop: what holds of its slots and the world between two turns -/
theorem st_for {E : DEnds} {g : TGD} {Tb : TSD} (h : Ti ρ ω fun xs P ω1 => ∃ I : Nat → Rho → Om → Prop, I 0 ρ ω1 ∧ (∀ i ρ ω, I i ρ ω → P ω) ∧ (∀ i d ρ ω, xs[i]? = some d → I i ρ ω → g d ρ ω fun ρ2 ω2 => Tb { E with nx := I (i + 1), ct := I (i + 1), bk := E.nx } ρ2 ω2) ∧ ∀ ρ ω, I xs.length ρ ω → E.nx ρ ω) : dFor Ti g Tb E ρ ω := h
end
end DL
namespace DL
open PySem PySem.Spec L2
section
variable {ρ : Rho} {ω : Om} {Q : DQ} {xs : List D} {i k : Int} {a p : Addr} {N : Nat}
theorem st_p6 (h : Q (.int 1000000) ω) : dPow (.int 10) (.int 6) ω Q := st_pow ⟨by decide, by decide, by decide⟩ h
theorem st_p18 (h : Q (.int 1000000000000000000) ω) : dPow (.int 10) (.int 18) ω Q := st_pow ⟨by decide, by decide, by decide⟩ h
theorem st_p39 (h : Q (.int 1000000000000000000000000000000000000000) ω) : dPow (.int 10) (.int 39) ω Q := st_pow ⟨by decide, by decide, by decide⟩ h
theorem cut_to {α : Type} {xs : List α} {k : Int} (h : 0 ≤ k) : cutD xs none (some k) = xs.take k.toNat := by
  unfold cutD
  have e : HT.sIx xs.length xs.length (some k) = min k.toNat xs.length := by
    have := HT.sIx_nat xs.length xs.length k.toNat
    rw [Int.toNat_of_nonneg h] at this
    exact this
  rw [e, HT.sIx_none, List.drop_zero, Nat.sub_zero]
  by_cases l : k.toNat ≤ xs.length
  · rw [Nat.min_eq_left l]
  · rw [Nat.min_eq_right (by omega), List.take_length, List.take_of_length_le (by omega)]
theorem cut_from {α : Type} {xs : List α} {k : Int} (h : 0 ≤ k) : cutD xs (some k) none = xs.drop k.toNat := by
  unfold cutD
  have e : HT.sIx xs.length 0 (some k) = min k.toNat xs.length := by
    have := HT.sIx_nat xs.length 0 k.toNat
    rw [Int.toNat_of_nonneg h] at this
    exact this
  rw [e, HT.sIx_none]
  by_cases l : k.toNat ≤ xs.length
  · rw [Nat.min_eq_left l, List.take_of_length_le (by rw [List.length_drop]; omega)]
  · rw [Nat.min_eq_right (by omega), List.drop_length, List.drop_of_length_le (by omega)]
    simp
theorem ints_of : ∀ {xs : List D}, (∀ x ∈ xs, ∃ i, x = .int i) → ∃ ns : List Int, xs = ns.map D.int
  | [], _ => ⟨[], rfl⟩
  | x :: xs, h => by
    obtain ⟨i, e⟩ := h x (by simp)
    obtain ⟨ns, e2⟩ := ints_of fun y hy => h y (List.mem_cons_of_mem _ hy)
    exact ⟨i :: ns, by rw [e, e2]; rfl⟩
theorem flat_ints : ∀ ns : List Int, flatAll (ns.map D.int) = true
  | [] => rfl
  | n :: ns => by simp [flatAll, D.flat, flat_ints ns]
theorem lay_ints : ∀ ns : List Int, PyData.canLayAll0 (pyAll (ns.map D.int)) = true ∧ PyData.depthAll (pyAll (ns.map D.int)) = 0
  | [] => ⟨rfl, rfl⟩
  | n :: ns => by
    obtain ⟨h1, h2⟩ := lay_ints ns
    simp [pyAll, D.py, PyData.canLayAll0, PyData.canLay0, PyData.depthAll, PyData.depth, h1, h2]
/-- the deck, and nothing else owned -/
def DeckA (ω : Om) (a p : Addr) (N : Nat) : Prop := Deck ω a p N ∧ Alone ω a p
theorem DeckA.le {M : Nat} (h : DeckA ω a p N) (l : N ≤ M) : DeckA ω a p M := by
  obtain ⟨⟨n, c, m, h1, h2, h3, h4⟩, al⟩ := h
  exact ⟨⟨n, c, m, h1, h2, Nat.le_trans h3 l, h4⟩, al⟩
end
end DL

/-! DU: a tuple turned round, sorted(set(t)) of ints, != of lists of two lengths, in, is of truth values. -/
namespace DL
open PySem PySem.Spec PyProof.Rows L2 HT
/-! ### lists of two lengths -/
section
variable {X : Cx} {K : PySem.W.Frag}
def rNeL (K : PySem.W.Frag) : R2 := fun x y H Q => ∃ a b xs ys, x = .ref a ∧ y = .ref b ∧ SqL K H a xs ∧ SqL K H b ys ∧ xs.length ≠ ys.length ∧ Q (.bl true) H
def dNeL : DO2 := fun x y ω Q => ∃ xs ys, x = .lst xs ∧ y = .lst ys ∧ xs.length ≠ ys.length ∧ Q (.bl true) ω
def dOr2 (o o' : DO2) : DO2 := fun x y ω Q => o x y ω Q ∨ o' x y ω Q
/-! ### is, of truth values -/
def dIsB : DO2 := fun x y ω Q => ∃ a b, x = .bl a ∧ y = .bl b ∧ Q (.bl (decide (a = b))) ω
/-! ### in, of ints -/
def dIn (neg : Bool) : DO2 := fun x y ω Q => ∃ (i : Int) (ns : List Int), x = .int i ∧ (y = .lst (ns.map D.int) ∨ y = .tup (ns.map D.int)) ∧ Q (.bl (if neg then !decide (i ∈ ns) else decide (i ∈ ns))) ω
theorem inV_ints {i : Int} : ∀ ns : List Int, inV (.int i) (ns.map V.int) = decide (i ∈ ns)
  | [] => by simp [inV]
  | n :: ns => by
    have ih := inV_ints (i := i) ns
    unfold inV at ih ⊢
    rw [List.map_cons, List.any_cons, ih]
    by_cases e : n = i
    · subst e; simp [eqV]
    · have e' : i ≠ n := fun z => e z.symm
      simp [eqV, e, e']
theorem ok_inI [Amb] {neg : Bool} : OpD K (dIn neg) (rIn K neg) := by
  intro h x y ω R vx vy H Q ⟨i, ns, ex, ey, q⟩ w rx ry k
  subst ex
  cases rx
  have fl : (ns.map V.int).all flatV = true := by simp [flatV]
  rcases ey with ey | ey
  · subst ey
    cases ry with
    | lst s r =>
      have z := r.ints
      subst z
      refine ⟨_, _, rfl, .inl s.sq, rfl, fl, ?_⟩
      rw [inV_ints]
      exact k.self w q (.bl _)
  · subst ey
    cases ry with
    | tup s r =>
      have z := r.ints
      subst z
      refine ⟨_, _, rfl, .inr s.sq, rfl, fl, ?_⟩
      rw [inV_ints]
      exact k.self w q (.bl _)
end
/-! ### a tuple turned round -/
section
variable {P : Program} {w : World} {A : Around} {E : Value → Shared → Prop} {s : Shared}
theorem applied_back {sl : Addr} {v1 v2 v3 : Value} {n : Nat} {Q : Int × Int × Nat → Shared → Prop} (hs : s.heap.IsSliceOf sl v1 v2 v3) (p1 : IsPart v1 .none) (p2 : IsPart v2 .none) (p3 : IsPart v3 (some (-1)))
    (h : Q ((n : Int) - 1, -1, n) s) : wpAny (model P w) A (Builtin.Slice.sliceApplied (.ref sl) (pure (n : Int))) Q E s := by
  obtain ⟨o, ho, _, hd⟩ := id hs
  unfold Builtin.Slice.sliceApplied Builtin.Slice.sliceFields
  refine wpAny_bind (wpAny_bind (wpAny_field ho hd (x := v1) rfl (wpAny_bind (wpAny_field ho hd (x := v2) rfl (wpAny_bind (wpAny_field ho hd (x := v3) rfl (wpAny_pure ?_)))))))
  refine wpAny_bind (slicePart_ p3 ?_)
  show wpAny _ _ (if ((-1 : Int) == 0) = true then _ else _) _ _ s
  rw [if_neg (by decide)]
  refine wpAny_bind (slicePart_ p1 (wpAny_bind (slicePart_ p2 (wpAny_bind (wpAny_pure ?_)))))
  have e : Builtin.Slice.slicePlaces ((n : Int) - 1) (-1) (-1) = n := by
    unfold Builtin.Slice.slicePlaces
    rw [if_neg (by decide)]
    by_cases z : (n : Int) - 1 > -1
    · rw [if_pos z, show (-(-1) : Int) = 1 by decide, Int.ediv_one]
      omega
    · rw [if_neg z]
      omega
  show wpAny _ _ (pure ((n : Int) - 1, (-1 : Int), Builtin.Slice.slicePlaces ((n : Int) - 1) (-1) (-1))) _ _ s
  rw [e]
  exact wpAny_pure h
theorem fm_congr {α β : Type} {f g : α → Option β} : ∀ l : List α, (∀ x ∈ l, f x = g x) → l.filterMap f = l.filterMap g
  | [], _ => rfl
  | x :: l, h => by
    rw [List.filterMap_cons, List.filterMap_cons, h x (by simp), fm_congr l fun y hy => h y (List.mem_cons_of_mem _ hy)]
theorem pick_back (xs : Array Value) : ((List.range xs.size).filterMap fun (m : Nat) => xs[((xs.size : Int) - 1 + (m : Int) * (-1)).toNat]?).toArray = xs.toList.reverse.toArray := by
  have e : (List.range xs.size).filterMap (fun (m : Nat) => xs[((xs.size : Int) - 1 + (m : Int) * (-1)).toNat]?) = ((List.range xs.size).map fun k => xs.size - 1 - k).filterMap (xs[·]?) := by
    rw [List.filterMap_map]
    refine fm_congr _ fun m hm => ?_
    have := List.mem_range.mp hm
    have e2 : ((xs.size : Int) - 1 + (m : Int) * (-1)).toNat = xs.size - 1 - m := by omega
    rw [e2]
    rfl
  rw [e, PySem.W.krv_range, List.filterMap_reverse, PySem.W.krv_all]
theorem getItem_tup_back {t sl : Addr} {items : Array Value} {v1 v2 v3 : Value} {Q : Value → Shared → Prop} (ht : IsTup s.heap t items) (hs : s.heap.IsSliceOf sl v1 v2 v3) (p1 : IsPart v1 .none) (p2 : IsPart v2 .none) (p3 : IsPart v3 (some (-1)))
    (h : Q (.ref s.heap.objs.size) { s with heap := s.heap.push { cls := .type "tuple", data := .seq items.toList.reverse.toArray } }) (hz : items.size ≤ sizeLine) : wpAny (model P w) A (getItem (.ref t) (.ref sl)) Q E s := by
  have sz : sizeOk (.seq items.toList.reverse.toArray) := by
    show items.toList.reverse.toArray.size ≤ sizeLine
    rw [List.size_toArray, List.length_reverse, Array.length_toList]
    exact hz
  obtain ⟨o, ho, hc, _⟩ := id hs
  have ty : s.TypeIs (.ref sl) "slice" := ⟨o, ho, hc⟩
  unfold getItem
  try (with_reducible refine wpAny_holding ?_)
  first | (refine wpAny_bind (wpAny_pure ?_)) | skip
  refine wpAny_bind (wpAny_sequenceKey ht.typeIs (by decide) ?_)
  refine wpAny_bind (wpAny_callSpecial?_slot (name := Str.ofString "__getitem__") ht.typeIs PyProof.Rows.slot_tuple_getitem (wpAny_call_entry PyProof.Rows.slot_tuple_getitem ht.typeIs entry_tuple_getitem ?_ (args_tuple_getitem _ _)))
  show wpAny _ _ (Builtin.Tuple.tupleItemsOf (.ref t) >>= _) _ _ s
  refine wpAny_bind (tupleItemsOf_ ht ?_)
  refine wpAny_bind (wpAny_typeOf ty ?_)
  rw [if_pos (by decide)]
  refine wpAny_bind (applied_back hs p1 p2 p3 ?_)
  have no : ¬ ((((items.size : Int) - 1) == 0 && (-1 : Int) == 1 && items.size == items.size) = true) := by simp
  show wpAny _ _ (if (((items.size : Int) - 1) == 0 && (-1 : Int) == 1 && items.size == items.size) = true then _ else _) _ _ s
  rw [if_neg no, pick_back]
  first
    | (exact wpAny_bind (m := Builtin.Tuple.tupleExact _) (wpAny_newObj_type (wpAny_pure ⟨_, rfl, wpAny_pure h⟩) sz))
    | (exact wpAny_bind (m := Builtin.Tuple.tupleExact _) (wpAny_newObj_type (wpAny_bind (wpAny_pure (wpAny_pure ⟨_, rfl, wpAny_pure h⟩))) sz))
    | (exact wpAny_bind (wpAny_bind (m := Builtin.Tuple.tupleExact _) (wpAny_newObj_type (wpAny_pure (wpAny_pure ⟨_, rfl, wpAny_pure h⟩)) sz)))
    | (exact wpAny_bind (wpAny_bind (m := Builtin.Tuple.tupleExact _) (wpAny_newObj_type (wpAny_pure ⟨_, rfl, wpAny_pure h⟩) sz)))
end
section
variable {X : Cx} {a e : Expr} {Ta : TD}
def tRevU (K : PySem.W.Frag) (te : TE) : TE := fun σ H Q => te σ H fun x H1 => ∃ a xs, x = .ref a ∧ SqT K H1 a xs ∧ ∀ p, H1 p = none → Q (.ref p) (upd H1 p (.tup xs.reverse))
theorem pe_revU {te : TE} {k : Nat} {p1 p2 p3 pos : Pos} (he : PE X e te) : PE X (.Subscript e (.Slice none none (some (.UnaryOp .USub (.Constant (.int 1) k p1) p2)) p3) pos) (tRevU X.K te) := by
  refine ⟨fun pins s σ H Q I h => ?_⟩
  refine Subscript_ (thn (he.run pins s σ H _ I h) fun v s1 ⟨x, H1, I1, r1, q1⟩ => ?_)
  obtain ⟨a, xs, ex, hx, q⟩ := q1
  subst ex
  cases r1
  have st : PO X (some (.UnaryOp .USub (.Constant (.int 1) k p1) p2)) (tPart (tUn (rU fun i => .int (-i)) (tC (.int 1)))) := po_some (pe_un un_neg pe_int)
  refine wpAny_Slice (thn (po_none.run pins s1 σ H1 (fun o G => o = none ∧ G = H1) I1 ⟨rfl, rfl⟩) fun vl s2 ⟨l, H2, I2, pl, el, e2⟩ => ?_)
  subst el
  subst e2
  refine thn (po_none.run pins s2 σ H2 (fun o G => o = none ∧ G = H2) I2 ⟨rfl, rfl⟩) fun vu s3 ⟨u, H3, I3, pu, eu, e3⟩ => ?_
  subst eu
  subst e3
  refine thn (st.run pins s3 σ H3 (fun o G => o = some (-1) ∧ G = H3) I3 ⟨1, rfl, -1, rfl, rfl, rfl⟩) fun vs s4 ⟨o, H4, I4, ps, eo, e4⟩ => ?_
  subst eo
  subst e4
  have I5 : Inv X pins σ H4 { s4 with heap := s4.heap.push { cls := .type "slice", data := .fields #[vl, vu, vs] } } := I4.kept (t' := s4.toks) fun _ _ q => Heap.get?_push_of_some _ q
  obtain ⟨its, r, ht, hz⟩ := I5.tuple hx
  have hlen := r.length
  show wpAny (model X.prog X.w) X.A (subscriptTail e (.Slice none none (some (.UnaryOp .USub (.Constant (.int 1) k p1) p2)) p3) (.ref a) (.ref s4.heap.objs.size)) (EP X pins σ Q) X.xe { s4 with heap := s4.heap.push { cls := .type "slice", data := .fields #[vl, vu, vs] } }
  refine tail_any (ops := [.ref a, .ref s4.heap.objs.size]) ht.typeIs (PyProof.Rows.slot_tuple_getitem.lookup) ?_ (by with_unfolding_all rfl)
  refine getItem_tup_back ht (Heap.IsSliceOf.new _ vl vu vs) pl pu ps ?_ (by rw [List.size_toArray]; omega)
  exact ⟨.ref _, _, I5.laid (t' := s4.toks) (o := .tup xs.reverse) (fun _ _ q => Heap.get?_push_of_some _ q) (Nat.le_refl _) ⟨by rw [List.length_reverse]; exact hz, _, r.reverse, ⟨_, Heap.get?_push_size _ rfl, rfl, 0, rfl⟩⟩, rfl, q _ (I5.hok.fresh (Nat.le_refl _))⟩
def dRev (Ta : TD) : TD := fun ρ ω Q => Ta ρ ω fun x ω1 => ∃ xs, x = .tup xs ∧ Q (.tup xs.reverse) ω1
theorem de_rev [Amb] {k : Nat} {p1 p2 p3 pos : Pos} (ha : DE X a Ta) : DE X (.Subscript a (.Slice none none (some (.UnaryOp .USub (.Constant (.int 1) k p1) p2)) p3) pos) (dRev Ta) := by
  refine PE.weak (pe_revU ha) fun σ H Q ⟨h, ρ, ω, R, sl, w, t, k⟩ => ?_
  refine ⟨h, ρ, ω, _, sl, w, t, fun x ω1 v H1 t1 f1 w1 r1 => ?_⟩
  obtain ⟨xs, e, q⟩ := t1
  subst e
  cases r1 with
  | tup s r => exact ⟨_, _, rfl, s.sq, fun p e => (k.go f1).ntup w1 q r.rev e⟩
end
/-! ### sorted(set(t)) -/
section
variable {X : Cx} {a : Expr} {Ta : TD} {p p1 p2 pos : Pos}
def rSetI (K : PySem.W.Frag) (w : World) : List V → Hp → VK → Prop := fun vs H Q => ∃ (l : Addr) (ns : List Int), vs = [V.ref l] ∧ SqT K H l (ns.map V.int) ∧ ns.length < 64 ∧
  ∀ a n, H a = none → n ≤ ns.length → Q (.ref a) (upd H a (SetO w a (fun j => decide (j ∈ ns)) n))
def dSoSet (Ta : TD) : TD := fun ρ ω Q => Ta ρ ω fun x ω1 => ∃ ns : List Int, x = .tup (ns.map D.int) ∧ ns.length < 64 ∧ ∀ ns' : List Int, ns'.Pairwise (· < ·) → (∀ k : Int, k ∈ ns' ↔ k ∈ ns) → Q (.lst (ns'.map D.int)) ω1
end
end DL
namespace DL
open PySem PySem.Spec L2
section
variable {ρ : Rho} {ω : Om} {Q : DQ} {xs ys : List D} {i : Int} {ns : List Int} {Ta : TD} {neg : Bool} {x y : D}
theorem st_yes {QB : Bool → Om → Prop} (h : QB true ω) : dYes ρ ω QB := h
theorem st_rev (h : Ta ρ ω fun x ω1 => ∃ xs, x = .tup xs ∧ Q (.tup xs.reverse) ω1) : dRev Ta ρ ω Q := h
theorem st_rev' {Z : List D → Prop} (h : Z xs) : ∃ ys, D.tup xs = .tup ys ∧ Z ys := ⟨xs, rfl, h⟩
theorem st_soSet (h : Ta ρ ω fun x ω1 => ∃ ns : List Int, x = .tup (ns.map D.int) ∧ ns.length < 64 ∧ ∀ ns' : List Int, ns'.Pairwise (· < ·) → (∀ k : Int, k ∈ ns' ↔ k ∈ ns) → Q (.lst (ns'.map D.int)) ω1) : dSoSet Ta ρ ω Q := h
theorem st_isB {a b : Bool} (h : Q (.bl (decide (a = b))) ω) : dIsB (.bl a) (.bl b) ω Q := ⟨a, b, rfl, rfl, h⟩
theorem st_inL (h : Q (.bl (if neg then !decide (i ∈ ns) else decide (i ∈ ns))) ω) : dIn neg (.int i) (.lst (ns.map D.int)) ω Q := ⟨i, ns, rfl, .inl rfl, h⟩
theorem eqv_ints : ∀ ns ms : List Int, PyData.eqvAll (pyAll (ns.map D.int)) (pyAll (ms.map D.int)) = decide (ns = ms)
  | [], [] => by simp [pyAll, PyData.eqvAll]
  | [], _ :: _ => by simp [pyAll, PyData.eqvAll]
  | _ :: _, [] => by simp [pyAll, PyData.eqvAll]
  | n :: ns, m :: ms => by
    have ih := eqv_ints ns ms
    simp only [List.map_cons, pyAll, D.py, PyData.eqvAll, ih, PyData.eqv]
    by_cases e : n = m <;> by_cases e2 : ns = ms <;> simp [e, e2]
/-- two lists of the same two texts -/
theorem st_neStr2 {s : Str} (ok : PyData.strOk s = true) (h : Q (.bl false) ω) : dEq true (.lst [.str s, .str s]) (.lst [.str s, .str s]) ω Q := by
  show eqD _ _ ∧ Q _ ω
  refine ⟨⟨rfl, rfl, ?_, ?_⟩, ?_⟩
  · simp [SeqAt.shaped, D.py, pyAll, PyData.canLay0, PyData.canLayAll0, PyData.depth, PyData.depthAll, ok]
  · simp [SeqAt.shaped, D.py, pyAll, PyData.canLay0, PyData.canLayAll0, PyData.depth, PyData.depthAll, ok]
  · have e : PyData.eqv (D.lst [.str s, .str s]).py (D.lst [.str s, .str s]).py = true := by simp [D.py, pyAll, PyData.eqv, PyData.eqvAll]
    rw [e]
    exact h
variable {Ti : TID} {gd : TGD} {Tt : TTD} {Te : TD} {vs : List Nat} {P : Om → Prop} {F : List D → Om → Prop}
/-- some of the items, each kept one with Y; the world goes on as J says -/
theorem lc_any (Y : D → Prop) (J : Nat → Om → Prop) (j0 : J 0 ω) (jp : ∀ i ω, J i ω → P ω) (sz : xs.length ≤ sizeLine)
    (step : ∀ i d ω (Z : List D → Om → Prop) (acc : List D), xs[i]? = some d → J i ω → acc.length < sizeLine → (∀ y ω', Y y → J (i + 1) ω' → Z (acc ++ [y]) ω') → (∀ ω', J (i + 1) ω' → Z acc ω') →
      gd d (wipeD ρ vs) ω fun ρ2 ω2 => Tt ρ2 ω2 fun b ω3 => if b = true then Te ρ2 ω3 fun y ω4 => acc.length < sizeLine ∧ Z (acc ++ [y]) ω4 else Z acc ω3)
    (fin : ∀ acc ω, acc.length ≤ xs.length → (∀ y ∈ acc, Y y) → J xs.length ω → F acc ω) : lcBody gd Tt Te vs ρ xs P ω F := by
  refine ⟨fun i acc ω => i ≤ xs.length ∧ acc.length ≤ i ∧ (∀ y ∈ acc, Y y) ∧ J i ω, ⟨Nat.zero_le _, Nat.le_refl _, fun y hy => (nomatch hy), j0⟩, fun i acc ω h => jp i ω h.2.2.2, fun i d acc ω e h => ?_, fun acc ω h => fin acc ω h.2.1 h.2.2.1 h.2.2.2⟩
  obtain ⟨hi, hl, ha, hj⟩ := h
  have li : i < xs.length := (List.getElem?_eq_some_iff.mp e).1
  refine step i d ω (fun acc' ω' => i + 1 ≤ xs.length ∧ acc'.length ≤ i + 1 ∧ (∀ y ∈ acc', Y y) ∧ J (i + 1) ω') acc e hj (by omega) (fun y ω' hy hj' => ⟨li, ?_, all_app ha (all_cons hy all_nil), hj'⟩) fun ω' hj' => ⟨li, by omega, ha, hj'⟩
  rw [List.length_append]
  exact Nat.add_le_add_right hl 1
theorem sorted_eq : ∀ {as bs : List Int}, as.Pairwise (· < ·) → bs.Pairwise (· < ·) → (∀ k, k ∈ as ↔ k ∈ bs) → as = bs
  | [], [], _, _, _ => rfl
  | [], b :: bs, _, _, h => absurd ((h b).mpr (by simp)) (by simp)
  | a :: as, [], _, _, h => absurd ((h a).mp (by simp)) (by simp)
  | a :: as, b :: bs, pa, pb, h => by
    obtain ⟨ha, qa⟩ := List.pairwise_cons.mp pa
    obtain ⟨hb, qb⟩ := List.pairwise_cons.mp pb
    have e : a = b := by
      rcases List.mem_cons.mp ((h a).mp (by simp)) with z | z
      · exact z
      · rcases List.mem_cons.mp ((h b).mpr (by simp)) with y | y
        · exact y.symm
        · have := hb a z
          have := ha b y
          omega
    subst e
    have ih : as = bs := sorted_eq qa qb fun k => ⟨fun hk => by
      rcases List.mem_cons.mp ((h k).mp (List.mem_cons_of_mem _ hk)) with z | z
      · have := ha k hk
        omega
      · exact z, fun hk => by
      rcases List.mem_cons.mp ((h k).mpr (List.mem_cons_of_mem _ hk)) with z | z
      · have := hb k hk
        omega
      · exact z⟩
    rw [ih]
end
end DL

/-! DW: set(xs) of a list of ints, sorted of ints, owned lists that grow. -/
namespace DL
open PySem PySem.Spec PyProof.Rows L2 HT
section
variable {P : Program} {w : World} {A : Around} {E : Value → Shared → Prop} {s : Shared}
set_option quotPrecheck false
set_option maxHeartbeats 8000000 in
/-- as for a tuple, of a list -/
theorem call_set_lstI {l : Addr} {items : Array Value} (ns : List Int) {Q : Value → Shared → Prop} (hh : A.handled = none) (hl : s.heap.IsList l items) (it : IntsAre items.toList ns) (few : ns.length + 1 < scanBound)
    (h : ∀ (g : Heap) (tk c : Nat), SetR w g s.heap.objs.size (fun j => decide (j ∈ ns)) c → c ≤ ns.length → (∀ b o, s.heap.get? b = some o → g.get? b = some o) → Q (.ref s.heap.objs.size) { s with heap := g, toks := tk }) :
    wpAny (model P w) A (call (.type "set") [.ref l]) Q E s := by
  have size : items.size = ns.length := by
    have q := IntsAre.length it
    rwa [Array.length_toList] at q
  obtain ⟨c, tl, mro⟩ := F.called_set.mro
  have made := F.called_set.made
  have sub := F.called_set.sub
  (refine wpAny_call (codeAny_of_tree ?_); show wpAny _ _ (callAny (.type "set") _) _ _ _)
  (refine wpAny_pure ⟨Code.quiet_builtin _ (by decide +kernel), codeAny_builtin F.entry_type_call ?_⟩; rw [Around.under_plain (weight_type_call_type "set" [.ref l] []) rfl])
  have a1 := F.called_set.notType
  have a2 := F.called_set.canCreate
  have a3 := F.typeCall_set_1 (.ref l)
  (repeat (any_goals (first | assumption | wp_step)))
  refine codeAny_mono (code_set_led1 (.ref l) (E := E) (Q₁ := fun v z => v = .ref s.heap.objs.size ∧ z = { s with heap := s.heap.push ({ cls := .type "set", dict := none, data := .set #[] 0 (.fresh 0 0 (!w.params.followText "set-order")) } : Obj) }) ⟨rfl, rfl⟩) fun r z hr => ?_
  cases r with
  | error e => exact hr
  | ok fl => cases fl with
    | ret v =>
      obtain ⟨rfl, rfl⟩ := hr
      have gS : (s.heap.push ({ cls := .type "set", dict := none, data := .set #[] 0 (.fresh 0 0 (!w.params.followText "set-order")) } : Obj)).get? s.heap.objs.size = some ({ cls := .type "set", dict := none, data := .set #[] 0 (.fresh 0 0 (!w.params.followText "set-order")) } : Obj) := Heap.get?_push_size _ rfl
      have gT : Shared.TypeIs { s with heap := s.heap.push ({ cls := .type "set", dict := none, data := .set #[] 0 (.fresh 0 0 (!w.params.followText "set-order")) } : Obj) } (.ref s.heap.objs.size) "set" := ⟨_, gS, rfl⟩
      have b1 := F.called_set.init.lookup
      have b2 := F.called_set.init.bind (.ref s.heap.objs.size)
      (repeat (any_goals (first | assumption | wp_step)))
      refine codeAny_mono (codeAny_call_builtin (R := wants (fun r y => r = .none ∧ ∃ g tk c, y = { s with heap := g, toks := tk } ∧ SetR w g s.heap.objs.size (fun j => decide (j ∈ ns)) c ∧ c ≤ ns.length ∧ (∀ b o, s.heap.get? b = some o → g.get? b = some o)) E) F.called_set.init.plain F.entry_set_init (check_set_init_1 gT ?_)) fun r2 y2 hr2 => ?_
      · obtain ⟨⟨ocls, od, oda, osl⟩, hol, hcl, nl, hdl⟩ := hl
        simp only at hcl hdl
        (subst hcl; subst hdl)
        have gl : (s.heap.push ({ cls := .type "set", dict := none, data := .set #[] 0 (.fresh 0 0 (!w.params.followText "set-order")) } : Obj)).get? l = some { cls := .type "list", dict := od, data := .seq items nl, slots := osl } := Heap.get?_push_of_some _ hol
        have s1 := F.sub_list_set
        have s2 := F.sub_list_frozenset
        have nd : (Value.type "list" == Value.type "dict") = false := by decide
        have il : (s.heap.push ({ cls := .type "set", dict := none, data := .set #[] 0 (.fresh 0 0 (!w.params.followText "set-order")) } : Obj)).IsList l items := ⟨_, gl, rfl, nl, rfl⟩
        (unfold Builtin.«set.__init__» noKeywords Builtin.Frozenset.updateFrom; generalize hPI : pyIter = PI)
        wp_walk
        subst hPI
        refine wpAny_pyIter_list il (wpAny_bind (wpAny_runValue ?_))
        have lt : l < s.heap.objs.size := Heap.lt_size hol
        have h3 : A.in1.in1.in1.handled = none := by simp [hh]
        have hz : (s.heap.push ({ cls := .type "set", dict := none, data := .set #[] 0 (.fresh 0 0 (!w.params.followText "set-order")) } : Obj)).objs.size = s.heap.objs.size + 1 := Heap.size_push ..
        have n1 : l ≠ (s.heap.push ({ cls := .type "set", dict := none, data := .set #[] 0 (.fresh 0 0 (!w.params.followText "set-order")) } : Obj)).objs.size := by rw [hz]; exact Nat.ne_of_lt (Nat.lt_succ_of_lt lt)
        have n2 : s.heap.objs.size ∉ [(s.heap.push ({ cls := .type "set", dict := none, data := .set #[] 0 (.fresh 0 0 (!w.params.followText "set-order")) } : Obj)).objs.size, l] := by
          rw [hz]
          simp only [List.mem_cons, List.mem_singleton, List.not_mem_nil, or_false, not_or]
          exact ⟨Nat.ne_of_lt (Nat.lt_succ_self _), Nat.ne_of_gt lt⟩
        have val : ∀ (i : Nat) (v : Value), items[i]? = some v → ∃ k t, ns[i]? = some k ∧ v = .int k t := fun i v hv => by
          have hi : i < ns.length := by rw [← size]; exact (Array.getElem?_eq_some_iff.mp hv).1
          obtain ⟨t, e⟩ := PyProof.Rows.IntsAre.int_at it i v (by rw [Array.getElem?_toList]; exact hv)
          refine ⟨ns[i], t, List.getElem?_eq_getElem hi, ?_⟩
          (rw [e, List.getD_eq_getElem?_getD, List.getElem?_eq_getElem hi]; rfl)
        refine set_update_ints ((Walks.list h3 _ l n1 items).toS) s.heap.objs.size n2 ns size few val (items.size - 0) 0 _ (by omega) (Nat.zero_le _) ⟨⟨_, Heap.get?_push_size _ rfl, rfl, rfl⟩, (il.push _)⟩ ?hA ?hB
        case hA => exact ⟨0, Nat.le_refl 0, setR_new_at (Heap.get?_push_of_some _ gS)⟩
        case hB =>
          intro y c2 hm hc2 hS2
          obtain ⟨g, g2, d2, tk2, os2⟩ := y
          have eg : g2 = s.gens := hm.gens
          have ed : d2 = s.drawn := hm.drawn
          have eo : os2 = s.os := hm.os
          (subst eg; subst ed; subst eo)
          (show wpAny _ _ _ _ _ _; refine wpAny_pure ?_; show wpAny _ _ (ret Value.none) _ _ _)
          rw [size] at hc2
          refine wpAny_pure ⟨rfl, g, tk2, c2, rfl, hS2, hc2, fun b o e => ?_⟩
          have lb : b < s.heap.objs.size := Heap.lt_size e
          have e1 : b ≠ s.heap.objs.size := Nat.ne_of_lt lb
          have e2 : b ≠ (s.heap.push ({ cls := .type "set", dict := none, data := .set #[] 0 (.fresh 0 0 (!w.params.followText "set-order")) } : Obj)).objs.size := by rw [hz]; exact Nat.ne_of_lt (Nat.lt_succ_of_lt lb)
          exact hm.heap b o (by simp only [List.mem_cons, List.mem_singleton, List.not_mem_nil, or_false, not_or]; exact ⟨e1, e2⟩) (Heap.get?_push_of_some _ (Heap.get?_push_of_some _ e))
      · cases r2 with
        | error e => exact hr2
        | ok f2 => cases f2 with
          | ret r =>
            obtain ⟨rfl, g, tk, c2, rfl, hS2, hc2, hk⟩ := hr2
            (repeat (any_goals (first | assumption | wp_step)))
            exact h _ _ _ hS2 hc2 hk
          | _ => exact hr2.elim
    | _ => exact hr.elim
end
end DL

/-! DX: sorted(set(xs)) of a list of ints, sorted of ints, owned lists that grow, slices that count from the end. -/
namespace DL
open PySem PySem.Spec PyProof.Rows L2 HT
section
variable {X : Cx} {a : Expr} {Ta : TD} {p p1 p2 pos : Pos} {K : PySem.W.Frag}
def rSetL (K : PySem.W.Frag) (w : World) : List V → Hp → VK → Prop := fun vs H Q => ∃ (l : Addr) (ns : List Int), vs = [V.ref l] ∧ SqL K H l (ns.map V.int) ∧ ns.length < 64 ∧
  ∀ a n, H a = none → n ≤ ns.length → Q (.ref a) (upd H a (SetO w a (fun j => decide (j ∈ ns)) n))
/-- sorted(set(xs)), xs a list or a tuple -/
def dSoSetL (Ta : TD) : TD := fun ρ ω Q => Ta ρ ω fun x ω1 => ∃ ns : List Int, lstOf ω1 x = some (ns.map D.int) ∧ ns.length < 64 ∧ ∀ ns' : List Int, ns'.Pairwise (· < ·) → (∀ k : Int, k ∈ ns' ↔ k ∈ ns) → ns'.length ≤ ns.length → Q (.lst (ns'.map D.int)) ω1
/-- sorted(xs) of a list of ints -/
def dSorted : DOn := fun xs ω Q => ∃ (x : D) (ns : List Int), xs = [x] ∧ lstOf ω x = some (ns.map D.int) ∧ ∀ ns' : List Int, ns'.Perm ns → ns'.Pairwise (· ≤ ·) → Q (.lst (ns'.map D.int)) ω
end
end DL
namespace DL
open PySem PySem.Spec PyProof.Rows L2
section
variable {X : Cx} {a e : Expr} {Ta Te : TD} {K : PySem.W.Frag} {h : Fp} {H : Hp} {ω : Om}
/-- a list made by + that is owned -/
def dAddO : DO2 := fun x y ω Q => ∃ xs ys, lstOf ω x = some xs ∧ lstOf ω y = some ys ∧ xs.length + ys.length ≤ sizeLine ∧ ∀ p, ω p = none → Q (.raw (.ref p)) (oset ω p (.lst (xs ++ ys)))
/-- xs.append(e), xs owned -/
def dApp (Ta Te : TD) : TD := fun ρ ω Q => Ta ρ ω fun x ω1 => ∃ p, x = .raw (.ref p) ∧ (∃ xs, ω1 p = some (.lst xs)) ∧ Te ρ ω1 fun y ω2 => ∃ xs, ω2 p = some (.lst xs) ∧ xs.length < sizeLine ∧ Q .non (oset ω2 p (.lst (xs ++ [y])))
theorem de_app [Amb] {apos cpos : Pos} (ha : DE X a Ta) (he : DE X e Te)
    (hbase : attributeBase a "append" X.env (eval a X.env) = eval a X.env := by rfl)
    (hfew : ((backTo cpos (starEach [e] X.env)).all (fun x => !x.1) && (backToKw cpos (keywordEach [] X.env)).all (fun x => x.1.isSome) && decide ([e].length + ([] : List Keyword).length + (if ([] : List Keyword).isEmpty then 0 else 1) < 30)) = true := by rfl)
    (hline : (apos.endLine == cpos.line) = true := by rfl) (hs : starEach [e] X.env = (false, eval e X.env) :: starEach [] X.env := by rfl) (hplain : (backTo cpos (starEach [] X.env)).any (·.1) = false := by rfl) :
    DE X (.Call (.Attribute a "append" apos) [e] [] cpos) (dApp Ta Te) := by
  refine PE.weak (pe_bm PySem.F.plainAttrs_list PySem.F.slot_list_append PySem.F.type_list_append mt_append ha (pa_cons he pa_nil hs) hbase hfew hline hs hplain) fun σ H Q ⟨h, ρ, ω, R, sl, w, t, k⟩ => ?_
  refine ⟨h, ρ, ω, _, sl, w, t, fun x ω1 v H1 t1 f1 w1 r1 => ?_⟩
  obtain ⟨p, rfl, ⟨xs, hx⟩, t1⟩ := t1
  cases r1
  obtain ⟨vs, hv, _⟩ := w1.cell p _ hx
  refine ⟨.inl ⟨rfl, vs, .inl (.inl hv)⟩, ?_⟩
  refine ⟨h, ρ, ω1, _, sl.keep f1.kp, w1, t1, fun y ω2 u H2 t2 f2 w2 r2 => ?_⟩
  obtain ⟨ys, hy, sz, q⟩ := t2
  obtain ⟨us, hu, ra⟩ := w2.cell p _ hy
  refine ⟨p, us, u, rfl, rfl, hu, by rw [← ra.len]; exact sz, ?_⟩
  exact (k.go (f1.trans f2)) _ _ _ _ q (Fr.put hy) (w2.put hy fun H' f' kp hp => ⟨_, hp, (ra.app (.cons r2 .nil)).keep kp⟩) .non
end
section
variable {ρ : Rho} {ω : Om} {Q : DQ} {xs ys : List D} {ns : List Int} {Ta Te : TD} {x y : D} {p : Addr} {i : Int} {neg : Bool}
theorem st_app (h : Ta ρ ω fun x ω1 => ∃ p, x = .raw (.ref p) ∧ (∃ xs, ω1 p = some (.lst xs)) ∧ Te ρ ω1 fun y ω2 => ∃ xs, ω2 p = some (.lst xs) ∧ xs.length < sizeLine ∧ Q .non (oset ω2 p (.lst (xs ++ [y])))) : dApp Ta Te ρ ω Q := h
theorem st_soSetL (h : Ta ρ ω fun x ω1 => ∃ ns : List Int, lstOf ω1 x = some (ns.map D.int) ∧ ns.length < 64 ∧ ∀ ns' : List Int, ns'.Pairwise (· < ·) → (∀ k : Int, k ∈ ns' ↔ k ∈ ns) → ns'.length ≤ ns.length → Q (.lst (ns'.map D.int)) ω1) : dSoSetL Ta ρ ω Q := h
theorem st_inT (h : Q (.bl (if neg then !decide (i ∈ ns) else decide (i ∈ ns))) ω) : dIn neg (.int i) (.tup (ns.map D.int)) ω Q := ⟨i, ns, rfl, .inr rfl, h⟩
theorem eqv_tups (ns ms : List Int) : PyData.eqv (D.tup (ns.map D.int)).py (D.tup (ms.map D.int)).py = decide (ns = ms) := by
  rw [← eqv_ints]
  simp only [D.py, PyData.eqv]
theorem shaped_intsT (ns : List Int) : SeqAt.shaped (D.tup (ns.map D.int)).py = true := by
  obtain ⟨h1, h2⟩ := lay_ints ns
  simp [SeqAt.shaped, D.py, PyData.canLay0, PyData.depth, h1, h2]
theorem st_eqIntsT {ms : List Int} (h : Q (.bl (if neg then !decide (ns = ms) else decide (ns = ms))) ω) : dEq neg (.tup (ns.map D.int)) (.tup (ms.map D.int)) ω Q := by
  show eqD _ _ ∧ Q _ ω
  refine ⟨⟨by simpa [D.flat] using flat_ints ns, by simpa [D.flat] using flat_ints ms, shaped_intsT ns, shaped_intsT ms⟩, ?_⟩
  rw [eqv_tups]
  exact h
/-- what is left of a list that is cut from place -k on -/
theorem cut_last {α : Type} {xs : List α} {k : Int} (h : 0 < k) : cutD xs (some (-k)) none = xs.drop (xs.length - k.toNat) := by
  unfold cutD
  have e : HT.sIx xs.length 0 (some (-k)) = xs.length - k.toNat := by
    unfold HT.sIx
    simp only
    split <;> omega
  rw [e, HT.sIx_none, List.take_of_length_le]
  rw [List.length_drop]
  omega
end
end DL
namespace DL
open PySem PySem.Spec L2
section
variable {ω : Om} {Q : DQ} {a p : Addr} {N : Nat} {k : Int}
/-- the deck, whatever else is owned -/
def DeckW (ω : Om) (a p : Addr) (N : Nat) : Prop := Deck ω a p N
theorem DeckW.le {M : Nat} (h : DeckW ω a p N) (l : N ≤ M) : DeckW ω a p M := by
  obtain ⟨nap, c, n, h1, h2, h3, h4⟩ := h
  exact ⟨nap, c, n, h1, h2, Nat.le_trans h3 l, h4⟩
theorem DeckA.w (h : DeckA ω a p N) : DeckW ω a p N := h.1
theorem DeckW.has {b : Addr} (h : DeckW ω a p N) (e : ω b = none) : b ≠ a ∧ b ≠ p := by
  obtain ⟨nap, c, n, h1, h2, h3, h4⟩ := h
  exact ⟨fun z => (by rw [z, h1] at e; cases e), fun z => (by rw [z, h2] at e; cases e)⟩
theorem DeckW.set {b : Addr} {c : Cell} (h : DeckW ω a p N) (n1 : b ≠ a) (n2 : b ≠ p) : DeckW (oset ω b c) a p N := by
  obtain ⟨nap, cs, n, h1, h2, h3, h4⟩ := h
  exact ⟨nap, cs, n, by rw [oset_ne (Ne.symm n1)]; exact h1, by rw [oset_ne (Ne.symm n2)]; exact h2, h3, h4⟩
theorem st_drawF (d : DeckW ω a p N) (hN : N ≤ 2 ^ 40) (k0 : 0 < k) (k1 : k < 2 ^ 100) (h : ∀ (i : Int) ω', 0 ≤ i → i < k → DeckW ω' a p (N + 1) → (∀ b, b ≠ a → b ≠ p → ω' b = ω b) → Q (.int i) ω') : DrawS [.raw (.ref a), .int k] ω Q :=
  ⟨a, p, N, k, rfl, k0, k1, d, hN, fun i ω' h0 h1 hd hf => h i ω' h0 h1 hd hf⟩
end
end DL

/-! DY: sorted(t) of a tuple of ints. -/
namespace DL
open PySem PySem.Spec PyProof.Rows L2 HT
section
variable {prog : Program} {w : World} {A : Around} {E : Value → Shared → Prop} {s : Shared}
theorem collect_tup {l : Addr} {vs : List Value} {Q : List Value → Shared → Prop} (ht : IsTup s.heap l vs.toArray) (sz : vs.length ≤ sizeLine)
    (h : Q vs { s with heap := (s.heap.push (seqObj "list" #[] 0)).update s.heap.objs.size (Obj.mapSeq (· ++ vs.toArray)) }) : wpAny (model prog w) A (collect (.ref l)) Q E s := by
  obtain ⟨o, ho, hc, n, hd⟩ := id ht
  (unfold collect; refine wpAny_bind (wpAny_runValue (codeAny_builtin entry_proto_collect' ?_)))
  (show wpAny _ _ (do again (.builtin "list.__iadd__" ⟨[← newList [], .ref l], []⟩)) _ _ s)
  (refine wpAny_bind (wpAny_newList (wpAny_pure ⟨Code.quiet_builtin _ (by decide +kernel), codeAny_builtin entry_list_iadd' ?_⟩)))
  (show wpAny _ _ (Builtin.List.listExtendWith (.ref s.heap.objs.size) (.ref l) (.ref s.heap.objs.size)) _ _ { s with heap := s.heap.push (seqObj "list" #[] 0) })
  unfold Builtin.List.listExtendWith
  have old : (s.heap.push (seqObj "list" #[] 0)).get? l = some o := Heap.get?_push_of_some _ ho
  refine wpAny_bind (wpAny_typeOf (T := "tuple") ⟨o, old, hc⟩ ?_)
  have t2 : (Value.type "tuple" == Value.type "tuple") = true := by rfl
  (rw [if_pos (by rw [t2]; simp)])
  refine wpAny_bind (listItems_at old hd ?_)
  (refine wpAny_bind (listItems_at (xs := #[]) (n := 0) (Heap.get?_push_size _ rfl) rfl ?_); rw [if_neg (by simp)])
  refine wpAny_bind (listUpdate_at (xs := #[]) (n := 0) (Heap.get?_push_size _ rfl) rfl ?_ (Nat.zero_le _) (by (show (#[] ++ vs.toArray).size ≤ sizeLine + 1); (simp only [Array.size_append, List.size_toArray, List.length_nil]; omega)))
  refine wpAny_pure ?_
  show wpAny (model prog w) A (do
      let z ← load s.heap.objs.size
      match z.data with
      | .seq xs _ => pure xs.toList
      | _ => unsupported "internal:collect") Q E { s with heap := (s.heap.push (seqObj "list" #[] 0)).update s.heap.objs.size (Obj.mapSeq (· ++ vs.toArray)) }
  refine wpAny_bind (wpAny_load (get?_update_seq (Heap.get?_push_size _ rfl) _) ?_)
  (show wpAny _ _ (pure ((#[] : Array Value) ++ vs.toArray).toList) Q E _; rw [show ((#[] : Array Value) ++ vs.toArray).toList = vs by simp])
  exact wpAny_pure h
theorem sorted_tupI {l : Addr} {vs : List Value} {ns : List Int} {Q : Value → Shared → Prop} (ht : IsTup s.heap l vs.toArray) (hI : IntsAre vs ns) (hz : vs.length ≤ sizeLine)
    (h : ∀ out : List Value, SrtO.Srtd SrtO.ltIv out → SrtO.Stb SrtO.ltIv out vs → Q (.ref (s.heap.objs.size + 1)) { s with heap := sortedAll s.heap vs out.toArray }) : wpAny (model prog w) A (call (.builtin "sorted") [.ref l]) Q E s := by
  (refine Calls.call_function_entry kind_sorted plain_sorted entry_sorted (args_sorted1 _) ?_; unfold Builtin.«sorted»)
  (refine wpAny_bind (m := checkCount "sorted" 1 1 _) (wpAny_pure ?_); refine wpAny_bind (collect_tup ht hz ?_); refine wpAny_bind (wpAny_newList ?_ hz))
  generalize hg : (s.heap.push (seqObj "list" #[] 0)).update s.heap.objs.size (Obj.mapSeq (· ++ vs.toArray)) = g
  have gs : g.objs.size = s.heap.objs.size + 1 := by rw [← hg, Heap.size_update, size_push']
  have gl : (g.push (seqObj "list" vs.toArray 0)).get? (s.heap.objs.size + 1) = some (seqObj "list" vs.toArray 0) := by rw [← gs]; exact Heap.get?_push_size _ rfl
  show wpAny _ _ _ _ _ { s with heap := g.push (seqObj "list" vs.toArray 0) }
  rw [gs]
  refine wpAny_bind (wpAny_holding (wpAny_call_entry slot_list_sort ⟨_, gl, rfl⟩ entry_list_sort (SrtO.list_sort_ord SrtO.swo_int gl hz (fun h2 => SrtO.ints_sortable hI h2) fun out hs hb => ⟨_, rfl, ?_⟩) (args_list_sort _)))
  have z := h out hs hb
  unfold sortedAll at z
  rw [hg] at z
  exact wpAny_pure ⟨_, rfl, z⟩
end
section
variable {X : Cx} {K : PySem.W.Frag} {Q : DQ} {ω : Om} {ns : List Int}
def rSortedT2 (K : PySem.W.Frag) : List V → Hp → VK → Prop := fun vs H Q => ∃ (a : Addr) (ns : List Int), vs = [V.ref a] ∧ SqT K H a (ns.map V.int) ∧
  ∀ (ns' : List Int) (p : Addr), ns'.Perm ns → ns'.Pairwise (· ≤ ·) → H p = none → Q (.ref p) (upd H p (.lst (ns'.map V.int)))
theorem cr_sortedT2 : CallR X (.builtin "sorted") (rSortedT2 X.K) := by
  intro pins s σ H vs us Q I r h
  obtain ⟨a, ns, rfl, hs, q⟩ := h
  obtain ⟨its, rv, ht, hz⟩ := I.tuple hs
  (rw [Vals.ref1 r]; have hi : IntsAre its ns := by simpa using rv.ints)
  refine sorted_tupI ht hi (by rw [← rv.length]; exact hz) fun out h1 h2 => ?_
  obtain ⟨k1, k2, k3⟩ := SrtO.ints_out hi h1 h2
  obtain ⟨ep, he⟩ := PyProof.Rows.sortedAll_at s.heap its out.toArray
  have len : ((out.map SrtO.iv).map V.int).length ≤ sizeLine := by
    rw [List.length_map, k2.length_eq]
    rwa [List.length_map] at hz
  exact ⟨.ref _, upd H (s.heap.objs.size + 1) (.lst ((out.map SrtO.iv).map V.int)), I.laid (t' := s.toks) (fun _ _ => PyProof.Rows.sortedAll_old) (Nat.le_succ _) ⟨len, out, ep, vals_of_ints k1, he⟩, rfl, q _ _ k2 k3 (I.hok.fresh (Nat.le_succ _))⟩
/-- sorted of a list or a tuple of ints -/
def dSortedA : DOn := fun xs ω Q => ∃ (x : D) (ns : List Int), xs = [x] ∧ (lstOf ω x = some (ns.map D.int) ∨ x = .tup (ns.map D.int)) ∧ ∀ ns' : List Int, ns'.Perm ns → ns'.Pairwise (· ≤ ·) → Q (.lst (ns'.map D.int)) ω
theorem cr_sortedA : CallR X (.builtin "sorted") (fun vs H Q => rSortedI X.K vs H Q ∨ rSortedT2 X.K vs H Q) := by
  intro pins s σ H vs us Q I r h
  rcases h with h | h
  · exact cr_sortedI pins s σ H vs us Q I r h
  · exact cr_sortedT2 pins s σ H vs us Q I r h
theorem ok_sortedA [Amb] : CallD K dSortedA (fun vs H Q => rSortedI K vs H Q ∨ rSortedT2 K vs H Q) := by
  intro h xs ω R vs H Q ⟨x, ns, e, t, q⟩ w r k
  subst e
  obtain ⟨v, rfl, rv⟩ := r.one
  rcases t with t | t
  · obtain ⟨a, vs, rfl, sx, ra⟩ := lstOf_sq w t rv
    have z := ra.ints
    subst z
    exact .inl ⟨a, ns, rfl, sx, fun ns' p hp hs e => k.nlst w (ds := ns'.map D.int) (q ns' hp hs) (RpAll.ofInts ns') e⟩
  · subst t
    cases rv with
    | tup s ra =>
      have z := ra.ints
      subst z
      exact .inr ⟨_, ns, rfl, s.sq, fun ns' p hp hs e => k.nlst w (ds := ns'.map D.int) (q ns' hp hs) (RpAll.ofInts ns') e⟩
theorem st_sortedT (h : ∀ ns' : List Int, ns'.Perm ns → ns'.Pairwise (· ≤ ·) → Q (.lst (ns'.map D.int)) ω) : dSortedA [.tup (ns.map D.int)] ω Q := ⟨_, ns, rfl, .inr rfl, h⟩
end
end DL

/-! Starred items of a display; a comprehension with an invariant over what it has found. -/
namespace DL
open PySem PySem.Spec L2 PyProof.Rows
section
variable {X : Cx} {Ta : TD} {T : TAD} {e : Expr} {es : List Expr} {p : Pos}
def dStar (Ta : TD) (T : TAD) : TAD := fun ρ ω Q => Ta ρ ω fun x ω1 => ∃ xs, (lstOf ω1 x = some xs ∨ x = .tup xs) ∧ T ρ ω1 fun ys ω2 => Q (xs ++ ys) ω2
theorem rpAll_app {K : PySem.W.Frag} {f : Fp} {H : Hp} {xs ys : List D} {vs us : List V} (a : RpAll K f H xs vs) (b : RpAll K f H ys us) : RpAll K f H (xs ++ ys) (vs ++ us) := by
  induction xs generalizing vs with
  | nil => cases a; exact b
  | cons x xs ih => cases a with | cons h t => exact .cons h (ih t)
theorem da_star [Amb] (ha : DE X e Ta) (hr : DA X es T) (he : starEach (.Starred e p :: es) X.env = (true, eval e X.env) :: starEach es X.env := by rfl) : DA X (.Starred e p :: es) (dStar Ta T) := by
  refine PA.weak (StX.pa_star ha hr he) fun σ H Q ⟨h, ρ, ω, R, sl, w, t, k⟩ => ?_
  refine ⟨h, ρ, ω, _, sl, w, t, fun x ω1 vx H1 t1 f1 w1 rx => ?_⟩
  obtain ⟨xs, tx, t2⟩ := t1
  have z : ∃ a vs, vx = V.ref a ∧ (SqT X.K H1 a vs ∨ SqL X.K H1 a vs) ∧ RpAll X.K (fre ω1 h) H1 xs vs := by
    rcases tx with tx | rfl
    · obtain ⟨a, vs, e, sx, ra⟩ := lstOf_sq w1 tx rx
      exact ⟨a, vs, e, .inr sx, ra⟩
    · cases rx with
      | tup s ra => exact ⟨_, _, rfl, .inl s.sq, ra⟩
  obtain ⟨a, vs, rfl, sq, ra⟩ := z
  exact ⟨a, vs, rfl, sq, h, ρ, ω1, _, sl.keep f1.kp, w1, t2, fun ys ω2 us H2 t3 f2 w2 rs => k _ ω2 _ _ t3 (f1.trans f2) w2 (rpAll_app (ra.keep f2.kp) rs)⟩
end
section
variable {ρ : Rho} {ω : Om} {Ta : TD} {T : TAD} {QL : List D → Om → Prop}
theorem st_star (h : Ta ρ ω fun x ω1 => ∃ xs, (lstOf ω1 x = some xs ∨ x = .tup xs) ∧ T ρ ω1 fun ys ω2 => QL (xs ++ ys) ω2) : dStar Ta T ρ ω QL := h
theorem st_starT {xs : List D} {Z : List D → Prop} (h : Z xs) : ∃ ys, (lstOf ω (.tup xs) = some ys ∨ D.tup xs = .tup ys) ∧ Z ys := ⟨xs, .inr rfl, h⟩
theorem st_starL {xs : List D} {Z : List D → Prop} (h : Z xs) : ∃ ys, (lstOf ω (.lst xs) = some ys ∨ D.lst xs = .tup ys) ∧ Z ys := ⟨xs, .inl rfl, h⟩
end
section
variable {ρ : Rho} {ω : Om} {xs : List D} {gd : TGD} {Tt : TTD} {Te : TD} {vs : List Nat} {P : Om → Prop} {F : List D → Om → Prop}
/-- whatever holds of what was found and of the world between two items -/
theorem lc_inv (I : Nat → List D → Om → Prop) (i0 : I 0 [] ω) (jp : ∀ i acc ω, I i acc ω → P ω) (sz : xs.length ≤ sizeLine)
    (step : ∀ i d ω (Z : List D → Om → Prop) (acc : List D), xs[i]? = some d → I i acc ω → acc.length < sizeLine → (∀ y ω', I (i + 1) (acc ++ [y]) ω' → Z (acc ++ [y]) ω') → (∀ ω', I (i + 1) acc ω' → Z acc ω') →
      gd d (wipeD ρ vs) ω fun ρ2 ω2 => Tt ρ2 ω2 fun b ω3 => if b = true then Te ρ2 ω3 fun y ω4 => acc.length < sizeLine ∧ Z (acc ++ [y]) ω4 else Z acc ω3)
    (fin : ∀ acc ω, acc.length ≤ xs.length → I xs.length acc ω → F acc ω) : lcBody gd Tt Te vs ρ xs P ω F := by
  refine ⟨fun i acc ω => i ≤ xs.length ∧ acc.length ≤ i ∧ I i acc ω, ⟨Nat.zero_le _, Nat.le_refl _, i0⟩, fun i acc ω h => jp i acc ω h.2.2, fun i d acc ω e h => ?_, fun acc ω h => fin acc ω h.2.1 h.2.2⟩
  obtain ⟨hi, hl, hj⟩ := h
  have li : i < xs.length := (List.getElem?_eq_some_iff.mp e).1
  refine step i d ω (fun acc' ω' => i + 1 ≤ xs.length ∧ acc'.length ≤ i + 1 ∧ I (i + 1) acc' ω') acc e hj (by omega) (fun y ω' hj' => ⟨li, ?_, hj'⟩) fun ω' hj' => ⟨li, by omega, hj'⟩
  rw [List.length_append]
  exact Nat.add_le_add_right hl 1
end
theorem st_negT {b c : Bool} {Y Z : Prop} (h : if b = true then Y else Z) : if (if true = true then b else c) = true then Y else Z := h
theorem st_negF {b c : Bool} {Y Z : Prop} (h : if c = true then Y else Z) : if (if false = true then b else c) = true then Y else Z := h
theorem st_sameN {a : Str} {i : Decidable (a = a)} {Y Z : Prop} (h : Z) : if (!(@decide (a = a) i)) = true then Y else Z := by rw [decide_eq_true rfl]; exact h
theorem st_sameP {a : Str} {i : Decidable (a = a)} {Y Z : Prop} (h : Y) : if (@decide (a = a) i) = true then Y else Z := by rw [decide_eq_true rfl]; exact h
end DL

/-! Equality of pairs of groups. -/
namespace DL
open PySem PySem.Spec L2 PyProof.Rows
section
variable {neg : Bool} {Q : DQ} {ω : Om}
def pairD (a b : List Int) : D := .tup [.tup (a.map D.int), .tup (b.map D.int)]
theorem flat_tups (ns : List Int) : (D.tup (ns.map D.int)).flat = true := by simpa [D.flat] using flat_ints ns
theorem flat_pair (a b : List Int) : (pairD a b).flat = true := by
  have h1 := flat_tups a
  have h2 := flat_tups b
  simp only [D.flat] at h1 h2
  simp [pairD, D.flat, flatAll, h1, h2]
end
end DL

/-! Shifts, while loops, what is owned besides. -/
namespace DL
open PySem PySem.Spec L2 PyProof.Rows
abbrev dShr : DO2 := dI2 (fun _ j => 0 ≤ j) fun i j => i / 2 ^ j.toNat
abbrev dShl : DO2 := dI2 CPow fun i j => i * 2 ^ j.toNat
section
variable {Q : DQ} {ω : Om} {ρ : Rho} {i j : Int}
theorem st_while {A : TTD} {Tb : TSD} {E : DEnds} (h : ∃ I : Nat → Rho → Om → Prop, (∃ m, I m ρ ω) ∧
  ∀ m ρ ω, I m ρ ω → A ρ ω fun b ω1 => if b = true then Tb { E with nx := fun ρ2 ω2 => ∃ m2, m2 < m ∧ I m2 ρ2 ω2, ct := fun ρ2 ω2 => ∃ m2, m2 < m ∧ I m2 ρ2 ω2, bk := E.nx } ρ ω1 else E.nx ρ ω1) : dWhile A Tb E ρ ω := h
end
/-- what was owned is as it was -/
def Ext (ω ω' : Om) : Prop := ∀ b, ω b ≠ none → ω' b = ω b
theorem Ext.refl {ω : Om} : Ext ω ω := fun _ _ => rfl
theorem Ext.trans {ω ω1 ω2 : Om} (a : Ext ω ω1) (b : Ext ω1 ω2) : Ext ω ω2 := fun x h => (b x (by rw [a x h]; exact h)).trans (a x h)
theorem Ext.new {ω ω' : Om} {p : Addr} (e : ω p = none) (h : ∀ b, b ≠ p → ω' b = ω b) : Ext ω ω' := fun b hb => h b fun z => hb (z ▸ e)
theorem Ext.cell {ω ω' : Om} {p : Addr} {c : Cell} (x : Ext ω ω') (e : ω p = some c) : ω' p = some c := (x p (by rw [e]; exact fun z => nomatch z)).trans e
theorem DeckW.ext {ω ω' : Om} {a p : Addr} {N : Nat} (d : DeckW ω a p N) (x : Ext ω ω') : DeckW ω' a p N := by
  obtain ⟨nap, cs, n, h1, h2, h3, h4⟩ := d
  exact ⟨nap, cs, n, x.cell h1, x.cell h2, h3, h4⟩
theorem atI_last {α : Type} {xs : List α} {x : α} : L2.atI (xs ++ [x]) (-1) = some x := by
  unfold L2.atI L2.ixN
  rw [if_neg (by decide), if_pos (by rw [List.length_append]; simp only [List.length_cons, List.length_nil]; omega)]
  show (xs ++ [x])[_]? = some x
  rw [show (-1 + (xs ++ [x]).length : Int).toNat = xs.length by rw [List.length_append]; simp only [List.length_cons, List.length_nil]; omega]
  simp
end DL

/-! A short tuple many times over; how much is written of three things. -/
namespace L2
open PySem PySem.Spec PyProof.Rows
def rRepB (K : PySem.W.Frag) : R2 := fun x y H Q => ∃ (b : Addr) (m : Int) (vs : List V), x = .ref b ∧ y = .int m ∧ SqT K H b vs ∧ vs ≠ [] ∧ (2 ≤ m ∧ m ≤ 5000) ∧ vs.length ≤ 100 ∧
  ∀ p, H p = none → Q (.ref p) (upd H p (.tup (List.replicate m.toNat vs).flatten))
section
variable {X : Cx}
end
end L2
namespace DL
open PySem PySem.Spec L2 PyProof.Rows
def dMulB : DO2 := fun x y ω Q => match x, y with
  | .tup xs, .int k => xs ≠ [] ∧ (2 ≤ k ∧ k ≤ 5000) ∧ xs.length ≤ 100 ∧ Q (.tup (List.replicate k.toNat xs).flatten) ω
  | _, _ => False
section
variable {ω : Om} {Q : DQ} {xs : List D} {k : Int}
end
end DL

/-! Lists that are owned: of a range, popped, compared; dicts that are owned; zip of tuples; two names in a comprehension. -/
namespace DL
open PySem PySem.Spec L2 PyProof.Rows
section
variable {X : Cx} {K : PySem.W.Frag} {h : Fp} {H : Hp} {ω : Om} {a e value : Expr} {pos p : Pos} {Ta Te Tv : TD} {T : TAD}
def dLstRgO (T : TAD) : TD := fun ρ ω Q => T ρ ω fun xs ω1 => ∃ n, xs = [.int n] ∧ RgOk 0 n ∧ ∀ p, ω1 p = none → Q (.raw (.ref p)) (oset ω1 p (.lst (rngD 0 n.toNat)))
/-- xs.pop(i), xs owned -/
def dPop (Ta Te : TD) : TD := fun ρ ω Q => Ta ρ ω fun x ω1 => ∃ p, x = .raw (.ref p) ∧ (∃ xs, ω1 p = some (.lst xs)) ∧ Te ρ ω1 fun y ω2 => ∃ (n : Nat) (xs : List D) (d : D), y = .int n ∧ n < 2 ^ 40 ∧ ω2 p = some (.lst xs) ∧ xs[n]? = some d ∧ Q d (oset ω2 p (.lst (xs.eraseIdx n)))
/-- two lists of plain data, each owned or not -/
def dEqO (neg : Bool) : DO2 := fun x y ω Q => ∃ xs ys, lstOf ω x = some xs ∧ lstOf ω y = some ys ∧ eqD (.lst xs) (.lst ys) ∧ Q (.bl (if neg then !PyData.eqv (D.lst xs).py (D.lst ys).py else PyData.eqv (D.lst xs).py (D.lst ys).py)) ω
/-- {} that is owned -/
def dDic0O : TD := fun _ ω Q => ∀ p, ω p = none → Q (.raw (.ref p)) (oset ω p (.dK []))
/-- what a number leads to -/
def lookI : List (Key × D) → Int → Option D
  | [], _ => none
  | (k, d) :: kds, i => if k = .inl i then some d else lookI kds i
theorem look_rel {f : Fp} {i : Int} : ∀ {kds : List (Key × D)} {kvs : List (Key × V)}, RpKv K f H kds kvs → (∀ d, lookI kds i = some d → ∃ v, valV kvs (.inl i) = some v ∧ Rp K f H d v) ∧ (lookI kds i = none → valV kvs (.inl i) = none)
  | [], _, r => by cases r; exact ⟨fun _ h => (nomatch h), fun _ => rfl⟩
  | (k, d) :: kds, _, r => by
    cases r with
    | cons r1 r2 =>
      have ih := look_rel (i := i) r2
      unfold lookI
      by_cases c : k = .inl i
      · rw [if_pos c]
        exact ⟨fun d' e => by cases e; exact ⟨_, valV_pos c, r1⟩, fun e => nomatch e⟩
      · rw [if_neg c]
        rw [valV_neg c]
        exact ih
theorem rpKv_len {f : Fp} : ∀ {kds : List (Key × D)} {kvs : List (Key × V)}, RpKv K f H kds kvs → kds.length = kvs.length
  | [], _, r => by cases r; rfl
  | _ :: _, _, r => by cases r with | cons _ t => rw [List.length_cons, List.length_cons, rpKv_len t]
theorem rpKv_snoc {f : Fp} {k : Key} {d : D} {v : V} : ∀ {kds : List (Key × D)} {kvs : List (Key × V)}, RpKv K f H kds kvs → Rp K f H d v → RpKv K f H (kds ++ [(k, d)]) (kvs ++ [(k, v)])
  | [], _, r, rd => by cases r; exact .cons rd .nil
  | _ :: _, _, r, rd => by cases r with | cons r1 t => exact .cons r1 (rpKv_snoc t rd)
/-- d[i], d owned, keyed by numbers -/
def dDGet (Ta Te : TD) : TD := fun ρ ω Q => Ta ρ ω fun x ω1 => Te ρ ω1 fun y ω2 => ∃ (p : Addr) (i : Int) (kds : List (Key × D)) (d : D), x = .raw (.ref p) ∧ y = .int i ∧ ω2 p = some (.dK kds) ∧ lookI kds i = some d ∧ Q d ω2
theorem de_dget [Amb] (hu : X.A.units + 64 < cLine) (ha : DE X a Ta) (he : DE X e Te) (hs : NoSl e) : DE X (.Subscript a e pos) (dDGet Ta Te) := by
  refine PE.weak (pe_dget (by omega) ha he hs) fun σ H Q ⟨h, ρ, ω, R, sl, w, t, k⟩ => ?_
  refine ⟨h, ρ, ω, _, sl, w, t, fun x ω1 v H1 t1 f1 w1 r1 => ?_⟩
  refine ⟨h, ρ, ω1, _, sl.keep f1.kp, w1, t1, fun y ω2 u H2 t2 f2 w2 r2 => ?_⟩
  obtain ⟨p, i, kds, d, rfl, rfl, hc, hl, q⟩ := t2
  cases r1
  cases r2
  obtain ⟨kvs, hv, rk⟩ := w2.cell p _ hc
  obtain ⟨vd, e1, rd⟩ := (look_rel rk).1 d hl
  exact ⟨p, vd, rfl, e1 ▸ DGet.k (k := .inl i) hv, k _ _ _ _ q (f1.trans f2) w2 rd⟩
/-- d[i] = v with a new key, d owned -/
def dDPut (Ta Te Tv : TD) : TSD := fun E ρ ω => Tv ρ ω fun v ω1 => Ta ρ ω1 fun x ω2 => Te ρ ω2 fun y ω3 => ∃ (p : Addr) (i : Int) (kds : List (Key × D)), x = .raw (.ref p) ∧ y = .int i ∧ ω3 p = some (.dK kds) ∧ lookI kds i = none ∧ kds.length < sizeLine ∧ E.nx ρ (oset ω3 p (.dK (kds ++ [(.inl i, v)])))
end
section
variable {K : PySem.W.Frag} {X : Cx} {h : Fp} {H : Hp} {ω : Om} {a b : Expr} {pos p tpos : Pos} {T : TAD} {elts : List Expr} {kk : Nat}
/-- the items of two tuples in pairs -/
def zipD : List D → List D → List D
  | x :: xs, y :: ys => .tup [x, y] :: zipD xs ys
  | _, _ => []
theorem zipD_get : ∀ {xs ys : List D} {i : Nat} {d : D}, (zipD xs ys)[i]? = some d → ∃ x y, xs[i]? = some x ∧ ys[i]? = some y ∧ d = .tup [x, y]
  | x :: xs, y :: ys, 0, d, e => by cases e; exact ⟨x, y, rfl, rfl, rfl⟩
  | x :: xs, y :: ys, i + 1, d, e => zipD_get (xs := xs) (ys := ys) e
  | [], _, i, d, e => by simp [zipD] at e
  | _ :: _, [], i, d, e => by simp [zipD] at e
theorem zipD_len : ∀ {xs ys : List D}, (zipD xs ys).length = min xs.length ys.length
  | [], _ => by simp [zipD]
  | _ :: _, [] => by simp [zipD]
  | _ :: xs, _ :: ys => by
    simp only [zipD, List.length_cons, zipD_len (xs := xs) (ys := ys)]
    omega
def dZip (T : TAD) : TID := fun ρ ω Q => T ρ ω fun ds ω1 => ∃ xs ys, ds = [.tup xs, .tup ys] ∧ Q (zipD xs ys) (fun _ => True) ω1
/-- a comprehension with two names -/
theorem gok_two [Amb] {i j : Nat} {vs : List Nat} (hi : i ∈ vs) (hj : j ∈ vs) : GOk K (gTup K 2 (gCons (gName i) (gCons (gName j) gNil))) (dgTup 2 (dgCons (dgName i) (dgCons (dgName j) dgNil))) vs := ⟨fun h σ ρ ω d v H R Q sl w r t k => by
  obtain ⟨xs, rfl, l, x, xs', rfl, y, ys', e2, e3, t⟩ := t
  cases e2
  cases e3
  cases r with
  | tup s ra =>
    obtain ⟨v1, v2, rfl, r1, r2⟩ := ra.two
    refine ⟨_, _, rfl, s.sq, rfl, _, _, rfl, _, _, rfl, rfl, ?_⟩
    refine k _ _ ?_ t ((sl.set r1 i).set r2 j)
    rw [wipe_set hj, wipe_set hi, wipe_wipe σ vs vs fun _ z => z]⟩
end
section
variable {ρ : Rho} {ω : Om} {Q : DQ} {Ta Te Tv : TD} {T : TAD} {xs ys : List D} {p : Addr} {QI : List D → (Om → Prop) → Om → Prop} {neg : Bool}
theorem st_lstRgO (h : T ρ ω fun xs ω1 => ∃ n, xs = [.int n] ∧ RgOk 0 n ∧ ∀ p, ω1 p = none → Q (.raw (.ref p)) (oset ω1 p (.lst (rngD 0 n.toNat)))) : dLstRgO T ρ ω Q := h
theorem st_pop (h : Ta ρ ω fun x ω1 => ∃ p, x = .raw (.ref p) ∧ (∃ xs, ω1 p = some (.lst xs)) ∧ Te ρ ω1 fun y ω2 => ∃ (n : Nat) (xs : List D) (d : D), y = .int n ∧ n < 2 ^ 40 ∧ ω2 p = some (.lst xs) ∧ xs[n]? = some d ∧ Q d (oset ω2 p (.lst (xs.eraseIdx n)))) : dPop Ta Te ρ ω Q := h
theorem st_dic0O (h : ∀ p, ω p = none → Q (.raw (.ref p)) (oset ω p (.dK []))) : dDic0O ρ ω Q := h
theorem st_dget (h : Ta ρ ω fun x ω1 => Te ρ ω1 fun y ω2 => ∃ (p : Addr) (i : Int) (kds : List (Key × D)) (d : D), x = .raw (.ref p) ∧ y = .int i ∧ ω2 p = some (.dK kds) ∧ lookI kds i = some d ∧ Q d ω2) : dDGet Ta Te ρ ω Q := h
theorem st_dput {E : DEnds} (h : Tv ρ ω fun v ω1 => Ta ρ ω1 fun x ω2 => Te ρ ω2 fun y ω3 => ∃ (p : Addr) (i : Int) (kds : List (Key × D)), x = .raw (.ref p) ∧ y = .int i ∧ ω3 p = some (.dK kds) ∧ lookI kds i = none ∧ kds.length < sizeLine ∧ E.nx ρ (oset ω3 p (.dK (kds ++ [(.inl i, v)])))) : dDPut Ta Te Tv E ρ ω := h
theorem st_zip (h : T ρ ω fun ds ω1 => ∃ xs ys, ds = [.tup xs, .tup ys] ∧ QI (zipD xs ys) (fun _ => True) ω1) : dZip T ρ ω QI := h
theorem st_zip' {Z : List D → List D → Prop} (h : Z xs ys) : ∃ xs' ys', [D.tup xs, D.tup ys] = [.tup xs', .tup ys'] ∧ Z xs' ys' := ⟨xs, ys, rfl, h⟩
end
end DL

/-! A list taken apart into names; list(..) that is owned; max and min of a list; the other deck. -/
namespace DL
open PySem PySem.Spec L2 PyProof.Rows
section
variable {X : Cx} {K : PySem.W.Frag} {h : Fp} {H : Hp} {ω : Om} {pos : Pos} {es : List Expr}
def dgLst (n : Nat) (t : TGsD) : TGD := fun x ρ ω Q => ∃ xs, lstOf ω x = some xs ∧ xs.length = n ∧ t xs ρ ω Q
def dLstOfO : DOn := fun xs ω Q => ∃ x ys, xs = [x] ∧ (x = .tup ys ∨ lstOf ω x = some ys) ∧ ∀ p, ω p = none → Q (.raw (.ref p)) (oset ω p (.lst ys))
def dMaxL : DOn := fun xs ω Q => ∃ (x : D) (ns : List Int), xs = [x] ∧ lstOf ω x = some (ns.map D.int) ∧ 0 < ns.length ∧ ∀ m, m ∈ ns → (∀ y, y ∈ ns → y ≤ m) → Q (.int m) ω
def dMinL : DOn := fun xs ω Q => ∃ (x : D) (ns : List Int), xs = [x] ∧ lstOf ω x = some (ns.map D.int) ∧ 0 < ns.length ∧ ∀ m, m ∈ ns → (∀ y, y ∈ ns → m ≤ y) → Q (.int m) ω
end
section
variable {ρ : Rho} {ω : Om} {Q : DQ} {xs : List D} {x : D} {n : Nat} {gs : TGsD} {QS : Rho → Om → Prop} {ns : List Int}
end
/-- what was owned besides two cells is as it was -/
def Ext2 (a p : Addr) (ω ω' : Om) : Prop := ∀ b, b ≠ a → b ≠ p → ω b ≠ none → ω' b = ω b
theorem Ext2.refl {a p : Addr} {ω : Om} : Ext2 a p ω ω := fun _ _ _ _ => rfl
theorem Ext2.trans {a p : Addr} {ω ω1 ω2 : Om} (x : Ext2 a p ω ω1) (y : Ext2 a p ω1 ω2) : Ext2 a p ω ω2 := fun b na np h => (y b na np (by rw [x b na np h]; exact h)).trans (x b na np h)
theorem Ext2.cell {a p b : Addr} {ω ω' : Om} {c : Cell} (x : Ext2 a p ω ω') (na : b ≠ a) (np : b ≠ p) (e : ω b = some c) : ω' b = some c := (x b na np (by rw [e]; exact fun z => nomatch z)).trans e
theorem Ext2.of {a p : Addr} {ω ω' : Om} (x : Ext ω ω') : Ext2 a p ω ω' := fun b _ _ h => x b h
/-- the other deck: cells, a count, what is left of the great ones -/
def Drawn0 (ω : Om) (a p : Addr) (N : Nat) : Prop := a ≠ p ∧ ∃ (cells rests : List Int) (n : Nat), ω a = some (.lst [.lst (cells.map D.int), .int n, .raw (.ref p)]) ∧ ω p = some (.lst (rests.map D.int)) ∧ n ≤ N ∧ 0 < cells.length ∧ cells.length ≤ 64 ∧ rests.length = cells.length
/-- the same, and all else that was owned at the start -/
def Drawn (ω0 ω : Om) (a p : Addr) (N : Nat) : Prop := Drawn0 ω a p N ∧ Ext2 a p ω0 ω
theorem Drawn0.le {ω : Om} {a p : Addr} {N M : Nat} (h : Drawn0 ω a p N) (l : N ≤ M) : Drawn0 ω a p M := by
  obtain ⟨ne, cs, rs, n, h1, h2, h3, h4⟩ := h
  exact ⟨ne, cs, rs, n, h1, h2, Nat.le_trans h3 l, h4⟩
theorem Drawn0.has {ω : Om} {a p b : Addr} {N : Nat} (h : Drawn0 ω a p N) (e : ω b = none) : b ≠ a ∧ b ≠ p := by
  obtain ⟨ne, cs, rs, n, h1, h2, _⟩ := h
  refine ⟨fun z => ?_, fun z => ?_⟩
  · rw [z, h1] at e
    cases e
  · rw [z, h2] at e
    cases e
theorem Drawn0.set {ω : Om} {a p b : Addr} {N : Nat} {c : Cell} (h : Drawn0 ω a p N) (na : b ≠ a) (np : b ≠ p) : Drawn0 (oset ω b c) a p N := by
  obtain ⟨ne, cs, rs, n, h1, h2, h3⟩ := h
  exact ⟨ne, cs, rs, n, by rw [oset_ne (Ne.symm na)]; exact h1, by rw [oset_ne (Ne.symm np)]; exact h2, h3⟩
theorem Drawn0.ext {ω ω' : Om} {a p : Addr} {N : Nat} (h : Drawn0 ω a p N) (x : Ext ω ω') : Drawn0 ω' a p N := by
  obtain ⟨ne, cs, rs, n, h1, h2, h3⟩ := h
  exact ⟨ne, cs, rs, n, x.cell h1, x.cell h2, h3⟩
theorem Drawn.le {ω0 ω : Om} {a p : Addr} {N M : Nat} (h : Drawn ω0 ω a p N) (l : N ≤ M) : Drawn ω0 ω a p M := ⟨h.1.le l, h.2⟩
theorem Drawn.has {ω0 ω : Om} {a p b : Addr} {N : Nat} (h : Drawn ω0 ω a p N) (e : ω b = none) : b ≠ a ∧ b ≠ p := h.1.has e
theorem Drawn.free {ω0 ω : Om} {a p b : Addr} {N : Nat} (h : Drawn ω0 ω a p N) (e : ω b = none) : ω0 b = none := by
  obtain ⟨na, np⟩ := h.has e
  cases z : ω0 b with
  | none => rfl
  | some c =>
    have y := h.2.cell na np z
    rw [e] at y
    cases y
theorem Drawn.set {ω0 ω : Om} {a p b : Addr} {N : Nat} {c : Cell} (h : Drawn ω0 ω a p N) (na : b ≠ a) (np : b ≠ p) (f : ω0 b = none) : Drawn ω0 (oset ω b c) a p N := ⟨h.1.set na np, fun x xa xp hx => by
  rw [oset_ne fun e => hx (by rw [e]; exact f)]
  exact h.2 x xa xp hx⟩
theorem Drawn.go {ω0 ω ω' : Om} {a p : Addr} {N M : Nat} (h : Drawn ω0 ω a p N) (h2 : Drawn ω ω' a p M) : Drawn ω0 ω' a p M := ⟨h2.1, h.2.trans h2.2⟩
theorem Drawn.start {ω : Om} {a p : Addr} {N : Nat} (h : Drawn0 ω a p N) : Drawn ω ω a p N := ⟨h, Ext2.refl⟩
/-- a number below k -/
def NextS : SpD := fun ds ω R => ∃ a p N, ∃ k : Int, ds = [.raw (.ref a), .int k] ∧ 0 < k ∧ k < 2 ^ 100 ∧ Drawn0 ω a p N ∧ N ≤ 2 ^ 20 ∧ ∀ (i : Int) ω', 0 ≤ i → i < k → Drawn0 ω' a p (N + 1) → (∀ b, b ≠ a → b ≠ p → ω' b = ω b) → R (.int i) ω'
end DL

/-! The mathematics of towers: groups, moves, who is stuck, stones. -/
namespace DL
open PySem PySem.Spec L2
theorem sum_nonneg : ∀ {l : List Int}, (∀ w ∈ l, 0 ≤ w) → 0 ≤ l.sum
  | [], _ => by simp
  | a :: l, h => by
    rw [List.sum_cons]
    have := h a (by simp)
    have := sum_nonneg fun w hw => h w (List.mem_cons_of_mem _ hw)
    omega
/-- what all lighter ones weigh -/
def lite (ws : List Int) (w : Int) : Int := (ws.filter fun v => decide (v < w)).sum
theorem filt_mapI (t : D → Bool) (t' : Int → Bool) (h : ∀ n, t (.int n) = t' n) : ∀ ns : List Int, ((ns.map D.int).filter t).map id = (ns.filter t').map D.int
  | [] => rfl
  | n :: ns => by
    have ih := filt_mapI t t' h ns
    rw [List.map_id] at ih ⊢
    rw [List.map_cons, List.filter_cons, List.filter_cons, h n, ih]
    cases t' n <;> rfl
/-- what the people weigh together -/
def wt (ws ns : List Int) : Int := (ns.map fun n => ws.getD n.toNat 0).sum
/-- a group as its numbers -/
def GrpI (n : Nat) (gs : List Int) : Prop := (∀ k ∈ gs, 0 ≤ k ∧ k < (n : Int)) ∧ gs.Pairwise (· < ·)
theorem grp_len {n : Nat} : ∀ (gs : List Int) (lo : Int), (∀ k ∈ gs, lo ≤ k ∧ k < (n : Int)) → gs.Pairwise (· < ·) → gs ≠ [] → (gs.length : Int) ≤ n - lo
  | [], _, _, _, h => absurd rfl h
  | g :: gs, lo, h, p, _ => by
    obtain ⟨p1, p2⟩ := List.pairwise_cons.mp p
    have hg := h g (by simp)
    rw [List.length_cons]
    by_cases e : gs = []
    · subst e
      simp
      omega
    · have := grp_len (n := n) gs (g + 1) (fun k hk => by have := p1 k hk; have := h k (List.mem_cons_of_mem _ hk); exact ⟨by omega, this.2⟩) p2 e
      omega
theorem GrpI.len {n : Nat} {gs : List Int} (h : GrpI n gs) : gs.length ≤ n := by
  by_cases e : gs = []
  · subst e
    exact Nat.zero_le _
  · have := grp_len gs 0 h.1 h.2 e
    omega
theorem lt_nodup {xs : List Int} (h : xs.Pairwise (· < ·)) : xs.Nodup := h.imp fun z => Int.ne_of_lt z
theorem wt_split (ws : List Int) (t : Int → Bool) : ∀ ns : List Int, wt ws ns = wt ws (ns.filter t) + wt ws (ns.filter fun n => !t n)
  | [] => rfl
  | n :: ns => by
    have ih := wt_split ws t ns
    unfold wt at ih ⊢
    rw [List.filter_cons, List.filter_cons]
    cases t n <;> simp only [List.map_cons, List.sum_cons, Bool.not_true, Bool.not_false, if_true, if_false, Bool.false_eq_true, ih] <;> omega
def ups (n : Nat) : List Int := (List.range n).map fun i : Nat => (i : Int)
theorem mem_ups {n : Nat} {k : Int} : k ∈ ups n ↔ 0 ≤ k ∧ k < n := by
  unfold ups
  rw [List.mem_map]
  constructor
  · rintro ⟨i, hi, rfl⟩
    rw [List.mem_range] at hi
    omega
  · rintro ⟨h0, h1⟩
    exact ⟨k.toNat, List.mem_range.mpr (by omega), by omega⟩
theorem ups_lt (n : Nat) : (ups n).Pairwise (· < ·) := List.pairwise_lt_range.map _ fun _ _ h => Int.ofNat_lt.mpr h
theorem ups_len {n : Nat} : (ups n).length = n := by
  unfold ups
  rw [List.length_map, List.length_range]
/-- each one is at most x more than all behind it -/
def Slow (x : Int) : List Int → Prop
  | [] => True
  | a :: l => a ≤ x + l.sum ∧ Slow x l
/-- whatever is less than all together is passed by at most x -/
theorem slow_dense {x : Int} : ∀ {l : List Int}, Slow x l → ∀ t : Int, 0 ≤ t → t < l.sum → ∃ s : List Int, s.Sublist l ∧ t < s.sum ∧ s.sum ≤ t + x
  | [], _, t, h0, h1 => by simp at h1; omega
  | a :: l, ⟨ha, hl⟩, t, h0, h1 => by
    rw [List.sum_cons] at h1
    by_cases c : t < l.sum
    · obtain ⟨s, s1, s2, s3⟩ := slow_dense hl t h0 c
      exact ⟨s, s1.cons a, s2, s3⟩
    · by_cases c2 : t < a
      · exact ⟨[a], (List.nil_sublist l).cons_cons a, by simpa using c2, by simp; omega⟩
      · obtain ⟨s, s1, s2, s3⟩ := slow_dense hl (t - a) (by omega) (by omega)
        refine ⟨a :: s, s1.cons_cons a, ?_, ?_⟩ <;> rw [List.sum_cons] <;> omega
theorem sum_filter {t : Int → Bool} : ∀ {l : List Int}, (∀ w ∈ l, 0 ≤ w) → (l.filter t).sum ≤ l.sum
  | [], _ => by simp
  | a :: l, h => by
    have ih := sum_filter (t := t) fun w hw => h w (List.mem_cons_of_mem _ hw)
    have := h a (by simp)
    rw [List.filter_cons]
    cases t a
    · rw [if_neg (by decide), List.sum_cons]
      omega
    · rw [if_pos rfl, List.sum_cons, List.sum_cons]
      omega
theorem sum_perm {as bs : List Int} (h : as.Perm bs) : as.sum = bs.sum := by
  induction h with
  | nil => rfl
  | cons a _ ih => rw [List.sum_cons, List.sum_cons, ih]
  | swap a b l =>
    simp only [List.sum_cons]
    omega
  | trans _ _ h1 h2 => exact h1.trans h2
/-- nobody is stuck -/
def Free (x : Int) (ws : List Int) : Prop := ∀ w ∈ ws, w ≤ x + lite ws w
theorem slow_desc {x : Int} {ws : List Int} (h1 : ∀ w ∈ ws, 1 ≤ w) (hf : Free x ws) : ∀ {l pre : List Int}, (pre ++ l).Perm ws → (pre ++ l).Pairwise (fun a b => b ≤ a) → Slow x l
  | [], _, _, _ => trivial
  | a :: l, pre, hp, hs => by
    have e : pre ++ a :: l = (pre ++ [a]) ++ l := by simp
    refine ⟨?_, slow_desc h1 hf (pre := pre ++ [a]) (e ▸ hp) (e ▸ hs)⟩
    have ma : a ∈ ws := hp.mem_iff.mp (by simp)
    have fa := hf a ma
    have lt : lite ws a = ((pre ++ a :: l).filter fun v => decide (v < a)).sum := by
      unfold lite
      exact sum_perm (hp.symm.filter _)
    have pn : (pre.filter fun v => decide (v < a)) = [] := List.filter_eq_nil_iff.mpr fun v hv => by
      have := (List.pairwise_append.mp hs).2.2 v hv a (by simp)
      simpa using this
    have an : ((a :: l).filter fun v => decide (v < a)) = l.filter fun v => decide (v < a) := by
      rw [List.filter_cons, if_neg (by simp)]
    rw [List.filter_append, pn, List.nil_append, an] at lt
    have : (l.filter fun v => decide (v < a)).sum ≤ l.sum := sum_filter fun w hw => by
      have := h1 w (hp.mem_iff.mp (by simp [hw]))
      omega
    omega
/-- the same, of the weights in any order -/
theorem free_dense {x : Int} {ws : List Int} (h1 : ∀ w ∈ ws, 1 ≤ w) (hf : Free x ws) (t : Int) (t0 : 0 ≤ t) (t1 : t < ws.sum) : ∃ s : List Int, s.Sublist ws ∧ t < s.sum ∧ s.sum ≤ t + x := by
  have hp : (ws.mergeSort fun a b => decide (b ≤ a)).Perm ws := List.mergeSort_perm ws _
  have hs : (ws.mergeSort fun a b => decide (b ≤ a)).Pairwise (fun a b => b ≤ a) := by
    have h := List.pairwise_mergeSort (le := fun a b : Int => decide (b ≤ a)) (fun a b c h1 h2 => decide_eq_true (Int.le_trans (of_decide_eq_true h2) (of_decide_eq_true h1))) (fun a b => by
      rcases Int.le_total b a with z | z
      · rw [decide_eq_true z]
        rfl
      · rw [decide_eq_true z, Bool.or_true]) ws
    exact h.imp fun z => of_decide_eq_true z
  obtain ⟨s, s1, s2, s3⟩ := slow_dense (slow_desc h1 hf (pre := []) hp hs) t t0 (by rw [sum_perm hp]; exact t1)
  obtain ⟨s', p', l'⟩ := List.exists_perm_sublist s1 hp
  exact ⟨s', l', by rw [sum_perm p']; exact s2, by rw [sum_perm p']; exact s3⟩
/-- a part of the weights is a group's -/
theorem sub_grp : ∀ {s ws : List Int}, s.Sublist ws → ∀ j : Nat, ∃ ns : List Int, (∀ k ∈ ns, (j : Int) ≤ k ∧ k < (j + ws.length : Nat)) ∧ ns.Pairwise (· < ·) ∧ ns.map (fun k : Int => ws.getD (k - (j : Int)).toNat 0) = s
  | _, _, .slnil, j => ⟨[], fun _ h => (nomatch h), .nil, rfl⟩
  | s, _ :: ws, .cons a h, j => by
    obtain ⟨ns, h1, h2, h3⟩ := sub_grp h (j + 1)
    refine ⟨ns, fun k hk => ?_, h2, ?_⟩
    · have := h1 k hk
      rw [List.length_cons]
      omega
    · rw [← h3]
      refine List.map_congr_left fun k hk => ?_
      have := h1 k hk
      rw [show (k - (j : Int)).toNat = (k - ((j + 1 : Nat) : Int)).toNat + 1 by omega]
      rfl
  | _ :: s, a :: ws, .cons_cons _ h, j => by
    obtain ⟨ns, h1, h2, h3⟩ := sub_grp h (j + 1)
    refine ⟨(j : Int) :: ns, fun k hk => ?_, List.pairwise_cons.mpr ⟨fun k hk => by have := h1 k hk; omega, h2⟩, ?_⟩
    · rw [List.length_cons]
      rcases List.mem_cons.mp hk with z | z
      · omega
      · have := h1 k z
        omega
    · rw [List.map_cons, ← h3]
      refine congr (congrArg _ ?_) (List.map_congr_left fun k hk => ?_)
      · rw [show ((j : Int) - (j : Int)).toNat = 0 by omega]
        rfl
      · have := h1 k hk
        rw [show (k - (j : Int)).toNat = (k - ((j + 1 : Nat) : Int)).toNat + 1 by omega]
        rfl
theorem next_grp {x : Int} {ws : List Int} (h1 : ∀ w ∈ ws, 1 ≤ w) (hf : Free x ws) (t : Int) (t0 : 0 ≤ t) (t1 : t < ws.sum) : ∃ ns, GrpI ws.length ns ∧ t < wt ws ns ∧ wt ws ns ≤ t + x := by
  obtain ⟨s, s1, s2, s3⟩ := free_dense h1 hf t t0 t1
  obtain ⟨ns, n1, n2, n3⟩ := sub_grp s1 0
  have e : wt ws ns = s.sum := by
    rw [← n3]
    unfold wt
    refine congrArg List.sum (List.map_congr_left fun k _ => ?_)
    rw [show (k - ((0 : Nat) : Int)).toNat = k.toNat by omega]
  exact ⟨ns, ⟨fun k hk => by have := n1 k hk; omega, n2⟩, by rw [e]; exact s2, by rw [e]; exact s3⟩
theorem wt_ups (ws : List Int) : wt ws (ups ws.length) = ws.sum := by
  unfold wt ups
  rw [List.map_map]
  refine congrArg List.sum (List.ext_getElem? fun j => ?_)
  rw [List.getElem?_map]
  by_cases c : j < ws.length
  · rw [List.getElem?_range c, List.getElem?_eq_getElem c]
    show some (ws.getD (j : Int).toNat 0) = _
    rw [Int.toNat_natCast, List.getD_eq_getElem?_getD, List.getElem?_eq_getElem c]
    rfl
  · rw [List.getElem?_eq_none (by rw [List.length_range]; omega), List.getElem?_eq_none (by omega)]
    rfl
theorem wt_pos {ws ns : List Int} (h1 : ∀ w ∈ ws, 1 ≤ w) (hn : ∀ k ∈ ns, 0 ≤ k ∧ k < (ws.length : Int)) : (ns.length : Int) ≤ wt ws ns := by
  induction ns with
  | nil => exact Int.le_refl _
  | cons n ns ih =>
    have ih := ih fun k hk => hn k (List.mem_cons_of_mem _ hk)
    have hb := hn n (by simp)
    unfold wt at ih ⊢
    rw [List.map_cons, List.sum_cons, List.length_cons]
    have : 1 ≤ ws.getD n.toNat 0 := by
      rw [List.getD_eq_getElem?_getD, List.getElem?_eq_getElem (show n.toNat < ws.length by omega)]
      exact h1 _ (List.getElem_mem _)
    omega
theorem whole_only {ws ns : List Int} (h1 : ∀ w ∈ ws, 1 ≤ w) (hg : GrpI ws.length ns) (e : wt ws ns = ws.sum) : ns = ups ws.length := by
  refine sorted_eq hg.2 (ups_lt _) fun k => ⟨fun hk => mem_ups.mpr (hg.1 k hk), fun hk => ?_⟩
  have sp := wt_split ws (fun k => decide (k ∈ ns)) (ups ws.length)
  have ein : ((ups ws.length).filter fun k => decide (k ∈ ns)) = ns := sorted_eq ((ups_lt _).filter _) hg.2 fun k => by
    rw [List.mem_filter, decide_eq_true_eq, mem_ups]
    exact ⟨fun h => h.2, fun h => ⟨hg.1 k h, h⟩⟩
  rw [ein, wt_ups] at sp
  have po := wt_pos (ns := (ups ws.length).filter fun n => !decide (n ∈ ns)) h1 fun k hk => mem_ups.mp (List.mem_filter.mp hk).1
  have ln : ((ups ws.length).filter fun n => !decide (n ∈ ns)).length = 0 := by omega
  have nn := List.eq_nil_of_length_eq_zero ln
  by_cases c : k ∈ ns
  · exact c
  · have : k ∈ (ups ws.length).filter fun n => !decide (n ∈ ns) := List.mem_filter.mpr ⟨hk, by rw [decide_eq_false c]; rfl⟩
    rw [nn] at this
    cases this
/-- what is closed under moves and has nobody has all, if nobody is stuck -/
theorem whole_in {x : Int} {ws : List Int} (h1 : ∀ w ∈ ws, 1 ≤ w) (hf : Free x ws) {S : List Int → Prop} (s0 : S []) (sg : ∀ g, S g → GrpI ws.length g) (cl : ∀ g g', S g → GrpI ws.length g' → 1 ≤ wt ws g' - wt ws g → wt ws g' - wt ws g ≤ x → S g') : S (ups ws.length) := by
  have go : ∀ n : Nat, ∀ g, S g → (ws.sum - wt ws g).toNat ≤ n → S (ups ws.length) := by
    intro n
    induction n with
    | zero =>
      intro g hg hn
      by_cases c : wt ws g < ws.sum
      · omega
      · have sp := wt_split ws (fun k => decide (k ∈ g)) (ups ws.length)
        have ein : ((ups ws.length).filter fun k => decide (k ∈ g)) = g := sorted_eq ((ups_lt _).filter _) (sg g hg).2 fun k => by
          rw [List.mem_filter, decide_eq_true_eq, mem_ups]
          exact ⟨fun h => h.2, fun h => ⟨(sg g hg).1 k h, h⟩⟩
        rw [ein, wt_ups] at sp
        have po := wt_pos (ns := (ups ws.length).filter fun n => !decide (n ∈ g)) h1 fun k hk => mem_ups.mp (List.mem_filter.mp hk).1
        rw [← whole_only h1 (sg g hg) (by omega)]
        exact hg
    | succ n ih =>
      intro g hg hn
      by_cases c : wt ws g < ws.sum
      · have p0 := wt_pos h1 (sg g hg).1
        obtain ⟨g', g1, g2, g3⟩ := next_grp h1 hf (wt ws g) (by omega) c
        exact ih g' (cl g g' hg g1 (by omega) (by omega)) (by omega)
      · exact ih g hg (by omega)
  exact go _ [] s0 (Nat.le_refl _)
/-- a person of a group weighs no more than the group -/
theorem wt_mem {ws : List Int} {k : Int} : ∀ {ns : List Int}, (∀ w ∈ ws, 1 ≤ w) → (∀ k ∈ ns, 0 ≤ k ∧ k < (ws.length : Int)) → k ∈ ns → ws.getD k.toNat 0 ≤ wt ws ns
  | [], _, _, h => nomatch h
  | n :: ns, h1, hn, h => by
    have hb := hn n (by simp)
    have hr := wt_pos h1 fun k hk => hn k (List.mem_cons_of_mem _ hk)
    have e : wt ws (n :: ns) = ws.getD n.toNat 0 + wt ws ns := by
      unfold wt
      rw [List.map_cons, List.sum_cons]
    have : 1 ≤ ws.getD n.toNat 0 := by
      rw [List.getD_eq_getElem?_getD, List.getElem?_eq_getElem (show n.toNat < ws.length by omega)]
      exact h1 _ (List.getElem_mem _)
    rcases List.mem_cons.mp h with z | z
    · subst z
      omega
    · have := wt_mem h1 (fun k hk => hn k (List.mem_cons_of_mem _ hk)) z
      omega
theorem wt_lite {ws ns : List Int} {w : Int} (h1 : ∀ w ∈ ws, 1 ≤ w) (hg : GrpI ws.length ns) (hl : ∀ k ∈ ns, ws.getD k.toNat 0 < w) : wt ws ns ≤ lite ws w := by
  have a : wt ws ns ≤ wt ws ((ups ws.length).filter fun k => decide (ws.getD k.toNat 0 < w)) := by
    have sp := wt_split ws (fun k => decide (k ∈ ns)) ((ups ws.length).filter fun k => decide (ws.getD k.toNat 0 < w))
    have ein : (((ups ws.length).filter fun k => decide (ws.getD k.toNat 0 < w)).filter fun k => decide (k ∈ ns)) = ns := sorted_eq (((ups_lt _).filter _).filter _) hg.2 fun k => by
      rw [List.mem_filter, List.mem_filter, decide_eq_true_eq, decide_eq_true_eq, mem_ups]
      exact ⟨fun h => h.2, fun h => ⟨⟨hg.1 k h, hl k h⟩, h⟩⟩
    rw [ein] at sp
    have po := wt_pos (ns := ((ups ws.length).filter fun k => decide (ws.getD k.toNat 0 < w)).filter fun n => !decide (n ∈ ns)) h1 fun k hk => mem_ups.mp (List.mem_filter.mp (List.mem_filter.mp hk).1).1
    omega
  have b : wt ws ((ups ws.length).filter fun k => decide (ws.getD k.toNat 0 < w)) = lite ws w := by
    unfold lite wt
    have e : ws = (ups ws.length).map fun k => ws.getD k.toNat 0 := by
      refine List.ext_getElem? fun j => ?_
      unfold ups
      rw [List.map_map, List.getElem?_map]
      by_cases c : j < ws.length
      · rw [List.getElem?_range c, List.getElem?_eq_getElem c]
        show _ = some (ws.getD (j : Int).toNat 0)
        rw [Int.toNat_natCast, List.getD_eq_getElem?_getD, List.getElem?_eq_getElem c]
        rfl
      · rw [List.getElem?_eq_none (by omega), List.getElem?_eq_none (by rw [List.length_range]; omega)]
        rfl
    have f : ws.filter (fun v => decide (v < w)) = ((ups ws.length).map fun k => ws.getD k.toNat 0).filter (fun v => decide (v < w)) := congrArg (List.filter _) e
    rw [f, List.filter_map]
    rfl
  omega
/-- what moves lead to stays below whoever is stuck -/
theorem whole_out {x : Int} {ws : List Int} (h1 : ∀ w ∈ ws, 1 ≤ w) {w : Int} (hw : w ∈ ws) (st : x + lite ws w < w) (x0 : 0 ≤ x) : (∀ g g', GrpI ws.length g' → wt ws g ≤ lite ws w → wt ws g' - wt ws g ≤ x → wt ws g' ≤ lite ws w) ∧ lite ws w < wt ws (ups ws.length) := by
  refine ⟨fun g g' hg hl hx => wt_lite h1 hg fun k hk => ?_, ?_⟩
  · have := wt_mem h1 hg.1 hk
    omega
  · rw [wt_ups]
    obtain ⟨j, hj, ej⟩ := List.mem_iff_getElem.mp hw
    have m := wt_mem (k := (j : Int)) (ns := ups ws.length) h1 (fun k hk => mem_ups.mp hk) (mem_ups.mpr ⟨by omega, by omega⟩)
    rw [wt_ups, Int.toNat_natCast, List.getD_eq_getElem?_getD, List.getElem?_eq_getElem hj, ej] at m
    have : w ≤ ws.sum := m
    omega
/-- all groups of the first people, as they are listed -/
def allG : Nat → List (List Int)
  | 0 => [[]]
  | n + 1 => allG n ++ (allG n).map fun g => g ++ [(n : Int)]
theorem allG_len : ∀ n, (allG n).length = 2 ^ n
  | 0 => rfl
  | n + 1 => by
    rw [allG, List.length_append, List.length_map, allG_len n, Nat.pow_succ]
    omega
theorem allG_grp : ∀ {n : Nat} {g : List Int}, g ∈ allG n → GrpI n g
  | 0, g, h => by
    have e : g = [] := by simpa [allG] using h
    subst e
    exact ⟨fun _ h => (nomatch h), .nil⟩
  | n + 1, g, h => by
    rcases List.mem_append.mp h with z | z
    · have := allG_grp z
      exact ⟨fun k hk => by have := this.1 k hk; omega, this.2⟩
    · obtain ⟨g0, h0, rfl⟩ := List.mem_map.mp z
      have g1 := allG_grp h0
      refine ⟨fun k hk => ?_, List.pairwise_append.mpr ⟨g1.2, List.pairwise_singleton _ _, fun x hx y hy => ?_⟩⟩
      · rcases List.mem_append.mp hk with y | y
        · have := g1.1 k y
          omega
        · rw [List.mem_singleton] at y
          omega
      · rw [List.mem_singleton] at hy
        have := g1.1 x hx
        omega
theorem grp_allG : ∀ {n : Nat} {g : List Int}, GrpI n g → g ∈ allG n
  | 0, g, h => by
    have e : g = [] := by
      match g, h with
      | [], _ => rfl
      | k :: _, h =>
        have := h.1 k (by simp)
        omega
    subst e
    exact List.mem_singleton.mpr rfl
  | n + 1, g, h => by
    rw [allG]
    by_cases c : (n : Int) ∈ g
    · refine List.mem_append.mpr (.inr (List.mem_map.mpr ⟨g.filter fun k => decide (k < (n : Int)), grp_allG ⟨fun k hk => ?_, h.2.filter _⟩, ?_⟩))
      · obtain ⟨h1, h2⟩ := List.mem_filter.mp hk
        have := h.1 k h1
        have := of_decide_eq_true h2
        omega
      · have p2 : (g.filter (fun k => decide (k < (n : Int))) ++ [(n : Int)]).Pairwise (· < ·) := List.pairwise_append.mpr ⟨h.2.filter _, List.pairwise_singleton _ _, fun x hx y hy => by
          rw [List.mem_singleton] at hy
          have := of_decide_eq_true (List.mem_filter.mp hx).2
          omega⟩
        refine sorted_eq p2 h.2 fun k => ?_
        rw [List.mem_append, List.mem_filter, List.mem_singleton, decide_eq_true_eq]
        constructor
        · rintro (z | z)
          · exact z.1
          · rw [z]
            exact c
        · intro hk
          have := h.1 k hk
          by_cases e : k = (n : Int)
          · exact .inr e
          · exact .inl ⟨hk, by omega⟩
    · refine List.mem_append.mpr (.inl (grp_allG ⟨fun k hk => ?_, h.2⟩))
      have := h.1 k hk
      have ne : k ≠ (n : Int) := fun e => c (e ▸ hk)
      omega
def tupI (g : List Int) : D := .tup (g.map D.int)
theorem lite_perm {as bs : List Int} (h : as.Perm bs) (w : Int) : lite as w = lite bs w := sum_perm (h.filter _)
theorem sum_snoc (l : List Int) (x : Int) : (l ++ [x]).sum = l.sum + x := by
  rw [List.sum_append_int]
  simp
theorem lite_snoc (l : List Int) (x w : Int) : lite (l ++ [x]) w = lite l w + if x < w then x else 0 := by
  unfold lite
  rw [List.filter_append, List.sum_append_int]
  by_cases c : x < w
  · rw [if_pos c, List.filter_cons, if_pos (decide_eq_true c)]
    simp
  · rw [if_neg c, List.filter_cons, if_neg (by simpa using c)]
    simp
theorem lite_all {l : List Int} {w : Int} (h : ∀ v ∈ l, v < w) : lite l w = l.sum := by
  unfold lite
  rw [List.filter_eq_self.mpr fun v hv => decide_eq_true (h v hv)]
theorem perm_sorted {as bs : List Int} (p : as.Perm bs) (ha : as.Pairwise (· ≤ ·)) (hb : bs.Pairwise (· ≤ ·)) : as = bs :=
  List.Perm.eq_of_pairwise (le := fun a b : Int => a ≤ b) (fun a b _ _ h1 h2 => Int.le_antisymm h1 h2) ha hb p
/-- the weights from the lightest on -/
def srt (ws : List Int) : List Int := ws.mergeSort fun a b => decide (a ≤ b)
theorem srt_perm (ws : List Int) : (srt ws).Perm ws := List.mergeSort_perm ws _
theorem srt_le (ws : List Int) : (srt ws).Pairwise (· ≤ ·) := by
  have h := List.pairwise_mergeSort (le := fun a b : Int => decide (a ≤ b)) (fun a b c h1 h2 => decide_eq_true (Int.le_trans (of_decide_eq_true h1) (of_decide_eq_true h2))) (fun a b => by
    rcases Int.le_total a b with z | z
    · rw [decide_eq_true z]
      rfl
    · rw [decide_eq_true z, Bool.or_true]) ws
  exact h.imp fun z => of_decide_eq_true z
theorem srt_eq {as ws : List Int} (p : as.Perm ws) (h : as.Pairwise (· ≤ ·)) : as = srt ws := perm_sorted (p.trans (srt_perm ws).symm) h (srt_le ws)
/-- stones ahead of a weight: all before it, and the stones -/
def stB (e w : Int) : Nat → List Int × List Int → List Int × List Int
  | 0, z => z
  | n + 1, z => if e + z.1.sum < w then stB e w n (z.1 ++ [e + z.1.sum], z.2 ++ [e + z.1.sum]) else z
def stW (e : Int) (z : List Int × List Int) (w : Int) : List Int × List Int := ((stB e w 21 z).1 ++ [w], (stB e w 21 z).2)
def stonesZ (e : Int) (l : List Int) : List Int × List Int := l.foldl (stW e) ([], [])
/-- the stones for the weights in ascending order -/
def stonesOf (e : Int) (l : List Int) : List Int := (stonesZ e l).2
structure Good (e : Int) (dn : List Int) (z : List Int × List Int) : Prop where
  e1 : 1 ≤ e
  pos : ∀ v ∈ z.1, 1 ≤ v
  lt : ∀ v ∈ z.1, v < e + z.1.sum
  fr : ∀ v ∈ z.1, v ≤ e + lite z.1 v
  asc : z.2.Pairwise (· < ·)
  pm : z.1.Perm (dn ++ z.2)
  pw : (2 ^ z.2.length : Int) ≤ e + z.1.sum
  le : z.2.length ≤ 20
  bd : ∀ v ∈ z.2, v ≤ 1000000
theorem Good.start {e : Int} (h : 1 ≤ e) : Good e [] ([], []) := ⟨h, fun _ h => (nomatch h), fun _ h => (nomatch h), fun _ h => (nomatch h), .nil, .nil, by simpa using h, by decide, fun _ h => (nomatch h)⟩
theorem Good.sm {e : Int} {dn : List Int} {z : List Int × List Int} (h : Good e dn z) : 0 ≤ z.1.sum := sum_nonneg fun v hv => by have := h.pos v hv; omega
theorem Good.sml {e w : Int} {dn : List Int} {z : List Int × List Int} (h : Good e dn z) (hw : w ≤ 1000000) (lt : e + z.1.sum < w) : z.2.length < 20 := by
  have p := h.pw
  by_cases c : z.2.length < 20
  · exact c
  · have : (2 ^ 20 : Int) ≤ 2 ^ z.2.length := by
      have := Nat.pow_le_pow_right (n := 2) (by decide) (show 20 ≤ z.2.length by omega)
      exact_mod_cast this
    omega
theorem Good.stone {e w : Int} {dn : List Int} {z : List Int × List Int} (h : Good e dn z) (hw : w ≤ 1000000) (lt : e + z.1.sum < w) : Good e dn (z.1 ++ [e + z.1.sum], z.2 ++ [e + z.1.sum]) := by
  have s0 := h.sm
  have e1 := h.e1
  have hl := h.sml hw lt
  refine ⟨e1, fun v hv => ?_, fun v hv => ?_, fun v hv => ?_, ?_, ?_, ?_, ?_, fun v hv => ?_⟩
  · rcases List.mem_append.mp hv with y | y
    · exact h.pos v y
    · rw [List.mem_singleton] at y
      omega
  · show v < e + (z.1 ++ [e + z.1.sum]).sum
    rw [sum_snoc]
    rcases List.mem_append.mp hv with y | y
    · have := h.lt v y
      omega
    · rw [List.mem_singleton] at y
      omega
  · show v ≤ e + lite (z.1 ++ [e + z.1.sum]) v
    rw [lite_snoc]
    rcases List.mem_append.mp hv with y | y
    · have := h.fr v y
      split <;> omega
    · rw [List.mem_singleton] at y
      subst y
      rw [lite_all h.lt, if_neg (by omega)]
      omega
  · refine List.pairwise_append.mpr ⟨h.asc, List.pairwise_singleton _ _, fun x hx y hy => ?_⟩
    rw [List.mem_singleton] at hy
    subst hy
    exact h.lt x (h.pm.mem_iff.mpr (List.mem_append.mpr (.inr hx)))
  · show (z.1 ++ [e + z.1.sum]).Perm (dn ++ (z.2 ++ [e + z.1.sum]))
    rw [← List.append_assoc]
    exact h.pm.append_right _
  · show (2 ^ (z.2 ++ [e + z.1.sum]).length : Int) ≤ e + (z.1 ++ [e + z.1.sum]).sum
    rw [List.length_append, sum_snoc]
    have p := h.pw
    show (2 ^ (z.2.length + 1) : Int) ≤ _
    rw [Int.pow_succ]
    omega
  · show (z.2 ++ [e + z.1.sum]).length ≤ 20
    rw [List.length_append]
    show z.2.length + 1 ≤ 20
    omega
  · rcases List.mem_append.mp hv with y | y
    · exact h.bd v y
    · rw [List.mem_singleton] at y
      omega
theorem Good.weight {e w : Int} {dn : List Int} {z : List Int × List Int} (h : Good e dn z) (hw : 1 ≤ w) (hs : ∀ v ∈ z.1, v ≤ w) (le : w ≤ e + z.1.sum) : Good e (dn ++ [w]) (z.1 ++ [w], z.2) := by
  have s0 := h.sm
  have e1 := h.e1
  refine ⟨e1, fun v hv => ?_, fun v hv => ?_, fun v hv => ?_, h.asc, ?_, ?_, h.le, h.bd⟩
  · rcases List.mem_append.mp hv with y | y
    · exact h.pos v y
    · rw [List.mem_singleton] at y
      omega
  · show v < e + (z.1 ++ [w]).sum
    rw [sum_snoc]
    rcases List.mem_append.mp hv with y | y
    · have := h.lt v y
      omega
    · rw [List.mem_singleton] at y
      omega
  · show v ≤ e + lite (z.1 ++ [w]) v
    rw [lite_snoc]
    have old : ∀ v ∈ z.1, v ≤ e + (lite z.1 v + if w < v then w else 0) := fun v y => by
      have := h.fr v y
      split <;> omega
    rcases List.mem_append.mp hv with y | y
    · exact old v y
    · rw [List.mem_singleton] at y
      subst y
      by_cases c : v ∈ z.1
      · exact old v c
      · have al : ∀ u ∈ z.1, u < v := fun u hu => by
          have := hs u hu
          have ne : u ≠ v := fun q => c (q ▸ hu)
          omega
        rw [lite_all al, if_neg (by omega)]
        omega
  · show (z.1 ++ [w]).Perm (dn ++ [w] ++ z.2)
    have p := h.pm.append_right [w]
    rw [List.append_assoc] at p ⊢
    exact p.trans (List.Perm.append_left dn List.perm_append_comm)
  · show (2 ^ z.2.length : Int) ≤ e + (z.1 ++ [w]).sum
    rw [sum_snoc]
    have := h.pw
    omega
theorem good_stB {e w : Int} {dn : List Int} (hw : w ≤ 1000000) : ∀ (n : Nat) (z : List Int × List Int), Good e dn z → (∀ v ∈ z.1, v ≤ w) → 20 < n + z.2.length → Good e dn (stB e w n z) ∧ (∀ v ∈ (stB e w n z).1, v ≤ w) ∧ w ≤ e + (stB e w n z).1.sum
  | 0, z, h, hs, l => by
    have := h.le
    omega
  | n + 1, z, h, hs, l => by
    rw [stB]
    by_cases c : e + z.1.sum < w
    · rw [if_pos c]
      refine good_stB hw n _ (h.stone hw c) (fun v hv => ?_) (by show 20 < n + (z.2 ++ [_]).length; rw [List.length_append]; show 20 < n + (z.2.length + 1); omega)
      rcases List.mem_append.mp hv with y | y
      · exact hs v y
      · rw [List.mem_singleton] at y
        omega
    · rw [if_neg c]
      exact ⟨h, hs, by omega⟩
theorem good_from {e : Int} : ∀ (l dn : List Int) (z : List Int × List Int), Good e dn z → (∀ w ∈ l, 1 ≤ w ∧ w ≤ 1000000) → l.Pairwise (· ≤ ·) → (∀ v ∈ z.1, ∀ w ∈ l, v ≤ w) → Good e (dn ++ l) (l.foldl (stW e) z)
  | [], dn, z, h, _, _, _ => by rw [List.append_nil]; exact h
  | w :: l, dn, z, h, hl, hp, hs => by
    obtain ⟨p1, p2⟩ := List.pairwise_cons.mp hp
    have bw := hl w (by simp)
    obtain ⟨g, gs, gw⟩ := good_stB bw.2 21 z h (fun v hv => hs v hv w (by simp)) (by omega)
    have g2 := g.weight bw.1 gs gw
    have := good_from l (dn ++ [w]) _ g2 (fun v hv => hl v (List.mem_cons_of_mem _ hv)) p2 fun v hv u hu => by
      rcases List.mem_append.mp hv with y | y
      · have := gs v y
        have := p1 u hu
        omega
      · rw [List.mem_singleton] at y
        rw [y]
        exact p1 u hu
    rw [List.append_assoc] at this
    exact this
theorem stones_good {e : Int} {ws : List Int} (e1 : 1 ≤ e) (hw : ∀ w ∈ ws, 1 ≤ w ∧ w ≤ 1000000) : Good e (srt ws) (stonesZ e (srt ws)) := by
  have := good_from (srt ws) [] ([], []) (Good.start e1) (fun w h => hw w ((srt_perm ws).mem_iff.mp h)) (srt_le ws) fun _ h => nomatch h
  exact this
/-- with the stones nobody is stuck -/
theorem stones_free {e : Int} {ws : List Int} (e1 : 1 ≤ e) (hw : ∀ w ∈ ws, 1 ≤ w ∧ w ≤ 1000000) : Free e (ws ++ stonesOf e (srt ws)) := by
  have g := stones_good e1 hw
  have p : (stonesZ e (srt ws)).1.Perm (ws ++ stonesOf e (srt ws)) := g.pm.trans ((srt_perm ws).append_right _)
  intro w h
  rw [← lite_perm p]
  exact g.fr w (p.mem_iff.mpr h)
/-- the stones so far, going through the first i weights -/
theorem st_turn (e : Int) (l : List Int) {i : Nat} {w : Int} (h : l[i]? = some w) : stonesZ e (l.take (i + 1)) = stW e (stonesZ e (l.take i)) w := by
  unfold stonesZ
  rw [List.take_succ, h, List.foldl_append]
  rfl
/-- how far the weights have been gone through -/
structure Gone [Amb] (e : Int) (l : List Int) (i : Nat) (z : List Int × List Int) : Prop where
  hi : i ≤ l.length
  ez : z = stonesZ e (l.take i)
  gd : Good e (l.take i) z
  up : ∀ v ∈ z.1, ∀ w ∈ l.drop i, v ≤ w
end DL

/-! Texts over plain data: f-strings, join, constants. -/
namespace DL
open PySem PySem.Spec L2
section
variable {K : PySem.W.Frag} {X : Cx} {f h : Fp} {H H' : Hp} {ω ω' : Om} {a b c e : Expr} {pos p p2 : Pos} {Ta Tb Te : TD} {T : TAD} {es : List Expr}
def dFmt (Ta : TD) : TD := fun ρ ω Q => Ta ρ ω fun x ω1 => (∃ y : Str, x = .str y ∧ y.length ≤ sizeLine ∧ Q (.str y) ω1) ∨ ∃ i : Int, x = .int i ∧ i.natAbs.log2 < 1920 ∧ Q (.str (toString i)) ω1
inductive DJ [Amb] (X : Cx) : List Expr → List TD → Prop where
  | nil : DJ X [] []
  | cons {e : Expr} {t : TD} {es : List Expr} {ts : List TD} (h : DE X e t) (r : DJ X es ts) : DJ X (e :: es) (t :: ts)
def dJs : List TD → Str → Rho → Om → (Str → Om → Prop) → Prop
  | [], acc, _, ω, Q => Q acc ω
  | t :: ts, acc, ρ, ω, Q => t ρ ω fun x ω1 => ∃ y : Str, x = .str y ∧ (acc ++ y).length ≤ sizeLine ∧ dJs ts (acc ++ y) ρ ω1 Q
def dJoined (ts : List TD) : TD := fun ρ ω Q => dJs ts Str.empty ρ ω fun out ω1 => Q (.str out) ω1
def dJoin (Ta Te : TD) : TD := fun ρ ω Q => Ta ρ ω fun x ω1 => ∃ a, x = .str a ∧ Te ρ ω1 fun y ω2 => ∃ ys : List Str, (lstOf ω2 y = some (ys.map D.str) ∨ y = .tup (ys.map D.str)) ∧ (ys.map (·.length)).sum + ys.length * a.length ≤ 16777216 ∧ Q (.str (Str.join a ys)) ω2
/-- the items of two lists in pairs, each owned or not -/
theorem itok_zipL [Amb] {a b : Addr} {x y : D} {xs ys : List D} (rx : Rp K (fre ω h) H x (.ref a)) (ry : Rp K (fre ω h) H y (.ref b)) : ItOk K h (Itz K a b) (zipD xs ys) (fun ω => lstOf ω x = some xs ∧ lstOf ω y = some ys) H ω := by
  intro h2 i H2 ω2 ⟨p1, p2⟩ f w
  obtain ⟨a', vs, ea, sx, ra⟩ := lstOf_sq w p1 (rx.keep f)
  obtain ⟨b', us, eb, sy, rb⟩ := lstOf_sq w p2 (ry.keep f)
  cases ea
  cases eb
  refine ⟨fun l => ⟨vs, us, sx, sy, ?_⟩, fun d e => ?_⟩
  · rw [zipD_len] at l
    rw [← ra.len, ← rb.len]
    omega
  obtain ⟨x', y', ex, ey, rfl⟩ := zipD_get e
  obtain ⟨v, ev, rv⟩ := ra.get ex
  obtain ⟨u, eu, ru⟩ := rb.get ey
  refine ⟨⟨vs, us, v, u, sx, sy, ev, eu⟩, fun z H3 ⟨q, v', u', e1, hn, e2, e3, e4⟩ => ?_⟩
  subst e1 e2
  have z1 := e3 vs sx
  have z2 := e4 us sy
  rw [ev] at z1
  rw [eu] at z2
  cases z1
  cases z2
  exact ⟨Fr.new hn, w.new hn, Rp.new_tup w hn (.cons rv (.cons ru .nil))⟩
def dZipL (T : TAD) : TID := fun ρ ω Q => T ρ ω fun ds ω1 => ∃ x y xs ys, ds = [x, y] ∧ lstOf ω1 x = some xs ∧ lstOf ω1 y = some ys ∧ Q (zipD xs ys) (fun ω => lstOf ω x = some xs ∧ lstOf ω y = some ys) ω1
theorem di_zipL [Amb] {tpos : Pos} {elts : List Expr} {kk : Nat} (hg : Gl X "zip") (hm : X.mg "zip" = none) (ha : DA X [a, b] T) (hs : starEach [a, b] X.env = (false, eval a X.env) :: starEach [b] X.env := by rfl) (hp : (backTo pos (starEach [b] X.env)).any (·.1) = false := by rfl) :
    DI X (.Tuple elts kk tpos) (.Call (.Name "zip" p) [a, b] [] pos) (dZipL T) := by
  refine PI.weak (RZ.pi_zipA hg hm ha hs hp) fun σ H Q ⟨h, ρ, ω, R, sl, w, t, k⟩ => ?_
  refine ⟨h, ρ, ω, _, sl, w, t, fun ds ω1 vs H1 t1 f1 w1 r => ?_⟩
  obtain ⟨x, y, xs, ys, e, ex, ey, q⟩ := t1
  subst e
  obtain ⟨v, u, rfl, r1, r2⟩ := r.two
  obtain ⟨a', vs, rfl, sx, ra⟩ := lstOf_sq w1 ex r1
  obtain ⟨b', us, rfl, sy, rb⟩ := lstOf_sq w1 ey r2
  exact ⟨_, _, _, _, rfl, .inl ⟨sx, sy, k _ _ _ _ _ q f1 w1 (itok_zipL r1 r2)⟩⟩
/-- xs[::-1], a list -/
def dRevL (Ta : TD) : TD := fun ρ ω Q => Ta ρ ω fun x ω1 => ∃ xs, lstOf ω1 x = some xs ∧ Q (.lst xs.reverse) ω1
end
section
variable {ρ : Rho} {ω : Om} {Q : DQ} {Ta Te : TD} {t : TD} {ts : List TD} {acc y a : Str} {ys : List Str} {i : Int} {QO : Str → Om → Prop}
theorem st_joined (h : dJs ts Str.empty ρ ω fun out ω1 => Q (.str out) ω1) : dJoined ts ρ ω Q := h
theorem st_jnil (h : QO acc ω) : dJs [] acc ρ ω QO := h
theorem st_jcons (h : t ρ ω fun x ω1 => ∃ y : Str, x = .str y ∧ (acc ++ y).length ≤ sizeLine ∧ dJs ts (acc ++ y) ρ ω1 QO) : dJs (t :: ts) acc ρ ω QO := h
theorem st_fmt (h : Ta ρ ω fun x ω1 => (∃ y : Str, x = .str y ∧ y.length ≤ sizeLine ∧ Q (.str y) ω1) ∨ ∃ i : Int, x = .int i ∧ i.natAbs.log2 < 1920 ∧ Q (.str (toString i)) ω1) : dFmt Ta ρ ω Q := h
theorem st_join (h : Ta ρ ω fun x ω1 => ∃ a, x = .str a ∧ Te ρ ω1 fun y ω2 => ∃ ys : List Str, (lstOf ω2 y = some (ys.map D.str) ∨ y = .tup (ys.map D.str)) ∧ (ys.map (·.length)).sum + ys.length * a.length ≤ 16777216 ∧ Q (.str (Str.join a ys)) ω2) : dJoin Ta Te ρ ω Q := h
theorem st_zipL {QI : List D → (Om → Prop) → Om → Prop} {T : TAD} (h : T ρ ω fun ds ω1 => ∃ x y xs ys, ds = [x, y] ∧ lstOf ω1 x = some xs ∧ lstOf ω1 y = some ys ∧ QI (zipD xs ys) (fun ω => lstOf ω x = some xs ∧ lstOf ω y = some ys) ω1) : dZipL T ρ ω QI := h
theorem st_revL (h : Ta ρ ω fun x ω1 => ∃ xs, lstOf ω1 x = some xs ∧ Q (.lst xs.reverse) ω1) : dRevL Ta ρ ω Q := h
theorem st_join' {Z : Str → Prop} (h : Z a) : ∃ a', D.str a = .str a' ∧ Z a' := ⟨a, rfl, h⟩
end
end DL

/-! sorted(range(n), key=..) by a small function made on the spot. -/
namespace LK
open PySem PySem.Spec PyProof.Rows PySem.W L2
section
variable {prog : Program} {w : World} {A : Around} {E : Value → Shared → Prop} {s : Shared}
def upN (n : Nat) : List Int := (List.range n).map fun i : Nat => (i : Int)
/-- sorted of a range by the key of each number -/
theorem sorted_range_key {r f : Addr} {n : Nat} {t u v : Tok} {k : Int → PyData} {Q : Value → Shared → Prop}
    (hh : A.handled = none) (hr : IsRange s.heap r 0 (n : Int) 1 t u v) (hn : n ≤ 1000)
    (hal : AllAlike ((upN n).map k)) (hk : Sortable ((upN n).map k)) (hu : ∀ x ∈ upN n, A.units + 2 + (k x).depth < cLine)
    (turn : ∀ (i : Int) (ti : Tok), 0 ≤ i → i < n → ∀ (h : Heap) (tk : Nat), (∀ b o, s.heap.get? b = some o → h.get? b = some o) →
      wpAny (model prog w) A.in1.in1 (call (.ref f) [.int i ti]) (KeyPure (k i) { s with heap := h, toks := tk }) (fun _ _ => False) { s with heap := h, toks := tk })
    (h : ∀ (out : List Value) (c : Nat) (h1 h' : Heap) (tk : Nat), (∀ b o, s.heap.get? b = some o → h1.get? b = some o) → (∀ b o, h1.get? b = some o → h'.get? b = some o) → h'.get? h1.objs.size = some (seqObj "list" (List.toArray out) c) →
      EachIs (fun (x : Value) (i : Int) => ∃ t, x = .int i t) out ((upN n).mergeSort (dataLe false k)) → Q (.ref h1.objs.size) { s with heap := h', toks := tk }) :
    wpAny (model prog w) A (call (.builtin "sorted") [.ref r] [(Str.ofString "key", .ref f)]) Q E s := by
  refine call_function_entry_kw kind_sorted plain_sorted entry_sorted (ksk_s1 _ _) ?_
  unfold Builtin.«sorted»
  refine wpAny_bind (m := checkCount "sorted" 1 1 _) (wpAny_pure ?_)
  have b24 : n ≤ 2 ^ 24 := Nat.le_trans hn (by decide)
  have szl : n ≤ sizeLine := Nat.le_trans hn (by decide)
  refine wpAny_bind (collect_range (n := n) (by simpa using hh) hr (small_one (by decide) (by decide) (by omega) (by omega)) (by rw [rangeSize_nat]; omega) b24 fun h1 tk1 acc kp1 hacc => ?_)
  have lacc : acc.toList.length = n := by rw [Array.length_toList]; exact hacc.1
  refine wpAny_bind (wpAny_newList ?_ (by rw [lacc]; exact szl))
  have hoL : (h1.push { cls := .type "list", data := .seq acc.toList.toArray }).get? h1.objs.size = some (seqObj "list" acc.toList.toArray 0) := Heap.get?_push_size _ rfl
  have each : EachIs (fun (x : Value) (i : Int) => ∃ t, x = .int i t) acc.toList (upN n) := by
    have gen : ∀ (l : List Value) (j : Nat), (∀ i v, l[i]? = some v → ∃ t, v = Value.int ((i + j : Nat) : Int) t) → EachIs (fun (x : Value) (i : Int) => ∃ t, x = .int i t) l ((List.range' j l.length).map fun i : Nat => (i : Int)) := by
      intro l
      induction l with
      | nil => intro j _; exact EachIs.nil
      | cons x l ih =>
        intro j hl
        rw [List.length_cons, List.range'_succ, List.map_cons]
        refine EachIs.cons (by have := hl 0 x rfl; simpa using this) (ih (j + 1) fun i v e => ?_)
        have := hl (i + 1) v (by simpa using e)
        rw [show i + (j + 1) = i + 1 + j by omega]
        exact this
    have z := gen acc.toList 0 fun i v e => by
      obtain ⟨t, e2⟩ := hacc.2 i v (by rw [← Array.getElem?_toList]; exact e)
      exact ⟨t, by rw [e2]; simp⟩
    rw [lacc] at z
    unfold upN
    rw [List.range_eq_range']
    exact z
  refine wpAny_bind (wpAny_holding (wpAny_call_entry_kw slot_list_sort ⟨_, hoL, rfl⟩ entry_list_sort ?_ (ksk_l1 _ _)))
  rw [ksk_t1]
  have up : ∀ {g : Heap}, KeepsBut h1.objs.size (h1.push { cls := .type "list", data := .seq acc.toList.toArray }) g → ∀ b o, h1.get? b = some o → g.get? b = some o := fun {g} kp b o q =>
    kp b o (Nat.ne_of_lt (Heap.lt_size q)) (Heap.get?_push_of_some _ q)
  refine keyH_tree (kz := (upN n).map k) (s := { s with heap := h1.push { cls := .type "list", data := .seq acc.toList.toArray }, toks := tk1 }) hoL (by rw [List.length_map, lacc]; unfold upN; rw [List.length_map, List.length_range]) (by rw [lacc]; exact szl) hal hk (fun d hd => ?_)
    (keyH_turns each fun x i hR hx h tk kp => ?_) fun h' tk out c kp hD ko => ⟨_, rfl, wpAny_pure ⟨_, rfl, ?_⟩⟩
  · obtain ⟨x, hx, rfl⟩ := List.mem_map.mp hd
    have := hu x hx
    exact this
  · obtain ⟨ti, rfl⟩ := hR
    unfold upN at hx
    obtain ⟨j, hj, rfl⟩ := List.mem_map.mp hx
    rw [List.mem_range] at hj
    exact turn (j : Int) ti (by omega) (by omega) h tk fun b o q => up kp b o (kp1 b o q)
  · exact h out c h1 h' tk kp1 (up kp) hD (keyedOut_each k ko each)
abbrev sW : Str := "weights"
abbrev sP : Str := "person"
/-- the small function's call: (weights[person], person) -/
theorem key_call {f c' cw wa : Addr} {qual : Str} {params : Arguments} {p1 p2 p3 p4 p5 : Pos} {k5 : Nat} {scope : Scope} {cl : List (Str × Addr)} {pm ctv : Value} {items : Array Value} {j : Nat} {wv : Int} {ti tw : Tok}
    (hf : s.heap.get? f = some (kla_obj "<lambda>" qual params (.Tuple [.Subscript (.Name sW p1) (.Name sP p2) p3, .Name sP p4] k5 p5) scope cl pm c' ctv))
    (hc : s.heap.CodeRec (.ref c') qual) (hcl : cl.lookup sW = some cw) (hcw : s.heap.IsCell cw (some (.ref wa))) (ht : IsTup s.heap wa items) (hi : items[j]? = some (.int wv tw)) (hj : items.size ≤ 1000)
    (lim : s.heap.NoLimit) (room : A.depth < recursionLimit) (k1 : scope.kind = .function) (k2 : scope.isCoroutine = false) (k3 : scope.isGenerator = false) (kn : scope.names = [(sP, NameKind.local), (sW, NameKind.free)] ∨ scope.names = [(sW, NameKind.free), (sP, NameKind.local)])
    (hb : ∀ v : Value, bindArgs (kla_fn "<lambda>" qual params (.Tuple [.Subscript (.Name sW p1) (.Name sP p2) p3, .Name sP p4] k5 p5) scope cl pm (.ref c') ctv) ⟨[v], []⟩ = pure [(sP, v)]) :
    wpAny (model prog w) A (call (.ref f) [.int (j : Int) ti]) (KeyPure (.tuple [.int wv, .int (j : Int)]) s) (fun _ _ => False) s := by
  have lp : scope.names.lookup sP = some .local := by rcases kn with e | e <;> rw [e] <;> decide
  have lw : scope.names.lookup sW = some .free := by rcases kn with e | e <;> rw [e] <;> decide
  refine wpAny_call (kla_callFunE room hf rfl k2 k3 rfl hc ?_)
  rw [hb]
  refine wpAny_pure (wpAny_newFunctionEnv (fun y hy => by rcases kn with e | e <;> rw [e] at hy <;> simp at hy <;> rcases hy with z | z <;> rw [z] <;> decide) (fun y hy => by simp at hy; rw [hy]; exact lp) (fun h₁ hns hsb => ⟨lim.fresh _ hsb, ?_⟩) k1)
  have kp : ∀ b o, s.heap.get? b = some o → h₁.get? b = some o := fun b o e => hsb.extBut b o (Nat.ne_of_lt (Heap.lt_size e)) (Heap.get?_push_of_some _ e)
  refine kla_codeExpr (wpAny_Tuple_spliced ?_)
  have hn : ∀ {x1 : Heap} {E' : Value → Shared → Prop} {Q' : Value → Shared → Prop} {pq : Pos} {tk : Nat}, (∀ b o, h₁.get? b = some o → x1.get? b = some o) → Q' (.int (j : Int) ti) { s with heap := x1, toks := tk } →
      wpAny (model prog w) (A.deeper (envX qual scope s.heap.objs.size f (.ref c') cl)) (eval (.Name sP pq) (envX qual scope s.heap.objs.size f (.ref c') cl)) Q' E' { s with heap := x1, toks := tk } := fun {x1 E' Q' pq tk} kx q => by
    refine wpAny_Name (wpAny_loadName_local k1 lp (hns.keeps kx) ?_ q) (by decide)
    simp [List.lookup]
  refine args_cons (Subscript_ (wpAny_Name (wpAny_loadName_free k1 lw hcl (show h₁.IsCell cw (some (.ref wa)) from ?_) (hn (fun _ _ q => q) ?_) (by decide)) (by decide)))
  · obtain ⟨o, h1, h2⟩ := hcw
    exact ⟨o, kp _ _ h1, h2⟩
  have lj : j < items.size := by
    have := (Array.getElem?_eq_some_iff.mp hi).1
    exact this
  have ht1 : IsTup h₁ wa items := by
    obtain ⟨o, a1, a2, a3⟩ := ht
    exact ⟨o, kp _ _ a1, a2, a3⟩
  refine subscriptTail_builtinR (x := .int wv tw) ht1.typeIs slot_tuple_getitem.lookup (getItem_tuple (j := j) ht1 (by omega) (by omega) (ixN_seq (show ixN items.size (j : Int) = some j from by rw [DL.ixN_nat (by omega) (by omega), Int.toNat_natCast])).1 hi ⟨rfl, ?_⟩) (by rfl)
  refine args_cons (hn (fun _ _ q => q) (args_nil ⟨by show 2 ≤ sizeLine; decide, ?_⟩))
  show KeyPure (.tuple [.int wv, .int (j : Int)]) s _ _
  refine ⟨_, _, rfl, fun b o e => Heap.get?_push_of_some _ (kp b o e), ?_⟩
  exact .tuple (Heap.get?_push_size _ rfl) rfl rfl (.cons (.int _ _) (.cons (.int _ _) .nil))
end

/-! ### the small function is made -/
open LamX
/-- how the heap goes on where a small function is made: its code object is new, or was there -/
def LamTo (P : Addr) (q : Str) (H H2 : Hp) : Prop := TabS H2 P q ∧ (H2 = H ∨ ∃ ps c', H c' = none ∧ (∃ ps0, H P = some (.tbl ps0) ∧ ∀ p cv, codeAmong p ps.toList = some cv → codeAmong p ps0.toList = some cv ∨ cv = .ref c') ∧ H2 = upd (upd H P (.tbl ps)) c' (CodeO c' q))
/-- the numbers below the length, by weight, of equal ones the smaller first -/
def byW (ws : List Int) : List Int := (upN ws.length).mergeSort fun p q => decide (ws.getD p.toNat 0 < ws.getD q.toNat 0 ∨ (ws.getD p.toNat 0 = ws.getD q.toNat 0 ∧ p ≤ q))
def tSortKey (K : PySem.W.Frag) (P : Addr) (q : Str) (i : Nat) (te : L2.St → Hp → (Int → Int → Hp → Prop) → Prop) : TE := fun σ H Q => te σ H fun a b H1 => ∃ (wa : Addr) (ws : List Int), a = 0 ∧ b = ws.length ∧ ws.length ≤ 1000 ∧ TabS H1 P q ∧ σ[i]? = some (some (.ref wa)) ∧ SqT K H1 wa (ws.map V.int) ∧
  ∀ H2 l, LamTo P q H1 H2 → H1 l = none → H2 l = none → Q (.ref l) (upd H2 l (.lst ((byW ws).map V.int)))
end LK

/-! LL: sorted by a small function over plain data; the tables of code objects; the law's end with tables. -/
namespace DL
open PySem PySem.Spec L2 PyProof.Rows PySem.W LamX LK
/-- where the tables of the defs lie that make small functions -/
class Tbl where
  P : Str → Addr
def lamQ (x : Str) : Str := (x ++ ".<locals>.") ++ "<lambda>"
def TabOn [Tbl] (x : Str) (ω : Om) : Prop := ω (Tbl.P x) = some (.tab (lamQ x))
section
variable {X : Cx} {K : PySem.W.Frag} {h : Fp} {H H2 : Hp} {ω : Om} {P : Addr} {q : Str}
def dSortKey (P : Addr) (q : Str) (i : Nat) (Ta : TD) : TD := fun ρ ω Q => Ta ρ ω fun x ω1 => ∃ ws : List Int, x = .int ws.length ∧ ws.length ≤ 1000 ∧ ω1 P = some (.tab q) ∧ ρ[i]? = some (some (.tup (ws.map D.int))) ∧ Q (.lst ((byW ws).map D.int)) ω1
end

/-! ### a def with a known code object -/
def DefAtC (K : PySem.W.Frag) (mg : Str → Option Value) (x : Str) (st : Stmt) (c : Addr) : Prop := ∃ f fd, mg x = some (.ref f) ∧ Fun K x x st f fd ∧ fd.code = .ref c
theorem DefAtC.mk {K : PySem.W.Frag} {h : Heap} {mg : Str → Option Value} (X : K.In h) (G : h.Ns mainGlobals mg) {x : Str} {st : Stmt} {f c : Addr} {oc : Value} {od an : Option Addr} {osl : Array (Option Value)} {kV doc pm ct : Value}
    (a : PySem.W.nsIn K mainGlobals x = some (some (.ref f))) (l : K.lookup f = some ⟨oc, od, .func (PySem.W.fnOf x x (defArgs st) (defBody st) (defScope st) .none kV doc pm an (.ref c) ct), osl⟩)
    (cc : PySem.W.codeIn K (.ref c) x = true) (k : PySem.W.keepIn K (.ref f) = true) : DefAtC K mg x st c := ⟨f, _, PySem.W.mg_of X G a, fun_mk l cc k, rfl⟩
/-! ### the law's end -/
/-- the world at the law's start: the tables, and nothing else -/
def tabOm (l : List (Addr × Str)) : Om := fun b => (l.lookup b).map Cell.tab
def spLawT (Z : Om → Prop) : SpD := fun ds ω R => ∃ ns : List Int, ds = [.lst (ns.map D.int)] ∧ ns.length ≤ 63 ∧ Z ω ∧ ∀ ω', R (.bl true) ω'
/-- the law's own call where tables of code objects are known, by a promise that may lean on the guards -/
theorem law_callGT {P : Program} {w : World} {K : PySem.W.Frag} {mg mb : Str → Option Value} {k : Nat} {fa a : Addr} {ts : List (Addr × Addr)} {fd : FuncData} {x : Str} {sp : Sp} {s1 : Shared} {vs : List Value} {ns : List Int}
    (inn : K.In s1.heap) (gns : s1.heap.Ns mainGlobals mg) (bns : s1.heap.Ns builtinsNs mb) (bb : ∀ x : Str, x ≠ "__name__" → mb x = bootBuiltins x) (nol : s1.heap.NoLimit) (ng : s1.gens = #[])
    (tz : ∀ p ∈ ts, s1.heap.get? p.2 = some { cls := .none, data := .fields #[] }) (tn : ∀ p ∈ ts, K.lookup p.2 = none) (tc : ∀ p ∈ ts, PySem.W.CodeHd s1.heap p.1 p.2)
    (bm : ∃ (m : Addr) (o : Obj), mg "__builtins__" = some (.ref m) ∧ m ≠ builtinsNs ∧ s1.heap.get? m = some o ∧ o.cls = .type "module" ∧ o.dict = some builtinsNs ∧ o.data = .plain)
    (at_a : s1.heap.get? a = some { cls := .type "list", data := .seq vs.toArray }) (ia : IntsAre vs ns) (sz : ns.length ≤ sizeLine) (room : Room k callerA)
    (F : ∀ base : Heap, K.In base → base.Ns mainGlobals mg → (∀ p ∈ ts, TabB base mg p.1 p.2) → FnG P w K mg base CX0 k fa fd [x] sp) (bnd : ∀ (s : Shared) (u : Value), BindsTo s fd ⟨[u], []⟩ [(x, u)])
    (hs : ∀ hp : Hp, (∀ p ∈ ts, hp p.2 = some (.tbl #[])) → (∀ p ∈ ts, p.2 ≠ a) → SqL K hp a (ns.map V.int) → sp [.ref a] hp (fun v _ => v = .bl true) fun _ _ _ => False) :
    codeAny (model P w) callerA (.call (.ref fa) ⟨[.ref a], []⟩)
      (fun r s' => r = .ok (.ret (.bool true)) ∧ OldK s1.heap s'.heap ∧ s'.os = s1.os ∧ AllBare s'.gens) s1 := by
  have rv := vals_ints ia
  have lv := ia.length
  -- the script and the tables lie apart
  have apart : ∀ p ∈ ts, p.2 ≠ a := fun p hp z => by
    have e := tz p hp
    rw [z, at_a] at e
    exact (nomatch (congrArg Obj.data (Option.some.inj e)))
  let isT : Addr → Prop := fun b => ∃ p ∈ ts, p.2 = b
  let so : HO := .frz { cls := .type "list", data := .seq vs.toArray } (.lst (ns.map V.int))
  open Classical in
  let hp : Hp := fun b => if isT b then some (.tbl #[]) else if b = a ∧ K.lookup a = none then some so else none
  have hT : ∀ b, isT b → hp b = some (.tbl #[]) := fun b z => if_pos z
  have hA : K.lookup a = none → hp a = some so := fun z => (if_neg (fun ⟨p, m, e⟩ => apart p m e)).trans (if_pos ⟨rfl, z⟩)
  have hN : ∀ b, ¬ isT b → ¬ (b = a ∧ K.lookup a = none) → hp b = none := fun b z1 z2 => (if_neg z1).trans (if_neg z2)
  have cases_ : ∀ b u, hp b = some u → (isT b ∧ u = .tbl #[]) ∨ (b = a ∧ K.lookup a = none ∧ u = so) := fun b u e => by
    by_cases z1 : isT b
    · rw [hT b z1] at e
      exact .inl ⟨z1, (Option.some.inj e).symm⟩
    · by_cases z2 : b = a ∧ K.lookup a = none
      · obtain ⟨rfl, y⟩ := z2
        rw [hA y] at e
        exact .inr ⟨rfl, y, (Option.some.inj e).symm⟩
      · rw [hN b z1 z2] at e
        cases e
  have tobj : ∀ b, isT b → s1.heap.get? b = some { cls := .none, data := .fields #[] } := fun b ⟨p, m, e⟩ => e ▸ tz p m
  -- what is neither stays in sight
  have sees : ∀ {b : Addr} {o : Obj}, s1.heap.get? b = some o → ({ cls := .none, data := .fields #[] } : Obj) ≠ o → ({ cls := .type "list", data := .seq vs.toArray } : Obj) ≠ o → (hidT s1.heap hp).get? b = some o := fun {b o} e n1 n2 => by
    refine hidT_get e ?_
    cases z : hp b with
    | none => rfl
    | some u =>
      rcases cases_ b u z with ⟨y, _⟩ | ⟨rfl, _, _⟩
      · rw [tobj b y] at e
        exact (n1 (Option.some.inj e)).elim
      · rw [at_a] at e
        exact (n2 (Option.some.inj e)).elim
  have keepNs : ∀ {b : Addr} {m : Str → Option Value}, s1.heap.Ns b m → (hidT s1.heap hp).Ns b m := fun {b m} ⟨o, es, ep, e, d, r⟩ =>
    ⟨o, es, ep, sees e (fun z => by rw [← z] at d; exact (nomatch d)) (fun z => by rw [← z] at d; exact (nomatch d)), d, r⟩
  have inb : K.In (hidT s1.heap hp) := fun b o e => by
    refine hidT_get (inn b o e) ?_
    cases z : hp b with
    | none => rfl
    | some u =>
      rcases cases_ b u z with ⟨⟨p, m, y⟩, _⟩ | ⟨rfl, y, _⟩
      · rw [← y, tn p m] at e
        cases e
      · rw [y] at e
        cases e
  have tb : ∀ p ∈ ts, TabB (hidT s1.heap hp) mg p.1 p.2 := fun p m => by
    obtain ⟨o, us, fi, tf, fl, tg, iF, tx, tt, e, c1, c2, c3, c4, c5, c6, c7, c8, ne⟩ := tc p m
    obtain ⟨mm, om, b1, b2, b3, b4, b5, b6⟩ := bm
    refine ⟨⟨o, us, fi, tf, fl, tg, iF, tx, tt, sees e (fun z => ?_) (fun z => ?_), c1, c2, c3, c4, c5, c6, c7, c8, ne⟩, ⟨mm, om, b1, b2, fun z => ?_, fun z => ?_, sees b3 (fun z => ?_) (fun z => ?_), b4, b5, b6⟩, fun z => ?_⟩
    · rw [← z] at c2
      cases c2
      simp at c3
    · rw [← z] at c2
      exact (nomatch c2)
    · obtain ⟨o2, es, ep, e2, d, _⟩ := gns
      rw [← z, b3] at e2
      cases e2
      rw [b6] at d
      exact (nomatch d)
    · rw [z, tz p m] at b3
      cases b3
      exact (nomatch b6)
    · rw [← z] at b6
      exact (nomatch b6)
    · rw [← z] at b6
      exact (nomatch b6)
    · obtain ⟨o2, es, ep, e2, d, _⟩ := gns
      rw [z, tz p m] at e2
      cases e2
      exact (nomatch d)
  have ok : HOk P w hp s1.heap := fun b u e => by
    rcases cases_ b u e with ⟨y, rfl⟩ | ⟨rfl, _, rfl⟩
    · exact tobj b y
    · exact ⟨at_a, by rw [List.length_map]; exact sz, vs, _, rv, at_a⟩
  have sq : SqL K hp a (ns.map V.int) := by
    cases y : K.lookup a with
    | none => exact .inl (.inr ⟨_, hA y⟩)
    | some o =>
      have e := inn a o y
      rw [at_a] at e
      cases e
      exact .inr ⟨_, vs.toArray, _, y, rfl, rfl, rfl, by rw [List.size_toArray, lv]; exact sz, by simpa using rv⟩
  have md : Mod K mg (hidT s1.heap hp) := ⟨inb, keepNs gns, ⟨mb, keepNs bns, bb⟩, nol.elim fun mc h => ⟨mc, keepNs h.1, h.2⟩⟩
  have en : Env0 P w K mg (hidT s1.heap hp) callerA [] s1 hp :=
    { frames := rfl, mod := md, bs := fun b o e => of_hidT e, bsz := Nat.le_of_eq (hidT_size _ _), funs := trivial, frf := (fun b z => absurd (show b ∈ ([] : List Addr) from z) (by simp)), hok := ok, bare := .of_eq ng }
  refine codeAny_mono ((F _ inb (keepNs gns) tb).goes callerA [] s1 hp ⟨[.ref a], []⟩ [.ref a] [.ref a] _ _ room rfl en (bnd s1 (.ref a)) (.cons rfl .nil) (hs hp (fun p m => hT _ ⟨p, m, rfl⟩) apart sq)) fun r s' z => ?_
  match r, z with
  | .error e, z => exact z.elim
  | .ok (.ret u), ⟨v, hp', os, bare, un, ok', rr, (q : v = .bl true)⟩ =>
    subst q
    obtain rfl : u = Value.bool true := rr
    have more : ∀ b, isT b → ∃ xs : Array Value, s'.heap.get? b = some { cls := .none, data := .fields xs } := fun b y => by
      obtain ⟨xs, e⟩ := un.tbls b #[] (hT b y)
      exact ⟨_, ok' b _ e⟩
    have same : ∀ b o, ¬ isT b → s1.heap.get? b = some o → s'.heap.get? b = some o := fun b o y e => by
      by_cases z2 : b = a ∧ K.lookup a = none
      · obtain ⟨rfl, y2⟩ := z2
        have e1 := (ok b _ (hA y2)).1
        have e2 := (ok' b _ (un.frzs b _ _ (hA y2))).1
        rw [e] at e1
        cases e1
        exact e2
      · exact un.keep b o e (hN b y z2) (fun y => absurd (show b ∈ ([] : List Addr) from y) (by simp)) (by simp)
    refine ⟨rfl, ⟨fun b o e => ?_, fun b o e => ?_⟩, os, bare⟩
    · by_cases y : isT b
      · obtain ⟨xs, e2⟩ := more b y
        rw [tobj b y] at e
        cases e
        obtain ⟨p, m, rfl⟩ := y
        exact .inr (.inl ⟨((tc p m).tab (tz p m)).isCodeTable, rfl, #[], xs, rfl, by rw [Array.empty_append]; exact e2⟩)
      · exact .inl (same b o y e)
    · by_cases y : isT b
      · obtain ⟨xs, e2⟩ := more b y
        exact ⟨_, e2⟩
      · exact ⟨o, same b o y e⟩
/-- the law's def, by what lies at its address -/
theorem law_fdT {P : Program} {w : World} {K : PySem.W.Frag} {mg : Str → Option Value} {fa : Addr} {k : Nat} {S : SpD} {I : Heap → Prop} {oc : Value} {od : Option Addr} {fd : FuncData} {osl : Array (Option Value)} (lk : K.lookup fa = some ⟨oc, od, .func fd, osl⟩) (hm : mg "law" = some (.ref fa))
    (C : ∀ base, I base → CalD P w K mg base k "law" ["script"] S) : ∀ base : Heap, I base → FnG P w K mg base CX0 k fa fd ["script"] (spU K S) := fun base hb => by
  obtain ⟨f, fd2, F2, e2, _, _, oc2, od2, osl2, lk2⟩ := C base hb
  have z := hm.symm.trans e2
  cases z
  rw [lk] at lk2
  cases lk2
  exact F2
end DL

/-! XD: what an error class over LookupError has behind it (XG), told ahead for a head that stands first. -/
namespace DL
open PySem PySem.Spec
abbrev leTail : List Value := [.type "LookupError", .type "Exception", .type "BaseException", .type "object"]
def refsLE : List Value → Bool
  | [] => false
  | v :: r => (match v with | .ref _ => refsLE r | _ => false) || (v :: r) == leTail
end DL

namespace K54
open PySem PySem.Spec L2 DL PySem.W PyProof.Rows
def topH (i : Nat) : Stmt := PySem.Challenge.pw_basketrope_k54_whole_hoists_and_values.main.body.getD i (.Pass ⟨0, 0, 0, 0⟩)
def membH (s : Stmt) (j : Nat) : Stmt := match s with | .ClassDef _ _ _ body _ _ _ _ _ _ _ => body.getD j (.Pass ⟨0, 0, 0, 0⟩) | _ => .Pass ⟨0, 0, 0, 0⟩
local macro_rules | `(tactic| refine $e) => do
  match e with
  | `($f:ident $args*) =>
    let b := args.back!.raw
    if (f.getId.eraseMacroScopes.toString.splitOn "holds_open").length > 1 && b.isOfKind `Lean.Parser.Term.syntheticHole && (b[1].getId.eraseMacroScopes == `hc) then do
      let t ← `(by
          k_fill
          refine DL.walk_G (l := PySem.Challenge.rw_basketrope_k54_whole_hoists_and_values) (n := 63) (k := 11) (x := "script") (CX := L2.CX0) (sp := $(Lean.mkIdent `sp)) rfl (by decide) rfl ⟨rfl, by decide, by decide⟩ (fun w h Y => by first | exact PySem.W.kIn_of Y | exact PySem.W.km_in_of Y) ?F $(Lean.mkIdent `hs) (fun _ _ _ _ h => h)
          case F =>
            intro w mg fa h KX G hmg
            refine' $(Lean.mkIdent `FIN) KX G hmg ?a0 ?l0 ?c0 ?k0 ?a1 ?l1 ?c1 ?k1 ?a2 ?l2 ?c2 ?k2 ?a3 ?l3 ?c3 ?k3 ?a4 ?l4 ?c4 ?k4 ?a5 ?l5 ?c5 ?k5 ?a6 ?l6 ?c6 ?k6 ?a7 ?l7 ?c7 ?k7 ?a8 ?l8 ?c8 ?k8 ?a9 ?l9 ?c9 ?k9 ?a10 ?l10 ?c10 ?k10 ?a11 ?l11 ?c11 ?k11 ?a12 ?l12 ?c12 ?k12 ?a13 ?l13 ?c13 ?k13 ?a14 ?l14 ?c14 ?k14 ?a15 ?l15 ?c15 ?k15 ?a16 ?l16 ?c16 ?k16 ?a17 ?l17 ?c17 ?k17 ?a18 ?l18 ?c18 ?k18 ?a19 ?l19 ?c19 ?k19 ?a20 ?l20 ?c20 ?k20 ?a21 ?l21 ?c21 ?k21 ?a22 ?l22 ?c22 ?k22 ?a23 ?l23 ?c23 ?k23 ?a24 ?l24 ?c24 ?k24 ?a25 ?l25 ?c25 ?k25 ?a26 ?l26 ?c26 ?k26 ?a27 ?l27 ?c27 ?k27 ?l28 ?c28 ?k28 ?v28 ?w28 ?l29 ?c29 ?k29 ?v29 ?w29 ?l30 ?c30 ?k30 ?v30 ?w30 ?l31 ?c31 ?k31 ?v31 ?w31 ?l32 ?c32 ?k32 ?v32 ?w32 ?l33 ?c33 ?k33 ?v33 ?w33 ?l34 ?c34 ?k34 ?v34 ?w34 ?l35 ?c35 ?k35 ?v35 ?w35 ?l36 ?c36 ?k36 ?v36 ?w36 ?l37 ?c37 ?k37 ?v37 ?w37 ?l38 ?c38 ?k38 ?v38 ?w38 ?l39 ?c39 ?k39 ?v39 ?w39 ?l40 ?c40 ?k40 ?v40 ?w40 ?l41 ?c41 ?k41 ?v41 ?w41 ?l42 ?c42 ?k42 ?v42 ?w42 ?l43 ?c43 ?k43 ?v43 ?w43 ?l44 ?c44 ?k44 ?v44 ?w44 ?l45 ?c45 ?k45 ?v45 ?w45 ?l47 ?n47 ?c47 ?k47 ?v47 ?l48 ?n48 ?c48 ?k48 ?v48 ?m0 ?m1 ?m2 ?m3 ?m4 ?m5 ?z0 ?z1 ?z2 ?z3 ?z4 ?z5 ?z6 ?z7 ?z8 ?z9 ?z10 ?z11 ?z12 ?z13 ?z14 ?l_0 ?kc_Basket ?kc_Hoist ?kc_Load ?kc_Missing ?xl_Missing ?xr_Missing ?xs_Missing ?xb_Missing ?xt_Missing ?xk_Missing ?xn_Missing ?xi_Missing ?xf_Missing ?xm_Missing ?xo_Missing ?xp_Missing ?u1_Basket ?u2_Basket ?u3_Basket ?u4_Basket ?u1_Hoist ?u2_Hoist ?u3_Hoist ?u4_Hoist ?u1_Load ?u2_Load ?u3_Load ?u4_Load ?q1_Basket_excess ?q2_Basket_excess ?q3_Basket_excess ?q4_Basket_excess ?q5_Basket_excess ?q6_Basket_excess ?un_Basket__excess ?q1_Basket_rides ?q2_Basket_rides ?q3_Basket_rides ?q4_Basket_rides ?q5_Basket_rides ?q6_Basket_rides ?un_Basket__rides ?q1_Load_total ?q2_Load_total ?q3_Load_total ?q4_Load_total ?q5_Load_total ?q6_Load_total ?un_Load__total ?q1_Load_weights ?q2_Load_weights ?q3_Load_weights ?q4_Load_weights ?q5_Load_weights ?q6_Load_weights ?un_Load__weights ?u5_Load ?u6_ ?u7_ ?u8_Load ?u9_Load ?u10_Load ?um_Basket ?uk_Basket ?um_Hoist ?uk_Hoist ?um_Load ?uk_Load ?un_Hoist__edits ?un_Hoist__towers ?un_Hoist__watched ?us_Load ?a28_Load ?a29_Load ?a30_Load ?a31_Load ?a32_Load ?a33_Basket ?a34_Basket ?a35_Hoist ?a36_Hoist ?a37_Hoist ?a38_Hoist ?a39_Hoist ?a40_Hoist ?a41_Hoist ?a42_Hoist ?a43_Hoist ?a44_Hoist ?a45_Hoist ?a46_Hoist ?p146 ?p246 ?p346 ?l46 ?c46 ?k46 ?a47_Hoist ?a48_Hoist
            (case kc_Basket => as_aux_lemma => k_is)
            (case kc_Hoist => as_aux_lemma => k_is)
            (case kc_Load => as_aux_lemma => k_is)
            (case kc_Missing => as_aux_lemma => k_is)
            (case a28_Load => as_aux_lemma => k_is)
            (case a29_Load => as_aux_lemma => k_is)
            (case a30_Load => as_aux_lemma => k_is)
            (case a31_Load => as_aux_lemma => k_is)
            (case a32_Load => as_aux_lemma => k_is)
            (case a33_Basket => as_aux_lemma => k_is)
            (case a34_Basket => as_aux_lemma => k_is)
            (case a35_Hoist => as_aux_lemma => k_is)
            (case a36_Hoist => as_aux_lemma => k_is)
            (case a37_Hoist => as_aux_lemma => k_is)
            (case a38_Hoist => as_aux_lemma => k_is)
            (case a39_Hoist => as_aux_lemma => k_is)
            (case a40_Hoist => as_aux_lemma => k_is)
            (case a41_Hoist => as_aux_lemma => k_is)
            (case a42_Hoist => as_aux_lemma => k_is)
            (case a43_Hoist => as_aux_lemma => k_is)
            (case a44_Hoist => as_aux_lemma => k_is)
            (case a45_Hoist => as_aux_lemma => k_is)
            (case a46_Hoist => as_aux_lemma => k_is)
            (case p146 => as_aux_lemma => k_is)
            (case p246 => as_aux_lemma => k_is)
            (case p346 => as_aux_lemma => k_is)
            (case l46 => as_aux_lemma => k_is)
            (case c46 => as_aux_lemma => k_is)
            (case k46 => as_aux_lemma => k_is)
            (case a47_Hoist => as_aux_lemma => k_is)
            (case a48_Hoist => as_aux_lemma => k_is)
            (case a0 => as_aux_lemma => k_is)
            (case l0 => as_aux_lemma => k_is)
            (case c0 => as_aux_lemma => k_is)
            (case k0 => as_aux_lemma => k_is)
            (case a1 => as_aux_lemma => k_is)
            (case l1 => as_aux_lemma => k_is)
            (case c1 => as_aux_lemma => k_is)
            (case k1 => as_aux_lemma => k_is)
            (case a2 => as_aux_lemma => k_is)
            (case l2 => as_aux_lemma => k_is)
            (case c2 => as_aux_lemma => k_is)
            (case k2 => as_aux_lemma => k_is)
            (case a3 => as_aux_lemma => k_is)
            (case l3 => as_aux_lemma => k_is)
            (case c3 => as_aux_lemma => k_is)
            (case k3 => as_aux_lemma => k_is)
            (case a4 => as_aux_lemma => k_is)
            (case l4 => as_aux_lemma => k_is)
            (case c4 => as_aux_lemma => k_is)
            (case k4 => as_aux_lemma => k_is)
            (case a5 => as_aux_lemma => k_is)
            (case l5 => as_aux_lemma => k_is)
            (case c5 => as_aux_lemma => k_is)
            (case k5 => as_aux_lemma => k_is)
            (case a6 => as_aux_lemma => k_is)
            (case l6 => as_aux_lemma => k_is)
            (case c6 => as_aux_lemma => k_is)
            (case k6 => as_aux_lemma => k_is)
            (case a7 => as_aux_lemma => k_is)
            (case l7 => as_aux_lemma => k_is)
            (case c7 => as_aux_lemma => k_is)
            (case k7 => as_aux_lemma => k_is)
            (case a8 => as_aux_lemma => k_is)
            (case l8 => as_aux_lemma => k_is)
            (case c8 => as_aux_lemma => k_is)
            (case k8 => as_aux_lemma => k_is)
            (case a9 => as_aux_lemma => k_is)
            (case l9 => as_aux_lemma => k_is)
            (case c9 => as_aux_lemma => k_is)
            (case k9 => as_aux_lemma => k_is)
            (case a10 => as_aux_lemma => k_is)
            (case l10 => as_aux_lemma => k_is)
            (case c10 => as_aux_lemma => k_is)
            (case k10 => as_aux_lemma => k_is)
            (case a11 => as_aux_lemma => k_is)
            (case l11 => as_aux_lemma => k_is)
            (case c11 => as_aux_lemma => k_is)
            (case k11 => as_aux_lemma => k_is)
            (case a12 => as_aux_lemma => k_is)
            (case l12 => as_aux_lemma => k_is)
            (case c12 => as_aux_lemma => k_is)
            (case k12 => as_aux_lemma => k_is)
            (case a13 => as_aux_lemma => k_is)
            (case l13 => as_aux_lemma => k_is)
            (case c13 => as_aux_lemma => k_is)
            (case k13 => as_aux_lemma => k_is)
            (case a14 => as_aux_lemma => k_is)
            (case l14 => as_aux_lemma => k_is)
            (case c14 => as_aux_lemma => k_is)
            (case k14 => as_aux_lemma => k_is)
            (case a15 => as_aux_lemma => k_is)
            (case l15 => as_aux_lemma => k_is)
            (case c15 => as_aux_lemma => k_is)
            (case k15 => as_aux_lemma => k_is)
            (case a16 => as_aux_lemma => k_is)
            (case l16 => as_aux_lemma => k_is)
            (case c16 => as_aux_lemma => k_is)
            (case k16 => as_aux_lemma => k_is)
            (case a17 => as_aux_lemma => k_is)
            (case l17 => as_aux_lemma => k_is)
            (case c17 => as_aux_lemma => k_is)
            (case k17 => as_aux_lemma => k_is)
            (case a18 => as_aux_lemma => k_is)
            (case l18 => as_aux_lemma => k_is)
            (case c18 => as_aux_lemma => k_is)
            (case k18 => as_aux_lemma => k_is)
            (case a19 => as_aux_lemma => k_is)
            (case l19 => as_aux_lemma => k_is)
            (case c19 => as_aux_lemma => k_is)
            (case k19 => as_aux_lemma => k_is)
            (case a20 => as_aux_lemma => k_is)
            (case l20 => as_aux_lemma => k_is)
            (case c20 => as_aux_lemma => k_is)
            (case k20 => as_aux_lemma => k_is)
            (case a21 => as_aux_lemma => k_is)
            (case l21 => as_aux_lemma => k_is)
            (case c21 => as_aux_lemma => k_is)
            (case k21 => as_aux_lemma => k_is)
            (case a22 => as_aux_lemma => k_is)
            (case l22 => as_aux_lemma => k_is)
            (case c22 => as_aux_lemma => k_is)
            (case k22 => as_aux_lemma => k_is)
            (case a23 => as_aux_lemma => k_is)
            (case l23 => as_aux_lemma => k_is)
            (case c23 => as_aux_lemma => k_is)
            (case k23 => as_aux_lemma => k_is)
            (case a24 => as_aux_lemma => k_is)
            (case l24 => as_aux_lemma => k_is)
            (case c24 => as_aux_lemma => k_is)
            (case k24 => as_aux_lemma => k_is)
            (case a25 => as_aux_lemma => k_is)
            (case l25 => as_aux_lemma => k_is)
            (case c25 => as_aux_lemma => k_is)
            (case k25 => as_aux_lemma => k_is)
            (case a26 => as_aux_lemma => k_is)
            (case l26 => as_aux_lemma => k_is)
            (case c26 => as_aux_lemma => k_is)
            (case k26 => as_aux_lemma => k_is)
            (case a27 => as_aux_lemma => k_is)
            (case l27 => as_aux_lemma => k_is)
            (case c27 => as_aux_lemma => k_is)
            (case k27 => as_aux_lemma => k_is)
            (case l28 => as_aux_lemma => k_is)
            (case c28 => as_aux_lemma => k_is)
            (case k28 => as_aux_lemma => k_is)
            (case v28 => as_aux_lemma => k_is)
            (case w28 => as_aux_lemma => k_is)
            (case l29 => as_aux_lemma => k_is)
            (case c29 => as_aux_lemma => k_is)
            (case k29 => as_aux_lemma => k_is)
            (case v29 => as_aux_lemma => k_is)
            (case w29 => as_aux_lemma => k_is)
            (case l30 => as_aux_lemma => k_is)
            (case c30 => as_aux_lemma => k_is)
            (case k30 => as_aux_lemma => k_is)
            (case v30 => as_aux_lemma => k_is)
            (case w30 => as_aux_lemma => k_is)
            (case l31 => as_aux_lemma => k_is)
            (case c31 => as_aux_lemma => k_is)
            (case k31 => as_aux_lemma => k_is)
            (case v31 => as_aux_lemma => k_is)
            (case w31 => as_aux_lemma => k_is)
            (case l32 => as_aux_lemma => k_is)
            (case c32 => as_aux_lemma => k_is)
            (case k32 => as_aux_lemma => k_is)
            (case v32 => as_aux_lemma => k_is)
            (case w32 => as_aux_lemma => k_is)
            (case l33 => as_aux_lemma => k_is)
            (case c33 => as_aux_lemma => k_is)
            (case k33 => as_aux_lemma => k_is)
            (case v33 => as_aux_lemma => k_is)
            (case w33 => as_aux_lemma => k_is)
            (case l34 => as_aux_lemma => k_is)
            (case c34 => as_aux_lemma => k_is)
            (case k34 => as_aux_lemma => k_is)
            (case v34 => as_aux_lemma => k_is)
            (case w34 => as_aux_lemma => k_is)
            (case l35 => as_aux_lemma => k_is)
            (case c35 => as_aux_lemma => k_is)
            (case k35 => as_aux_lemma => k_is)
            (case v35 => as_aux_lemma => k_is)
            (case w35 => as_aux_lemma => k_is)
            (case l36 => as_aux_lemma => k_is)
            (case c36 => as_aux_lemma => k_is)
            (case k36 => as_aux_lemma => k_is)
            (case v36 => as_aux_lemma => k_is)
            (case w36 => as_aux_lemma => k_is)
            (case l37 => as_aux_lemma => k_is)
            (case c37 => as_aux_lemma => k_is)
            (case k37 => as_aux_lemma => k_is)
            (case v37 => as_aux_lemma => k_is)
            (case w37 => as_aux_lemma => k_is)
            (case l38 => as_aux_lemma => k_is)
            (case c38 => as_aux_lemma => k_is)
            (case k38 => as_aux_lemma => k_is)
            (case v38 => as_aux_lemma => k_is)
            (case w38 => as_aux_lemma => k_is)
            (case l39 => as_aux_lemma => k_is)
            (case c39 => as_aux_lemma => k_is)
            (case k39 => as_aux_lemma => k_is)
            (case v39 => as_aux_lemma => k_is)
            (case w39 => as_aux_lemma => k_is)
            (case l40 => as_aux_lemma => k_is)
            (case c40 => as_aux_lemma => k_is)
            (case k40 => as_aux_lemma => k_is)
            (case v40 => as_aux_lemma => k_is)
            (case w40 => as_aux_lemma => k_is)
            (case l41 => as_aux_lemma => k_is)
            (case c41 => as_aux_lemma => k_is)
            (case k41 => as_aux_lemma => k_is)
            (case v41 => as_aux_lemma => k_is)
            (case w41 => as_aux_lemma => k_is)
            (case l42 => as_aux_lemma => k_is)
            (case c42 => as_aux_lemma => k_is)
            (case k42 => as_aux_lemma => k_is)
            (case v42 => as_aux_lemma => k_is)
            (case w42 => as_aux_lemma => k_is)
            (case l43 => as_aux_lemma => k_is)
            (case c43 => as_aux_lemma => k_is)
            (case k43 => as_aux_lemma => k_is)
            (case v43 => as_aux_lemma => k_is)
            (case w43 => as_aux_lemma => k_is)
            (case l44 => as_aux_lemma => k_is)
            (case c44 => as_aux_lemma => k_is)
            (case k44 => as_aux_lemma => k_is)
            (case v44 => as_aux_lemma => k_is)
            (case w44 => as_aux_lemma => k_is)
            (case l45 => as_aux_lemma => k_is)
            (case c45 => as_aux_lemma => k_is)
            (case k45 => as_aux_lemma => k_is)
            (case v45 => as_aux_lemma => k_is)
            (case w45 => as_aux_lemma => k_is)
            (case l47 => as_aux_lemma => k_is)
            (case n47 => as_aux_lemma => k_is)
            (case c47 => as_aux_lemma => k_is)
            (case k47 => as_aux_lemma => k_is)
            (case v47 => as_aux_lemma => k_is)
            (case l48 => as_aux_lemma => k_is)
            (case n48 => as_aux_lemma => k_is)
            (case c48 => as_aux_lemma => k_is)
            (case k48 => as_aux_lemma => k_is)
            (case v48 => as_aux_lemma => k_is)
            (case m0 => as_aux_lemma => k_is)
            (case m1 => as_aux_lemma => k_is)
            (case m2 => as_aux_lemma => k_is)
            (case m3 => as_aux_lemma => k_is)
            (case m4 => as_aux_lemma => k_is)
            (case m5 => as_aux_lemma => k_is)
            (case z0 => as_aux_lemma => k_is)
            (case z1 => as_aux_lemma => k_is)
            (case z2 => as_aux_lemma => k_is)
            (case z3 => as_aux_lemma => k_is)
            (case z4 => as_aux_lemma => k_is)
            (case z5 => as_aux_lemma => k_is)
            (case z6 => as_aux_lemma => k_is)
            (case z7 => as_aux_lemma => k_is)
            (case z8 => as_aux_lemma => k_is)
            (case z9 => as_aux_lemma => k_is)
            (case z10 => as_aux_lemma => k_is)
            (case z11 => as_aux_lemma => k_is)
            (case z12 => as_aux_lemma => k_is)
            (case z13 => as_aux_lemma => k_is)
            (case z14 => as_aux_lemma => k_is)
            (case l_0 => as_aux_lemma => k_is)
            (case xl_Missing => as_aux_lemma => k_is)
            (case xr_Missing => decide +kernel)
            (case xs_Missing => as_aux_lemma => k_is)
            (case xb_Missing => as_aux_lemma => k_is)
            (case xt_Missing => as_aux_lemma => k_is)
            (case xk_Missing => as_aux_lemma => k_is)
            (case xn_Missing => as_aux_lemma => k_is)
            (case xi_Missing => as_aux_lemma => k_is)
            (case xf_Missing => as_aux_lemma => k_is)
            (case xm_Missing => as_aux_lemma => k_is)
            (case xo_Missing => as_aux_lemma => k_is)
            (case xp_Missing => as_aux_lemma => k_is)
            (case u1_Basket => as_aux_lemma => k_is)
            (case u2_Basket => as_aux_lemma => k_is)
            (case u3_Basket => as_aux_lemma => k_is)
            (case u4_Basket => as_aux_lemma => k_is)
            (case u1_Hoist => as_aux_lemma => k_is)
            (case u2_Hoist => as_aux_lemma => k_is)
            (case u3_Hoist => as_aux_lemma => k_is)
            (case u4_Hoist => as_aux_lemma => k_is)
            (case u1_Load => as_aux_lemma => k_is)
            (case u2_Load => as_aux_lemma => k_is)
            (case u3_Load => as_aux_lemma => k_is)
            (case u4_Load => as_aux_lemma => k_is)
            (case q1_Basket_excess => as_aux_lemma => k_is)
            (case q2_Basket_excess => as_aux_lemma => k_is)
            (case q3_Basket_excess => as_aux_lemma => k_is)
            (case q4_Basket_excess => as_aux_lemma => k_is)
            (case q5_Basket_excess => as_aux_lemma => k_is)
            (case q6_Basket_excess => as_aux_lemma => k_is)
            (case un_Basket__excess => as_aux_lemma => k_is)
            (case q1_Basket_rides => as_aux_lemma => k_is)
            (case q2_Basket_rides => as_aux_lemma => k_is)
            (case q3_Basket_rides => as_aux_lemma => k_is)
            (case q4_Basket_rides => as_aux_lemma => k_is)
            (case q5_Basket_rides => as_aux_lemma => k_is)
            (case q6_Basket_rides => as_aux_lemma => k_is)
            (case un_Basket__rides => as_aux_lemma => k_is)
            (case q1_Load_total => as_aux_lemma => k_is)
            (case q2_Load_total => as_aux_lemma => k_is)
            (case q3_Load_total => as_aux_lemma => k_is)
            (case q4_Load_total => as_aux_lemma => k_is)
            (case q5_Load_total => as_aux_lemma => k_is)
            (case q6_Load_total => as_aux_lemma => k_is)
            (case un_Load__total => as_aux_lemma => k_is)
            (case q1_Load_weights => as_aux_lemma => k_is)
            (case q2_Load_weights => as_aux_lemma => k_is)
            (case q3_Load_weights => as_aux_lemma => k_is)
            (case q4_Load_weights => as_aux_lemma => k_is)
            (case q5_Load_weights => as_aux_lemma => k_is)
            (case q6_Load_weights => as_aux_lemma => k_is)
            (case un_Load__weights => as_aux_lemma => k_is)
            (case u5_Load => as_aux_lemma => k_is)
            (case u6_ => as_aux_lemma => k_is)
            (case u7_ => as_aux_lemma => k_is)
            (case u8_Load => as_aux_lemma => k_is)
            (case u9_Load => as_aux_lemma => k_is)
            (case u10_Load => as_aux_lemma => k_is)
            (case um_Basket => as_aux_lemma => k_is)
            (case uk_Basket => as_aux_lemma => k_is)
            (case um_Hoist => as_aux_lemma => k_is)
            (case uk_Hoist => as_aux_lemma => k_is)
            (case um_Load => as_aux_lemma => k_is)
            (case uk_Load => as_aux_lemma => k_is)
            (case un_Hoist__edits => as_aux_lemma => k_is)
            (case un_Hoist__towers => as_aux_lemma => k_is)
            (case un_Hoist__watched => as_aux_lemma => k_is)
            (case us_Load => as_aux_lemma => k_is))
      let as := args.pop.push ⟨t.raw⟩
      `(tactic| refine $f $as*)
    else Lean.Macro.throwUnsupported
  | _ => Lean.Macro.throwUnsupported
def _root_.PySem.W.Fast.tw11419004803602619387 : Nat := 0
def _root_.PySem.W.Fast.tw1451483891671326698 : Nat := 0
def _root_.PySem.W.Fast.tw13126788545637738731 : Nat := 0
def _root_.PySem.W.Fast.tw589085846346959159 : Nat := 0
def _root_.PySem.W.Fast.tw9970545152013569937 : Nat := 0
def _root_.PySem.W.Fast.tw9400945656811223706 : Nat := 0
def _root_.PySem.W.Fast.tw10915916997652559806 : Nat := 0
def _root_.PySem.W.Fast.tw9872976832342767103 : Nat := 0
def _root_.PySem.W.Fast.tw6343239577301765114 : Nat := 0
def _root_.PySem.W.Fast.tw2274129020828575195 : Nat := 0
def _root_.PySem.W.Fast.tw3663368169033557167 : Nat := 0
def _root_.PySem.W.Fast.tw9345811721261709631 : Nat := 0
def _root_.PySem.W.Fast.tw4309498672621861567 : Nat := 0
def _root_.PySem.W.Fast.tw3027360649648610415 : Nat := 0
def _root_.PySem.W.Fast.tw15299636838969626932 : Nat := 0
def _root_.PySem.W.Fast.tw2758621668754647642 : Nat := 0
def _root_.PySem.W.Fast.tw11174020203071834292 : Nat := 0
def _root_.PySem.W.Fast.tw5270561051203704936 : Nat := 0
def _root_.PySem.W.Fast.tw9230357007466398397 : Nat := 0
def _root_.PySem.W.Fast.tw18041053172445122847 : Nat := 0
def _root_.PySem.W.Fast.tw2782393881165498575 : Nat := 0
def _root_.PySem.W.Fast.tw11534122672091842096 : Nat := 0
def _root_.PySem.W.Fast.tw10579565657606616628 : Nat := 0
def _root_.PySem.W.Fast.tw640439273250678648 : Nat := 0
def _root_.PySem.W.Fast.tw11270957555196526879 : Nat := 0
set_option maxHeartbeats 0 in
theorem head (sp : PySem.W.Frag → Sp)
    (FIN : ∀ {P : Program} {w : World} {K : PySem.W.Frag} {h : Heap} {mg : Str → Option Value} {fa : Addr} (KX : K.In h) (G : h.Ns mainGlobals mg) (hfa : mg "law" = some (.ref fa))
    {f0 : Addr} {od0 an0 : Option Addr} {sl0 : Array (Option Value)} {oc0 kV0 dc0 pm0 cd0 ct0 : Value} (a0 : PySem.W.nsIn K mainGlobals "is_number_between" = some (some (.ref f0))) (l0 : K.lookup f0 = some ⟨oc0, od0, .func (PySem.W.fnOf "is_number_between" "is_number_between" (defArgs (topH 9)) (defBody (topH 9)) (defScope (topH 9)) .none kV0 dc0 pm0 an0 cd0 ct0), sl0⟩) (c0 : PySem.W.codeIn K cd0 "is_number_between" = true) (k0 : PySem.W.keepIn K (.ref f0) = true)
    {f1 : Addr} {od1 an1 : Option Addr} {sl1 : Array (Option Value)} {oc1 kV1 dc1 pm1 cd1 ct1 : Value} (a1 : PySem.W.nsIn K mainGlobals "is_excess" = some (some (.ref f1))) (l1 : K.lookup f1 = some ⟨oc1, od1, .func (PySem.W.fnOf "is_excess" "is_excess" (defArgs (topH 30)) (defBody (topH 30)) (defScope (topH 30)) .none kV1 dc1 pm1 an1 cd1 ct1), sl1⟩) (c1 : PySem.W.codeIn K cd1 "is_excess" = true) (k1 : PySem.W.keepIn K (.ref f1) = true)
    {f2 : Addr} {od2 an2 : Option Addr} {sl2 : Array (Option Value)} {oc2 kV2 dc2 pm2 cd2 ct2 : Value} (a2 : PySem.W.nsIn K mainGlobals "is_weight" = some (some (.ref f2))) (l2 : K.lookup f2 = some ⟨oc2, od2, .func (PySem.W.fnOf "is_weight" "is_weight" (defArgs (topH 31)) (defBody (topH 31)) (defScope (topH 31)) .none kV2 dc2 pm2 an2 cd2 ct2), sl2⟩) (c2 : PySem.W.codeIn K cd2 "is_weight" = true) (k2 : PySem.W.keepIn K (.ref f2) = true)
    {f3 : Addr} {od3 an3 : Option Addr} {sl3 : Array (Option Value)} {oc3 kV3 dc3 pm3 cd3 ct3 : Value} (a3 : PySem.W.nsIn K mainGlobals "tower_error" = some (some (.ref f3))) (l3 : K.lookup f3 = some ⟨oc3, od3, .func (PySem.W.fnOf "tower_error" "tower_error" (defArgs (topH 32)) (defBody (topH 32)) (defScope (topH 32)) .none kV3 dc3 pm3 an3 cd3 ct3), sl3⟩) (c3 : PySem.W.codeIn K cd3 "tower_error" = true) (k3 : PySem.W.keepIn K (.ref f3) = true)
    {f4 : Addr} {od4 an4 : Option Addr} {sl4 : Array (Option Value)} {oc4 kV4 dc4 pm4 cd4 ct4 : Value} (a4 : PySem.W.nsIn K mainGlobals "is_group" = some (some (.ref f4))) (l4 : K.lookup f4 = some ⟨oc4, od4, .func (PySem.W.fnOf "is_group" "is_group" (defArgs (topH 33)) (defBody (topH 33)) (defScope (topH 33)) .none kV4 dc4 pm4 an4 cd4 ct4), sl4⟩) (c4 : PySem.W.codeIn K cd4 "is_group" = true) (k4 : PySem.W.keepIn K (.ref f4) = true)
    {f5 : Addr} {od5 an5 : Option Addr} {sl5 : Array (Option Value)} {oc5 kV5 dc5 pm5 cd5 ct5 : Value} (a5 : PySem.W.nsIn K mainGlobals "weight_of" = some (some (.ref f5))) (l5 : K.lookup f5 = some ⟨oc5, od5, .func (PySem.W.fnOf "weight_of" "weight_of" (defArgs (topH 34)) (defBody (topH 34)) (defScope (topH 34)) .none kV5 dc5 pm5 an5 cd5 ct5), sl5⟩) (c5 : PySem.W.codeIn K cd5 "weight_of" = true) (k5 : PySem.W.keepIn K (.ref f5) = true)
    {f6 : Addr} {od6 an6 : Option Addr} {sl6 : Array (Option Value)} {oc6 kV6 dc6 pm6 cd6 ct6 : Value} (a6 : PySem.W.nsIn K mainGlobals "missing_weight" = some (some (.ref f6))) (l6 : K.lookup f6 = some ⟨oc6, od6, .func (PySem.W.fnOf "missing_weight" "missing_weight" (defArgs (topH 36)) (defBody (topH 36)) (defScope (topH 36)) .none kV6 dc6 pm6 an6 cd6 ct6), sl6⟩) (c6 : PySem.W.codeIn K cd6 "missing_weight" = true) (k6 : PySem.W.keepIn K (.ref f6) = true)
    {f7 : Addr} {od7 an7 : Option Addr} {sl7 : Array (Option Value)} {oc7 kV7 dc7 pm7 cd7 ct7 : Value} (a7 : PySem.W.nsIn K mainGlobals "without" = some (some (.ref f7))) (l7 : K.lookup f7 = some ⟨oc7, od7, .func (PySem.W.fnOf "without" "without" (defArgs (topH 40)) (defBody (topH 40)) (defScope (topH 40)) .none kV7 dc7 pm7 an7 cd7 ct7), sl7⟩) (c7 : PySem.W.codeIn K cd7 "without" = true) (k7 : PySem.W.keepIn K (.ref f7) = true)
    {f8 : Addr} {od8 an8 : Option Addr} {sl8 : Array (Option Value)} {oc8 kV8 dc8 pm8 cd8 ct8 : Value} (a8 : PySem.W.nsIn K mainGlobals "is_move" = some (some (.ref f8))) (l8 : K.lookup f8 = some ⟨oc8, od8, .func (PySem.W.fnOf "is_move" "is_move" (defArgs (topH 41)) (defBody (topH 41)) (defScope (topH 41)) .none kV8 dc8 pm8 an8 cd8 ct8), sl8⟩) (c8 : PySem.W.codeIn K cd8 "is_move" = true) (k8 : PySem.W.keepIn K (.ref f8) = true)
    {f9 : Addr} {od9 an9 : Option Addr} {sl9 : Array (Option Value)} {oc9 kV9 dc9 pm9 cd9 ct9 : Value} (a9 : PySem.W.nsIn K mainGlobals "move_between" = some (some (.ref f9))) (l9 : K.lookup f9 = some ⟨oc9, od9, .func (PySem.W.fnOf "move_between" "move_between" (defArgs (topH 42)) (defBody (topH 42)) (defScope (topH 42)) .none kV9 dc9 pm9 an9 cd9 ct9), sl9⟩) (c9 : PySem.W.codeIn K cd9 "move_between" = true) (k9 : PySem.W.keepIn K (.ref f9) = true)
    {f10 : Addr} {od10 an10 : Option Addr} {sl10 : Array (Option Value)} {oc10 kV10 dc10 pm10 cd10 ct10 : Value} (a10 : PySem.W.nsIn K mainGlobals "check_small" = some (some (.ref f10))) (l10 : K.lookup f10 = some ⟨oc10, od10, .func (PySem.W.fnOf "check_small" "check_small" (defArgs (topH 44)) (defBody (topH 44)) (defScope (topH 44)) .none kV10 dc10 pm10 an10 cd10 ct10), sl10⟩) (c10 : PySem.W.codeIn K cd10 "check_small" = true) (k10 : PySem.W.keepIn K (.ref f10) = true)
    {f11 : Addr} {od11 an11 : Option Addr} {sl11 : Array (Option Value)} {oc11 kV11 dc11 pm11 cd11 ct11 : Value} (a11 : PySem.W.nsIn K mainGlobals "groups_by_weight" = some (some (.ref f11))) (l11 : K.lookup f11 = some ⟨oc11, od11, .func (PySem.W.fnOf "groups_by_weight" "groups_by_weight" (defArgs (topH 45)) (defBody (topH 45)) (defScope (topH 45)) .none kV11 dc11 pm11 an11 cd11 ct11), sl11⟩) (c11 : PySem.W.codeIn K cd11 "groups_by_weight" = true) (k11 : PySem.W.keepIn K (.ref f11) = true)
    {f12 : Addr} {od12 an12 : Option Addr} {sl12 : Array (Option Value)} {oc12 kV12 dc12 pm12 cd12 ct12 : Value} (a12 : PySem.W.nsIn K mainGlobals "sums_of" = some (some (.ref f12))) (l12 : K.lookup f12 = some ⟨oc12, od12, .func (PySem.W.fnOf "sums_of" "sums_of" (defArgs (topH 46)) (defBody (topH 46)) (defScope (topH 46)) .none kV12 dc12 pm12 an12 cd12 ct12), sl12⟩) (c12 : PySem.W.codeIn K cd12 "sums_of" = true) (k12 : PySem.W.keepIn K (.ref f12) = true)
    {f13 : Addr} {od13 an13 : Option Addr} {sl13 : Array (Option Value)} {oc13 kV13 dc13 pm13 cd13 ct13 : Value} (a13 : PySem.W.nsIn K mainGlobals "sums_between" = some (some (.ref f13))) (l13 : K.lookup f13 = some ⟨oc13, od13, .func (PySem.W.fnOf "sums_between" "sums_between" (defArgs (topH 47)) (defBody (topH 47)) (defScope (topH 47)) .none kV13 dc13 pm13 an13 cd13 ct13), sl13⟩) (c13 : PySem.W.codeIn K cd13 "sums_between" = true) (k13 : PySem.W.keepIn K (.ref f13) = true)
    {f14 : Addr} {od14 an14 : Option Addr} {sl14 : Array (Option Value)} {oc14 kV14 dc14 pm14 cd14 ct14 : Value} (a14 : PySem.W.nsIn K mainGlobals "find_bar" = some (some (.ref f14))) (l14 : K.lookup f14 = some ⟨oc14, od14, .func (PySem.W.fnOf "find_bar" "find_bar" (defArgs (topH 48)) (defBody (topH 48)) (defScope (topH 48)) .none kV14 dc14 pm14 an14 cd14 ct14), sl14⟩) (c14 : PySem.W.codeIn K cd14 "find_bar" = true) (k14 : PySem.W.keepIn K (.ref f14) = true)
    {f15 : Addr} {od15 an15 : Option Addr} {sl15 : Array (Option Value)} {oc15 kV15 dc15 pm15 cd15 ct15 : Value} (a15 : PySem.W.nsIn K mainGlobals "stops_between" = some (some (.ref f15))) (l15 : K.lookup f15 = some ⟨oc15, od15, .func (PySem.W.fnOf "stops_between" "stops_between" (defArgs (topH 49)) (defBody (topH 49)) (defScope (topH 49)) .none kV15 dc15 pm15 an15 cd15 ct15), sl15⟩) (c15 : PySem.W.codeIn K cd15 "stops_between" = true) (k15 : PySem.W.keepIn K (.ref f15) = true)
    {f16 : Addr} {od16 an16 : Option Addr} {sl16 : Array (Option Value)} {oc16 kV16 dc16 pm16 cd16 ct16 : Value} (a16 : PySem.W.nsIn K mainGlobals "certificate" = some (some (.ref f16))) (l16 : K.lookup f16 = some ⟨oc16, od16, .func (PySem.W.fnOf "certificate" "certificate" (defArgs (topH 50)) (defBody (topH 50)) (defScope (topH 50)) .none kV16 dc16 pm16 an16 cd16 ct16), sl16⟩) (c16 : PySem.W.codeIn K cd16 "certificate" = true) (k16 : PySem.W.keepIn K (.ref f16) = true)
    {f17 : Addr} {od17 an17 : Option Addr} {sl17 : Array (Option Value)} {oc17 kV17 dc17 pm17 cd17 ct17 : Value} (a17 : PySem.W.nsIn K mainGlobals "find_plan" = some (some (.ref f17))) (l17 : K.lookup f17 = some ⟨oc17, od17, .func (PySem.W.fnOf "find_plan" "find_plan" (defArgs (topH 52)) (defBody (topH 52)) (defScope (topH 52)) .none kV17 dc17 pm17 an17 cd17 ct17), sl17⟩) (c17 : PySem.W.codeIn K cd17 "find_plan" = true) (k17 : PySem.W.keepIn K (.ref f17) = true)
    {f18 : Addr} {od18 an18 : Option Addr} {sl18 : Array (Option Value)} {oc18 kV18 dc18 pm18 cd18 ct18 : Value} (a18 : PySem.W.nsIn K mainGlobals "_law_deck" = some (some (.ref f18))) (l18 : K.lookup f18 = some ⟨oc18, od18, .func (PySem.W.fnOf "_law_deck" "_law_deck" (defArgs (topH 73)) (defBody (topH 73)) (defScope (topH 73)) .none kV18 dc18 pm18 an18 cd18 ct18), sl18⟩) (c18 : PySem.W.codeIn K cd18 "_law_deck" = true) (k18 : PySem.W.keepIn K (.ref f18) = true)
    {f19 : Addr} {od19 an19 : Option Addr} {sl19 : Array (Option Value)} {oc19 kV19 dc19 pm19 cd19 ct19 : Value} (a19 : PySem.W.nsIn K mainGlobals "_law_draw" = some (some (.ref f19))) (l19 : K.lookup f19 = some ⟨oc19, od19, .func (PySem.W.fnOf "_law_draw" "_law_draw" (defArgs (topH 74)) (defBody (topH 74)) (defScope (topH 74)) .none kV19 dc19 pm19 an19 cd19 ct19), sl19⟩) (c19 : PySem.W.codeIn K cd19 "_law_draw" = true) (k19 : PySem.W.keepIn K (.ref f19) = true)
    {f20 : Addr} {od20 an20 : Option Addr} {sl20 : Array (Option Value)} {oc20 kV20 dc20 pm20 cd20 ct20 : Value} (a20 : PySem.W.nsIn K mainGlobals "_law_weight" = some (some (.ref f20))) (l20 : K.lookup f20 = some ⟨oc20, od20, .func (PySem.W.fnOf "_law_weight" "_law_weight" (defArgs (topH 75)) (defBody (topH 75)) (defScope (topH 75)) .none kV20 dc20 pm20 an20 cd20 ct20), sl20⟩) (c20 : PySem.W.codeIn K cd20 "_law_weight" = true) (k20 : PySem.W.keepIn K (.ref f20) = true)
    {f21 : Addr} {od21 an21 : Option Addr} {sl21 : Array (Option Value)} {oc21 kV21 dc21 pm21 cd21 ct21 : Value} (a21 : PySem.W.nsIn K mainGlobals "_law_tower" = some (some (.ref f21))) (l21 : K.lookup f21 = some ⟨oc21, od21, .func (PySem.W.fnOf "_law_tower" "_law_tower" (defArgs (topH 76)) (defBody (topH 76)) (defScope (topH 76)) .none kV21 dc21 pm21 an21 cd21 ct21), sl21⟩) (c21 : PySem.W.codeIn K cd21 "_law_tower" = true) (k21 : PySem.W.keepIn K (.ref f21) = true)
    {f22 : Addr} {od22 an22 : Option Addr} {sl22 : Array (Option Value)} {oc22 kV22 dc22 pm22 cd22 ct22 : Value} (a22 : PySem.W.nsIn K mainGlobals "_law_edit" = some (some (.ref f22))) (l22 : K.lookup f22 = some ⟨oc22, od22, .func (PySem.W.fnOf "_law_edit" "_law_edit" (defArgs (topH 77)) (defBody (topH 77)) (defScope (topH 77)) .none kV22 dc22 pm22 an22 cd22 ct22), sl22⟩) (c22 : PySem.W.codeIn K cd22 "_law_edit" = true) (k22 : PySem.W.keepIn K (.ref f22) = true)
    {f23 : Addr} {od23 an23 : Option Addr} {sl23 : Array (Option Value)} {oc23 kV23 dc23 pm23 cd23 ct23 : Value} (a23 : PySem.W.nsIn K mainGlobals "_law_do" = some (some (.ref f23))) (l23 : K.lookup f23 = some ⟨oc23, od23, .func (PySem.W.fnOf "_law_do" "_law_do" (defArgs (topH 78)) (defBody (topH 78)) (defScope (topH 78)) .none kV23 dc23 pm23 an23 cd23 ct23), sl23⟩) (c23 : PySem.W.codeIn K cd23 "_law_do" = true) (k23 : PySem.W.keepIn K (.ref f23) = true)
    {f24 : Addr} {od24 an24 : Option Addr} {sl24 : Array (Option Value)} {oc24 kV24 dc24 pm24 cd24 ct24 : Value} (a24 : PySem.W.nsIn K mainGlobals "_law_load" = some (some (.ref f24))) (l24 : K.lookup f24 = some ⟨oc24, od24, .func (PySem.W.fnOf "_law_load" "_law_load" (defArgs (topH 79)) (defBody (topH 79)) (defScope (topH 79)) .none kV24 dc24 pm24 an24 cd24 ct24), sl24⟩) (c24 : PySem.W.codeIn K cd24 "_law_load" = true) (k24 : PySem.W.keepIn K (.ref f24) = true)
    {f25 : Addr} {od25 an25 : Option Addr} {sl25 : Array (Option Value)} {oc25 kV25 dc25 pm25 cd25 ct25 : Value} (a25 : PySem.W.nsIn K mainGlobals "_law_plan_right" = some (some (.ref f25))) (l25 : K.lookup f25 = some ⟨oc25, od25, .func (PySem.W.fnOf "_law_plan_right" "_law_plan_right" (defArgs (topH 80)) (defBody (topH 80)) (defScope (topH 80)) .none kV25 dc25 pm25 an25 cd25 ct25), sl25⟩) (c25 : PySem.W.codeIn K cd25 "_law_plan_right" = true) (k25 : PySem.W.keepIn K (.ref f25) = true)
    {f26 : Addr} {od26 an26 : Option Addr} {sl26 : Array (Option Value)} {oc26 kV26 dc26 pm26 cd26 ct26 : Value} (a26 : PySem.W.nsIn K mainGlobals "_law_edit_right" = some (some (.ref f26))) (l26 : K.lookup f26 = some ⟨oc26, od26, .func (PySem.W.fnOf "_law_edit_right" "_law_edit_right" (defArgs (topH 81)) (defBody (topH 81)) (defScope (topH 81)) .none kV26 dc26 pm26 an26 cd26 ct26), sl26⟩) (c26 : PySem.W.codeIn K cd26 "_law_edit_right" = true) (k26 : PySem.W.keepIn K (.ref f26) = true)
    {f27 : Addr} {od27 an27 : Option Addr} {sl27 : Array (Option Value)} {oc27 kV27 dc27 pm27 cd27 ct27 : Value} (a27 : PySem.W.nsIn K mainGlobals "law" = some (some (.ref f27))) (l27 : K.lookup f27 = some ⟨oc27, od27, .func (PySem.W.fnOf "law" "law" (defArgs (topH 82)) (defBody (topH 82)) (defScope (topH 82)) .none kV27 dc27 pm27 an27 cd27 ct27), sl27⟩) (c27 : PySem.W.codeIn K cd27 "law" = true) (k27 : PySem.W.keepIn K (.ref f27) = true)
    {f28 : Addr} {od28 an28 : Option Addr} {sl28 : Array (Option Value)} {oc28 kV28 dc28 pm28 cd28 ct28 : Value} (l28 : K.lookup f28 = some ⟨oc28, od28, .func (PySem.W.fnOf "__init__" "Load.__init__" (defArgs (membH (topH 37) 0)) (defBody (membH (topH 37) 0)) (defScope (membH (topH 37) 0)) .none kV28 dc28 pm28 an28 cd28 ct28), sl28⟩) (c28 : PySem.W.codeIn K cd28 "Load.__init__" = true) (k28 : PySem.W.keepIn K (.ref f28) = true) (v28 : PySem.W.isFn K (.ref f28) = true) (w28 : PySem.W.fnIn K f28 = true)
    {f29 : Addr} {od29 an29 : Option Addr} {sl29 : Array (Option Value)} {oc29 kV29 dc29 pm29 cd29 ct29 : Value} (l29 : K.lookup f29 = some ⟨oc29, od29, .func (PySem.W.fnOf "__add__" "Load.__add__" (defArgs (membH (topH 37) 5)) (defBody (membH (topH 37) 5)) (defScope (membH (topH 37) 5)) .none kV29 dc29 pm29 an29 cd29 ct29), sl29⟩) (c29 : PySem.W.codeIn K cd29 "Load.__add__" = true) (k29 : PySem.W.keepIn K (.ref f29) = true) (v29 : PySem.W.isFn K (.ref f29) = true) (w29 : PySem.W.fnIn K f29 = true)
    {f30 : Addr} {od30 an30 : Option Addr} {sl30 : Array (Option Value)} {oc30 kV30 dc30 pm30 cd30 ct30 : Value} (l30 : K.lookup f30 = some ⟨oc30, od30, .func (PySem.W.fnOf "__sub__" "Load.__sub__" (defArgs (membH (topH 37) 6)) (defBody (membH (topH 37) 6)) (defScope (membH (topH 37) 6)) .none kV30 dc30 pm30 an30 cd30 ct30), sl30⟩) (c30 : PySem.W.codeIn K cd30 "Load.__sub__" = true) (k30 : PySem.W.keepIn K (.ref f30) = true) (v30 : PySem.W.isFn K (.ref f30) = true) (w30 : PySem.W.fnIn K f30 = true)
    {f31 : Addr} {od31 an31 : Option Addr} {sl31 : Array (Option Value)} {oc31 kV31 dc31 pm31 cd31 ct31 : Value} (l31 : K.lookup f31 = some ⟨oc31, od31, .func (PySem.W.fnOf "__eq__" "Load.__eq__" (defArgs (membH (topH 37) 10)) (defBody (membH (topH 37) 10)) (defScope (membH (topH 37) 10)) .none kV31 dc31 pm31 an31 cd31 ct31), sl31⟩) (c31 : PySem.W.codeIn K cd31 "Load.__eq__" = true) (k31 : PySem.W.keepIn K (.ref f31) = true) (v31 : PySem.W.isFn K (.ref f31) = true) (w31 : PySem.W.fnIn K f31 = true)
    {f32 : Addr} {od32 an32 : Option Addr} {sl32 : Array (Option Value)} {oc32 kV32 dc32 pm32 cd32 ct32 : Value} (l32 : K.lookup f32 = some ⟨oc32, od32, .func (PySem.W.fnOf "__contains__" "Load.__contains__" (defArgs (membH (topH 37) 7)) (defBody (membH (topH 37) 7)) (defScope (membH (topH 37) 7)) .none kV32 dc32 pm32 an32 cd32 ct32), sl32⟩) (c32 : PySem.W.codeIn K cd32 "Load.__contains__" = true) (k32 : PySem.W.keepIn K (.ref f32) = true) (v32 : PySem.W.isFn K (.ref f32) = true) (w32 : PySem.W.fnIn K f32 = true)
    {f33 : Addr} {od33 an33 : Option Addr} {sl33 : Array (Option Value)} {oc33 kV33 dc33 pm33 cd33 ct33 : Value} (l33 : K.lookup f33 = some ⟨oc33, od33, .func (PySem.W.fnOf "__init__" "Basket.__init__" (defArgs (membH (topH 38) 0)) (defBody (membH (topH 38) 0)) (defScope (membH (topH 38) 0)) .none kV33 dc33 pm33 an33 cd33 ct33), sl33⟩) (c33 : PySem.W.codeIn K cd33 "Basket.__init__" = true) (k33 : PySem.W.keepIn K (.ref f33) = true) (v33 : PySem.W.isFn K (.ref f33) = true) (w33 : PySem.W.fnIn K f33 = true)
    {f34 : Addr} {od34 an34 : Option Addr} {sl34 : Array (Option Value)} {oc34 kV34 dc34 pm34 cd34 ct34 : Value} (l34 : K.lookup f34 = some ⟨oc34, od34, .func (PySem.W.fnOf "__call__" "Basket.__call__" (defArgs (membH (topH 38) 3)) (defBody (membH (topH 38) 3)) (defScope (membH (topH 38) 3)) .none kV34 dc34 pm34 an34 cd34 ct34), sl34⟩) (c34 : PySem.W.codeIn K cd34 "Basket.__call__" = true) (k34 : PySem.W.keepIn K (.ref f34) = true) (v34 : PySem.W.isFn K (.ref f34) = true) (w34 : PySem.W.fnIn K f34 = true)
    {f35 : Addr} {od35 an35 : Option Addr} {sl35 : Array (Option Value)} {oc35 kV35 dc35 pm35 cd35 ct35 : Value} (l35 : K.lookup f35 = some ⟨oc35, od35, .func (PySem.W.fnOf "__init__" "Hoist.__init__" (defArgs (membH (topH 69) 1)) (defBody (membH (topH 69) 1)) (defScope (membH (topH 69) 1)) .none kV35 dc35 pm35 an35 cd35 ct35), sl35⟩) (c35 : PySem.W.codeIn K cd35 "Hoist.__init__" = true) (k35 : PySem.W.keepIn K (.ref f35) = true) (v35 : PySem.W.isFn K (.ref f35) = true) (w35 : PySem.W.fnIn K f35 = true)
    {f36 : Addr} {od36 an36 : Option Addr} {sl36 : Array (Option Value)} {oc36 kV36 dc36 pm36 cd36 ct36 : Value} (l36 : K.lookup f36 = some ⟨oc36, od36, .func (PySem.W.fnOf "come" "Hoist.come" (defArgs (membH (topH 69) 5)) (defBody (membH (topH 69) 5)) (defScope (membH (topH 69) 5)) .none kV36 dc36 pm36 an36 cd36 ct36), sl36⟩) (c36 : PySem.W.codeIn K cd36 "Hoist.come" = true) (k36 : PySem.W.keepIn K (.ref f36) = true) (v36 : PySem.W.isFn K (.ref f36) = true) (w36 : PySem.W.fnIn K f36 = true)
    {f37 : Addr} {od37 an37 : Option Addr} {sl37 : Array (Option Value)} {oc37 kV37 dc37 pm37 cd37 ct37 : Value} (l37 : K.lookup f37 = some ⟨oc37, od37, .func (PySem.W.fnOf "leave" "Hoist.leave" (defArgs (membH (topH 69) 6)) (defBody (membH (topH 69) 6)) (defScope (membH (topH 69) 6)) .none kV37 dc37 pm37 an37 cd37 ct37), sl37⟩) (c37 : PySem.W.codeIn K cd37 "Hoist.leave" = true) (k37 : PySem.W.keepIn K (.ref f37) = true) (v37 : PySem.W.isFn K (.ref f37) = true) (w37 : PySem.W.fnIn K f37 = true)
    {f38 : Addr} {od38 an38 : Option Addr} {sl38 : Array (Option Value)} {oc38 kV38 dc38 pm38 cd38 ct38 : Value} (l38 : K.lookup f38 = some ⟨oc38, od38, .func (PySem.W.fnOf "weigh" "Hoist.weigh" (defArgs (membH (topH 69) 7)) (defBody (membH (topH 69) 7)) (defScope (membH (topH 69) 7)) .none kV38 dc38 pm38 an38 cd38 ct38), sl38⟩) (c38 : PySem.W.codeIn K cd38 "Hoist.weigh" = true) (k38 : PySem.W.keepIn K (.ref f38) = true) (v38 : PySem.W.isFn K (.ref f38) = true) (w38 : PySem.W.fnIn K f38 = true)
    {f39 : Addr} {od39 an39 : Option Addr} {sl39 : Array (Option Value)} {oc39 kV39 dc39 pm39 cd39 ct39 : Value} (l39 : K.lookup f39 = some ⟨oc39, od39, .func (PySem.W.fnOf "loosen" "Hoist.loosen" (defArgs (membH (topH 69) 8)) (defBody (membH (topH 69) 8)) (defScope (membH (topH 69) 8)) .none kV39 dc39 pm39 an39 cd39 ct39), sl39⟩) (c39 : PySem.W.codeIn K cd39 "Hoist.loosen" = true) (k39 : PySem.W.keepIn K (.ref f39) = true) (v39 : PySem.W.isFn K (.ref f39) = true) (w39 : PySem.W.fnIn K f39 = true)
    {f40 : Addr} {od40 an40 : Option Addr} {sl40 : Array (Option Value)} {oc40 kV40 dc40 pm40 cd40 ct40 : Value} (l40 : K.lookup f40 = some ⟨oc40, od40, .func (PySem.W.fnOf "__len__" "Hoist.__len__" (defArgs (membH (topH 69) 16)) (defBody (membH (topH 69) 16)) (defScope (membH (topH 69) 16)) .none kV40 dc40 pm40 an40 cd40 ct40), sl40⟩) (c40 : PySem.W.codeIn K cd40 "Hoist.__len__" = true) (k40 : PySem.W.keepIn K (.ref f40) = true) (v40 : PySem.W.isFn K (.ref f40) = true) (w40 : PySem.W.fnIn K f40 = true)
    {f41 : Addr} {od41 an41 : Option Addr} {sl41 : Array (Option Value)} {oc41 kV41 dc41 pm41 cd41 ct41 : Value} (l41 : K.lookup f41 = some ⟨oc41, od41, .func (PySem.W.fnOf "_check_idle" "Hoist._check_idle" (defArgs (membH (topH 69) 19)) (defBody (membH (topH 69) 19)) (defScope (membH (topH 69) 19)) .none kV41 dc41 pm41 an41 cd41 ct41), sl41⟩) (c41 : PySem.W.codeIn K cd41 "Hoist._check_idle" = true) (k41 : PySem.W.keepIn K (.ref f41) = true) (v41 : PySem.W.isFn K (.ref f41) = true) (w41 : PySem.W.fnIn K f41 = true)
    {f42 : Addr} {od42 an42 : Option Addr} {sl42 : Array (Option Value)} {oc42 kV42 dc42 pm42 cd42 ct42 : Value} (l42 : K.lookup f42 = some ⟨oc42, od42, .func (PySem.W.fnOf "_check_edit" "Hoist._check_edit" (defArgs (membH (topH 69) 20)) (defBody (membH (topH 69) 20)) (defScope (membH (topH 69) 20)) .none kV42 dc42 pm42 an42 cd42 ct42), sl42⟩) (c42 : PySem.W.codeIn K cd42 "Hoist._check_edit" = true) (k42 : PySem.W.keepIn K (.ref f42) = true) (v42 : PySem.W.isFn K (.ref f42) = true) (w42 : PySem.W.fnIn K f42 = true)
    {f43 : Addr} {od43 an43 : Option Addr} {sl43 : Array (Option Value)} {oc43 kV43 dc43 pm43 cd43 ct43 : Value} (l43 : K.lookup f43 = some ⟨oc43, od43, .func (PySem.W.fnOf "_check_person" "Hoist._check_person" (defArgs (membH (topH 69) 21)) (defBody (membH (topH 69) 21)) (defScope (membH (topH 69) 21)) .none kV43 dc43 pm43 an43 cd43 ct43), sl43⟩) (c43 : PySem.W.codeIn K cd43 "Hoist._check_person" = true) (k43 : PySem.W.keepIn K (.ref f43) = true) (v43 : PySem.W.isFn K (.ref f43) = true) (w43 : PySem.W.fnIn K f43 = true)
    {f44 : Addr} {od44 an44 : Option Addr} {sl44 : Array (Option Value)} {oc44 kV44 dc44 pm44 cd44 ct44 : Value} (l44 : K.lookup f44 = some ⟨oc44, od44, .func (PySem.W.fnOf "_check_tower" "Hoist._check_tower" (defArgs (membH (topH 69) 22)) (defBody (membH (topH 69) 22)) (defScope (membH (topH 69) 22)) .none kV44 dc44 pm44 an44 cd44 ct44), sl44⟩) (c44 : PySem.W.codeIn K cd44 "Hoist._check_tower" = true) (k44 : PySem.W.keepIn K (.ref f44) = true) (v44 : PySem.W.isFn K (.ref f44) = true) (w44 : PySem.W.fnIn K f44 = true)
    {f45 : Addr} {od45 an45 : Option Addr} {sl45 : Array (Option Value)} {oc45 kV45 dc45 pm45 cd45 ct45 : Value} (l45 : K.lookup f45 = some ⟨oc45, od45, .func (PySem.W.fnOf "_keep" "Hoist._keep" (defArgs (membH (topH 69) 23)) (defBody (membH (topH 69) 23)) (defScope (membH (topH 69) 23)) .none kV45 dc45 pm45 an45 cd45 ct45), sl45⟩) (c45 : PySem.W.codeIn K cd45 "Hoist._keep" = true) (k45 : PySem.W.keepIn K (.ref f45) = true) (v45 : PySem.W.isFn K (.ref f45) = true) (w45 : PySem.W.fnIn K f45 = true)
    {pa46 f46 : Addr} {pr46 : List Value} {od46 an46 : Option Addr} {sl46 : Array (Option Value)} {oc46 kV46 dc46 pm46 cd46 ct46 : Value}
    {f47 kD47 : Addr} {od47 an47 : Option Addr} {sl47 : Array (Option Value)} {oc47 dc47 pm47 cd47 ct47 : Value} (l47 : K.lookup f47 = some ⟨oc47, od47, .func (PySem.W.fnOf "state" "Hoist.state" (defArgs (membH (topH 69) 11)) (defBody (membH (topH 69) 11)) (defScope (membH (topH 69) 11)) .none (.ref kD47) dc47 pm47 an47 cd47 ct47), sl47⟩) (n47 : PySem.W.nsIn K kD47 "version" = some (some .none)) (c47 : PySem.W.codeIn K cd47 "Hoist.state" = true) (k47 : PySem.W.keepIn K (.ref f47) = true) (v47 : PySem.W.isFn K (.ref f47) = true)
    {f48 kD48 : Addr} {od48 an48 : Option Addr} {sl48 : Array (Option Value)} {oc48 dc48 pm48 cd48 ct48 : Value} (l48 : K.lookup f48 = some ⟨oc48, od48, .func (PySem.W.fnOf "certificate" "Hoist.certificate" (defArgs (membH (topH 69) 12)) (defBody (membH (topH 69) 12)) (defScope (membH (topH 69) 12)) .none (.ref kD48) dc48 pm48 an48 cd48 ct48), sl48⟩) (n48 : PySem.W.nsIn K kD48 "version" = some (some .none)) (c48 : PySem.W.codeIn K cd48 "Hoist.certificate" = true) (k48 : PySem.W.keepIn K (.ref f48) = true) (v48 : PySem.W.isFn K (.ref f48) = true)
    {t0 : Tok} (m0 : PySem.W.nsIn K mainGlobals "MAX_EDITS" = some (some (.int 60 t0)))
    {t1 : Tok} (m1 : PySem.W.nsIn K mainGlobals "MAX_EXCESS" = some (some (.int 1000000 t1)))
    {t2 : Tok} (m2 : PySem.W.nsIn K mainGlobals "MAX_LOAD" = some (some (.int 100 t2)))
    {t3 : Tok} (m3 : PySem.W.nsIn K mainGlobals "MAX_PEOPLE" = some (some (.int 24 t3)))
    {t4 : Tok} (m4 : PySem.W.nsIn K mainGlobals "MAX_WEIGHT" = some (some (.int 1000000 t4)))
    {t5 : Tok} (m5 : PySem.W.nsIn K mainGlobals "SMALL" = some (some (.int 8 t5)))
    (z0 : PySem.W.nsIn K mainGlobals "abs" = some none)
    (z1 : PySem.W.nsIn K mainGlobals "all" = some none)
    (z2 : PySem.W.nsIn K mainGlobals "bool" = some none)
    (z3 : PySem.W.nsIn K mainGlobals "enumerate" = some none)
    (z4 : PySem.W.nsIn K mainGlobals "int" = some none)
    (z5 : PySem.W.nsIn K mainGlobals "isinstance" = some none)
    (z6 : PySem.W.nsIn K mainGlobals "len" = some none)
    (z7 : PySem.W.nsIn K mainGlobals "list" = some none)
    (z8 : PySem.W.nsIn K mainGlobals "max" = some none)
    (z9 : PySem.W.nsIn K mainGlobals "min" = some none)
    (z10 : PySem.W.nsIn K mainGlobals "range" = some none)
    (z11 : PySem.W.nsIn K mainGlobals "sorted" = some none)
    (z12 : PySem.W.nsIn K mainGlobals "sum" = some none)
    (z13 : PySem.W.nsIn K mainGlobals "tuple" = some none)
    (z14 : PySem.W.nsIn K mainGlobals "zip" = some none)
    (l_0 : PySem.W.nsIn K mainGlobals "certificate_plans" = some (some (.ref f16)))
    {A_Basket : Addr} (kc_Basket : PySem.W.nsIn K mainGlobals "Basket" = some (some (.ref A_Basket)))
    {A_Hoist : Addr} (kc_Hoist : PySem.W.nsIn K mainGlobals "Hoist" = some (some (.ref A_Hoist)))
    {A_Load : Addr} (kc_Load : PySem.W.nsIn K mainGlobals "Load" = some (some (.ref A_Load)))
    {A_Missing : Addr} (kc_Missing : PySem.W.nsIn K mainGlobals "Missing" = some (some (.ref A_Missing)))
    {nm_Missing q_Missing : Str} {N_Missing F_Missing : Addr} {bs_Missing bm_Missing su_Missing : List Value} {sn_Missing : List Str} {ab_Missing : Bool} {co_Missing : Option Bool} {dd_Missing od_Missing an_Missing : Option Addr} {m0_Missing m1_Missing m2_Missing m3_Missing m5_Missing : Option Value} {oc_Missing kV_Missing dc_Missing pm_Missing cd_Missing ct_Missing : Value} {sl_Missing : Array (Option Value)}
    (xl_Missing : K.lookup A_Missing = some (excClassObj nm_Missing q_Missing A_Missing N_Missing bs_Missing bm_Missing true sn_Missing su_Missing ab_Missing co_Missing dd_Missing m0_Missing m1_Missing m2_Missing m3_Missing m5_Missing "ValueError.__new__")) (xr_Missing : PySem.HandSPX.refsVE bm_Missing = true) (xs_Missing : PySem.W.findIn K (.ref A_Missing) "__setattr__" = some (some (.builtin "object.__setattr__"))) (xb_Missing : PySem.W.subIn K (.ref A_Missing) (.type "BaseException") = some true) (xt_Missing : PySem.W.typeIn K (.ref A_Missing) = some (.type "type")) (xk_Missing : PySem.W.keepIn K (.ref A_Missing) = true) (xn_Missing : PySem.W.findIn K (.ref A_Missing) "weight" = some none)
    (xi_Missing : PySem.W.findIn K (.ref A_Missing) "__init__" = some (some (.ref F_Missing))) (xf_Missing : PySem.W.typeIn K (.ref F_Missing) = some (.type "function")) (xm_Missing : K.lookup F_Missing = some ⟨oc_Missing, od_Missing, .func (PySem.W.fnOf "__init__" "Missing.__init__" (defArgs (membH (topH 15) 0)) (defBody (membH (topH 15) 0)) (defScope (membH (topH 15) 0)) .none kV_Missing dc_Missing pm_Missing an_Missing cd_Missing ct_Missing), sl_Missing⟩) (xo_Missing : PySem.W.codeIn K cd_Missing "Missing.__init__" = true) (xp_Missing : PySem.W.keepIn K (.ref F_Missing) = true)
    (u1_Basket : PySem.W.plainGet K A_Basket Str.empty = true)
    (u2_Basket : PySem.W.hasDictIn K A_Basket = true)
    (u3_Basket : PySem.W.plainOver K A_Basket = true)
    (u4_Basket : PySem.W.findIn K (.ref A_Basket) "__setattr__" = some (some (.builtin "object.__setattr__")))
    (u1_Hoist : PySem.W.plainGet K A_Hoist Str.empty = true)
    (u2_Hoist : PySem.W.hasDictIn K A_Hoist = true)
    (u3_Hoist : PySem.W.plainOver K A_Hoist = true)
    (u4_Hoist : PySem.W.findIn K (.ref A_Hoist) "__setattr__" = some (some (.builtin "object.__setattr__")))
    (u1_Load : PySem.W.plainGet K A_Load Str.empty = true)
    (u2_Load : PySem.W.hasDictIn K A_Load = true)
    (u3_Load : PySem.W.plainOver K A_Load = true)
    (u4_Load : PySem.W.findIn K (.ref A_Load) "__setattr__" = some (some (.builtin "object.__setattr__")))
    {pa_Basket_excess pg_Basket_excess : Addr} {pr_Basket_excess : List Value} {pod_Basket_excess pan_Basket_excess : Option Addr} {psl_Basket_excess : Array (Option Value)} {poc_Basket_excess pkV_Basket_excess pdc_Basket_excess ppm_Basket_excess pcd_Basket_excess pct_Basket_excess : Value}
    (q1_Basket_excess : PySem.W.findIn K (.ref A_Basket) "excess" = some (some (.ref pa_Basket_excess)))
    (q2_Basket_excess : PySem.W.specialIn K (.ref pa_Basket_excess) "__get__" = some (some (.builtin "property.__get__")))
    (q3_Basket_excess : PySem.W.takesIn K (.ref pa_Basket_excess) = some true)
    (q4_Basket_excess : PySem.W.recIn K pa_Basket_excess "property" = some (.ref pg_Basket_excess :: pr_Basket_excess))
    (q5_Basket_excess : K.lookup pg_Basket_excess = some ⟨poc_Basket_excess, pod_Basket_excess, .func (PySem.W.fnOf "excess" "Basket.excess" (defArgs (membH (topH 38) 1)) (defBody (membH (topH 38) 1)) (defScope (membH (topH 38) 1)) .none pkV_Basket_excess pdc_Basket_excess ppm_Basket_excess pan_Basket_excess pcd_Basket_excess pct_Basket_excess), psl_Basket_excess⟩)
    (q6_Basket_excess : PySem.W.codeIn K pcd_Basket_excess "Basket.excess" = true)
    (un_Basket__excess : PySem.W.findIn K (.ref A_Basket) "_excess" = some none)
    {pa_Basket_rides pg_Basket_rides : Addr} {pr_Basket_rides : List Value} {pod_Basket_rides pan_Basket_rides : Option Addr} {psl_Basket_rides : Array (Option Value)} {poc_Basket_rides pkV_Basket_rides pdc_Basket_rides ppm_Basket_rides pcd_Basket_rides pct_Basket_rides : Value}
    (q1_Basket_rides : PySem.W.findIn K (.ref A_Basket) "rides" = some (some (.ref pa_Basket_rides)))
    (q2_Basket_rides : PySem.W.specialIn K (.ref pa_Basket_rides) "__get__" = some (some (.builtin "property.__get__")))
    (q3_Basket_rides : PySem.W.takesIn K (.ref pa_Basket_rides) = some true)
    (q4_Basket_rides : PySem.W.recIn K pa_Basket_rides "property" = some (.ref pg_Basket_rides :: pr_Basket_rides))
    (q5_Basket_rides : K.lookup pg_Basket_rides = some ⟨poc_Basket_rides, pod_Basket_rides, .func (PySem.W.fnOf "rides" "Basket.rides" (defArgs (membH (topH 38) 2)) (defBody (membH (topH 38) 2)) (defScope (membH (topH 38) 2)) .none pkV_Basket_rides pdc_Basket_rides ppm_Basket_rides pan_Basket_rides pcd_Basket_rides pct_Basket_rides), psl_Basket_rides⟩)
    (q6_Basket_rides : PySem.W.codeIn K pcd_Basket_rides "Basket.rides" = true)
    (un_Basket__rides : PySem.W.findIn K (.ref A_Basket) "_rides" = some none)
    {pa_Load_total pg_Load_total : Addr} {pr_Load_total : List Value} {pod_Load_total pan_Load_total : Option Addr} {psl_Load_total : Array (Option Value)} {poc_Load_total pkV_Load_total pdc_Load_total ppm_Load_total pcd_Load_total pct_Load_total : Value}
    (q1_Load_total : PySem.W.findIn K (.ref A_Load) "total" = some (some (.ref pa_Load_total)))
    (q2_Load_total : PySem.W.specialIn K (.ref pa_Load_total) "__get__" = some (some (.builtin "property.__get__")))
    (q3_Load_total : PySem.W.takesIn K (.ref pa_Load_total) = some true)
    (q4_Load_total : PySem.W.recIn K pa_Load_total "property" = some (.ref pg_Load_total :: pr_Load_total))
    (q5_Load_total : K.lookup pg_Load_total = some ⟨poc_Load_total, pod_Load_total, .func (PySem.W.fnOf "total" "Load.total" (defArgs (membH (topH 37) 2)) (defBody (membH (topH 37) 2)) (defScope (membH (topH 37) 2)) .none pkV_Load_total pdc_Load_total ppm_Load_total pan_Load_total pcd_Load_total pct_Load_total), psl_Load_total⟩)
    (q6_Load_total : PySem.W.codeIn K pcd_Load_total "Load.total" = true)
    (un_Load__total : PySem.W.findIn K (.ref A_Load) "_total" = some none)
    {pa_Load_weights pg_Load_weights : Addr} {pr_Load_weights : List Value} {pod_Load_weights pan_Load_weights : Option Addr} {psl_Load_weights : Array (Option Value)} {poc_Load_weights pkV_Load_weights pdc_Load_weights ppm_Load_weights pcd_Load_weights pct_Load_weights : Value}
    (q1_Load_weights : PySem.W.findIn K (.ref A_Load) "weights" = some (some (.ref pa_Load_weights)))
    (q2_Load_weights : PySem.W.specialIn K (.ref pa_Load_weights) "__get__" = some (some (.builtin "property.__get__")))
    (q3_Load_weights : PySem.W.takesIn K (.ref pa_Load_weights) = some true)
    (q4_Load_weights : PySem.W.recIn K pa_Load_weights "property" = some (.ref pg_Load_weights :: pr_Load_weights))
    (q5_Load_weights : K.lookup pg_Load_weights = some ⟨poc_Load_weights, pod_Load_weights, .func (PySem.W.fnOf "weights" "Load.weights" (defArgs (membH (topH 37) 1)) (defBody (membH (topH 37) 1)) (defScope (membH (topH 37) 1)) .none pkV_Load_weights pdc_Load_weights ppm_Load_weights pan_Load_weights pcd_Load_weights pct_Load_weights), psl_Load_weights⟩)
    (q6_Load_weights : PySem.W.codeIn K pcd_Load_weights "Load.weights" = true)
    (un_Load__weights : PySem.W.findIn K (.ref A_Load) "_weights" = some none)
    (u5_Load : PySem.W.findIn K (.ref A_Load) "__class__" = some (some (.builtin "object.__class__")))
    (u6_ : PySem.W.specialIn K (.builtin "object.__class__") "__get__" = some (some (.builtin "getset_descriptor.__get__")))
    (u7_ : PySem.W.takesIn K (.builtin "object.__class__") = some true)
    (u8_Load : PySem.W.mroIn K A_Load (.type "object") = some true)
    (u9_Load : PySem.W.isClsIn K A_Load = true)
    (u10_Load : PySem.W.typeIn K (.ref A_Load) = some (.type "type"))
    (um_Basket : PySem.W.makesIn K A_Basket = true)
    (uk_Basket : PySem.W.keepIn K (.ref A_Basket) = true)
    (um_Hoist : PySem.W.makesIn K A_Hoist = true)
    (uk_Hoist : PySem.W.keepIn K (.ref A_Hoist) = true)
    (um_Load : PySem.W.makesIn K A_Load = true)
    (uk_Load : PySem.W.keepIn K (.ref A_Load) = true)
    (un_Hoist__edits : PySem.W.findIn K (.ref A_Hoist) "_edits" = some none)
    (un_Hoist__towers : PySem.W.findIn K (.ref A_Hoist) "_towers" = some none)
    (un_Hoist__watched : PySem.W.findIn K (.ref A_Hoist) "_watched" = some none)
    (us_Load : PySem.W.selfFirst K A_Load = true)
    (a28_Load : PySem.W.findIn K (.ref A_Load) "__init__" = some (some (.ref f28)))
    (a29_Load : PySem.W.findIn K (.ref A_Load) "__add__" = some (some (.ref f29)))
    (a30_Load : PySem.W.findIn K (.ref A_Load) "__sub__" = some (some (.ref f30)))
    (a31_Load : PySem.W.findIn K (.ref A_Load) "__eq__" = some (some (.ref f31)))
    (a32_Load : PySem.W.findIn K (.ref A_Load) "__contains__" = some (some (.ref f32)))
    (a33_Basket : PySem.W.findIn K (.ref A_Basket) "__init__" = some (some (.ref f33)))
    (a34_Basket : PySem.W.findIn K (.ref A_Basket) "__call__" = some (some (.ref f34)))
    (a35_Hoist : PySem.W.findIn K (.ref A_Hoist) "__init__" = some (some (.ref f35)))
    (a36_Hoist : PySem.W.findIn K (.ref A_Hoist) "come" = some (some (.ref f36)))
    (a37_Hoist : PySem.W.findIn K (.ref A_Hoist) "leave" = some (some (.ref f37)))
    (a38_Hoist : PySem.W.findIn K (.ref A_Hoist) "weigh" = some (some (.ref f38)))
    (a39_Hoist : PySem.W.findIn K (.ref A_Hoist) "loosen" = some (some (.ref f39)))
    (a40_Hoist : PySem.W.findIn K (.ref A_Hoist) "__len__" = some (some (.ref f40)))
    (a41_Hoist : PySem.W.findIn K (.ref A_Hoist) "_check_idle" = some (some (.ref f41)))
    (a42_Hoist : PySem.W.findIn K (.ref A_Hoist) "_check_edit" = some (some (.ref f42)))
    (a43_Hoist : PySem.W.findIn K (.ref A_Hoist) "_check_person" = some (some (.ref f43)))
    (a44_Hoist : PySem.W.findIn K (.ref A_Hoist) "_check_tower" = some (some (.ref f44)))
    (a45_Hoist : PySem.W.findIn K (.ref A_Hoist) "_keep" = some (some (.ref f45)))
    (a46_Hoist : PySem.W.findIn K (.ref A_Hoist) "tower" = some (some (.ref pa46))) (p146 : PySem.W.specialIn K (.ref pa46) "__get__" = some (some (.builtin "property.__get__"))) (p246 : PySem.W.takesIn K (.ref pa46) = some true) (p346 : PySem.W.recIn K pa46 "property" = some (.ref f46 :: pr46)) (l46 : K.lookup f46 = some ⟨oc46, od46, .func (PySem.W.fnOf "tower" "Hoist.tower" (defArgs (membH (topH 69) 2)) (defBody (membH (topH 69) 2)) (defScope (membH (topH 69) 2)) .none kV46 dc46 pm46 an46 cd46 ct46), sl46⟩) (c46 : PySem.W.codeIn K cd46 "Hoist.tower" = true) (k46 : PySem.W.keepIn K (.ref f46) = true)
    (a47_Hoist : PySem.W.findIn K (.ref A_Hoist) "state" = some (some (.ref f47)))
    (a48_Hoist : PySem.W.findIn K (.ref A_Hoist) "certificate" = some (some (.ref f48))), ∃ fd : FuncData, (∀ (s : Shared) (u : Value), BindsTo s fd ⟨[u], []⟩ [("script", u)]) ∧ ∀ base : Heap, K.In base → base.Ns mainGlobals mg → FnG P w K mg base CX0 11 fa fd ["script"] (sp K) )
    (hs : ∀ (K : PySem.W.Frag) (hp : Hp) (a : Addr) (ns : List Int), ns.length ≤ 63 → Only hp → SqL K hp a (ns.map V.int) → sp K [.ref a] hp (fun v _ => v = .bl true) fun _ _ _ => False) : PySem.Challenge.rw_basketrope_k54_whole_hoists_and_values.Holds := by
  w_on; o_law; k_head; (case hw => w_witness2)
end K54

/-! TR: who is stuck, and reach; all of a list of truth values. -/
namespace DL
open PySem PySem.Spec L2 PyProof.Rows LK
/-! ### all([..]), any([..]) -/
def dAllL : DOn := fun xs ω Q => ∃ (x : D) (bs : List Bool), xs = [x] ∧ lstOf ω x = some (bs.map D.bl) ∧ Q (.bl (bs.all id)) ω
def dAnyL : DOn := fun xs ω Q => ∃ (x : D) (bs : List Bool), xs = [x] ∧ lstOf ω x = some (bs.map D.bl) ∧ Q (.bl (bs.any id)) ω
theorem RpAll.bls {K : PySem.W.Frag} {f : Fp} {H : Hp} {bs : List Bool} : ∀ {vs : List V}, RpAll K f H (bs.map D.bl) vs → vs = bs.map V.bl := by
  induction bs with
  | nil => intro vs h; cases h; rfl
  | cons n ns ih =>
    intro vs h
    cases h with
    | cons r t => cases r; rw [ih t, List.map_cons]
theorem ok_allL [Amb] {K : PySem.W.Frag} : CallD K dAllL (rAll K) := by
  intro h xs ω R vs H Q ⟨x, bs, e, t, q⟩ w r k
  subst e
  obtain ⟨v, rfl, rv⟩ := r.one
  obtain ⟨a, vs, rfl, sx, ra⟩ := lstOf_sq w t rv
  have z := ra.bls
  subst z
  exact ⟨a, bs, rfl, sx, k.self w q (.bl _)⟩
/-! ### is not, of truth values -/
def dNotB : DO2 := fun x y ω Q => ∃ a b, x = .bl a ∧ y = .bl b ∧ Q (.bl (!decide (a = b))) ω
theorem st_notB {a b : Bool} {ω : Om} {Q : DQ} (h : Q (.bl (!decide (a = b))) ω) : dNotB (.bl a) (.bl b) ω Q := ⟨a, b, rfl, rfl, h⟩
/-- sum of a tuple of ints -/
def rSumT (K : PySem.W.Frag) : List V → Hp → VK → Prop := fun vs H Q => ∃ (a : Addr) (ns : List Int), vs = [V.ref a] ∧ SqT K H a (ns.map V.int) ∧ Q (.int ns.sum) H
theorem cr_sumT {X : Cx} (hc : X.calm = true) : CallR X (.builtin "sum") (rSumT X.K) := by
  intro pins s σ H vs us Q I r h
  obtain ⟨a, ns, rfl, hs, q⟩ := h
  obtain ⟨its, rv, ht, _⟩ := I.tuple hs
  rw [Vals.ref1 r]
  have hi : IntsAre its ns := by simpa using rv.ints
  obtain ⟨xs, e⟩ := hi.allInts.items
  have hn : numsOf its.toArray.toList = ns := by rw [show its.toArray.toList = its from rfl, hi.numsOf]
  have ht : s.heap.IsTuple a its.toArray := ht
  rw [e] at ht hn
  rw [nums_intItems] at hn
  refine PySem.W.ktm_sumG (I.ok.hd hc) ht fun h' tk t' hk => ?_
  rw [preSum_eq, List.take_of_length_le (by simp), hn]
  exact ⟨.int _, H, I.kept hk, ⟨_, rfl⟩, q⟩
def dSumT : DOn := fun xs ω Q => ∃ ns : List Int, xs = [.tup (ns.map D.int)] ∧ Q (.int ns.sum) ω
theorem ok_sumT [Amb] {K : PySem.W.Frag} : CallD K dSumT (rSumT K) := by
  intro h xs ω R vs H Q ⟨ns, e, q⟩ w r k
  subst e
  obtain ⟨v, rfl, rv⟩ := r.one
  cases rv with
  | tup st ra =>
    have z := ra.ints
    subst z
    exact ⟨_, ns, rfl, st.sq, k.self w q (.int _)⟩
/-! ### the order by weight -/
theorem byW_perm (ws : List Int) : (byW ws).Perm (ups ws.length) := List.mergeSort_perm _ _
theorem byW_mem {ws : List Int} {p : Int} : p ∈ byW ws ↔ 0 ≤ p ∧ p < ws.length := (byW_perm ws).mem_iff.trans mem_ups
def wAt (ws : List Int) (p : Int) : Int := ws.getD p.toNat 0
theorem byW_le (ws : List Int) : (byW ws).Pairwise fun p q => wAt ws p < wAt ws q ∨ (wAt ws p = wAt ws q ∧ p ≤ q) := by
  have z := List.pairwise_mergeSort (le := fun p q : Int => decide (ws.getD p.toNat 0 < ws.getD q.toNat 0 ∨ (ws.getD p.toNat 0 = ws.getD q.toNat 0 ∧ p ≤ q)))
    (fun a b c h1 h2 => by simp only [decide_eq_true_eq] at *; omega) (fun a b => by simp only [Bool.or_eq_true, decide_eq_true_eq]; omega) (upN ws.length)
  exact z.imp fun h => by simpa [wAt] using h
theorem wAt_mem {ws : List Int} {p : Int} (h0 : 0 ≤ p) (h1 : p < ws.length) : wAt ws p ∈ ws := by
  unfold wAt
  rw [List.getD_eq_getElem?_getD, List.getElem?_eq_getElem (by omega)]
  exact List.getElem_mem _
theorem mem_wAt {ws : List Int} {w : Int} (h : w ∈ ws) : ∃ p : Int, 0 ≤ p ∧ p < ws.length ∧ wAt ws p = w := by
  obtain ⟨i, hi, e⟩ := List.mem_iff_getElem.mp h
  refine ⟨i, by omega, by omega, ?_⟩
  unfold wAt
  rw [Int.toNat_natCast, List.getD_eq_getElem?_getD, List.getElem?_eq_getElem hi, e]
  rfl
/-- by how much a person could be heavier -/
def roomI (e : Int) (ws : List Int) (p : Int) : Int := e + lite ws (wAt ws p) - wAt ws p
def stk (e : Int) (ws : List Int) : Option Int := (byW ws).find? fun p => decide (roomI e ws p < 0)
def rch (e : Int) (ws : List Int) : Int := match stk e ws with
  | none => ws.sum
  | some p => lite ws (wAt ws p)
def optD : Option Int → D
  | none => .non
  | some i => .int i
theorem stk_some {e : Int} {ws : List Int} {p : Int} (h : stk e ws = some p) : 0 ≤ p ∧ p < ws.length ∧ e + lite ws (wAt ws p) < wAt ws p ∧ ∀ q : Int, 0 ≤ q → q < ws.length → (wAt ws q < wAt ws p ∨ (wAt ws q = wAt ws p ∧ q < p)) → wAt ws q ≤ e + lite ws (wAt ws q) := by
  unfold stk at h
  obtain ⟨h1, as, bs, e1, h2⟩ := List.find?_eq_some_iff_append.mp h
  have hm : p ∈ byW ws := by rw [e1]; simp
  have hp := byW_mem.mp hm
  have h1 := of_decide_eq_true h1
  unfold roomI at h1
  refine ⟨hp.1, hp.2, by omega, fun q q0 q1 hq => ?_⟩
  have hs := byW_le ws
  rw [e1] at hs
  have hqm : q ∈ as ++ p :: bs := by rw [← e1]; exact byW_mem.mpr ⟨q0, q1⟩
  rcases List.mem_append.mp hqm with z | z
  · have := h2 q z
    simp only [Bool.not_eq_true', decide_eq_false_iff_not] at this
    unfold roomI at this
    omega
  · rcases List.mem_cons.mp z with y | y
    · subst y
      omega
    · have := (List.pairwise_cons.mp (List.pairwise_append.mp hs).2.1).1 q y
      omega
theorem stk_none {e : Int} {ws : List Int} : stk e ws = none ↔ Free e ws := by
  unfold stk
  rw [List.find?_eq_none]
  constructor
  · intro h w hw
    obtain ⟨p, p0, p1, rfl⟩ := mem_wAt hw
    have := h p (byW_mem.mpr ⟨p0, p1⟩)
    unfold roomI at this
    simp only [decide_eq_true_eq] at this
    omega
  · intro h p hp
    have := h _ (wAt_mem (byW_mem.mp hp).1 (byW_mem.mp hp).2)
    unfold roomI
    simp only [decide_eq_true_eq]
    omega
theorem rch_cases (e : Int) (ws : List Int) : (Free e ws ∧ stk e ws = none ∧ rch e ws = ws.sum) ∨ ∃ p, stk e ws = some p ∧ 0 ≤ p ∧ p < ws.length ∧ wAt ws p ∈ ws ∧ e + lite ws (wAt ws p) < wAt ws p ∧ rch e ws = lite ws (wAt ws p) ∧ ∀ v ∈ ws, v < wAt ws p → v ≤ e + lite ws v := by
  cases h : stk e ws with
  | none => exact .inl ⟨stk_none.mp h, rfl, by unfold rch; rw [h]⟩
  | some p =>
    obtain ⟨h0, h1, h2, h3⟩ := stk_some h
    refine .inr ⟨p, rfl, h0, h1, wAt_mem h0 h1, h2, by unfold rch; rw [h], fun v hv lt => ?_⟩
    obtain ⟨q, q0, q1, rfl⟩ := mem_wAt hv
    exact h3 q q0 q1 (.inl lt)
theorem lite_le_sum {ws : List Int} (h1 : ∀ w ∈ ws, 1 ≤ w) (w : Int) : lite ws w ≤ ws.sum := sum_filter fun v hv => by have := h1 v hv; omega
theorem lite_nonneg {ws : List Int} (h1 : ∀ w ∈ ws, 1 ≤ w) (w : Int) : 0 ≤ lite ws w := sum_nonneg fun v hv => by
  have := h1 v ((List.mem_filter.mp hv).1)
  omega
theorem lite_add : ∀ (l : List Int) (w : Int), w ∈ l → (∀ v ∈ l, 1 ≤ v) → lite l w + w ≤ l.sum
  | [], _, h, _ => nomatch h
  | x :: l, w, h, h1 => by
    have hl : ∀ v ∈ l, 1 ≤ v := fun v hv => h1 v (List.mem_cons_of_mem _ hv)
    have x1 := h1 x List.mem_cons_self
    have s := lite_le_sum hl w
    rw [List.sum_cons]
    unfold lite at *
    by_cases c : x < w
    · rw [List.filter_cons_of_pos (by simpa using c), List.sum_cons]
      have hm : w ∈ l := by
        rcases List.mem_cons.mp h with y | y
        · omega
        · exact y
      have := lite_add l w hm hl
      unfold lite at this
      omega
    · rw [List.filter_cons_of_neg (by simpa using c)]
      rcases List.mem_cons.mp h with y | y
      · omega
      · have := lite_add l w y hl
        unfold lite at this
        omega
theorem rch_nonneg {e : Int} {ws : List Int} (h1 : ∀ w ∈ ws, 1 ≤ w) : 0 ≤ rch e ws := by
  rcases rch_cases e ws with ⟨_, _, r⟩ | ⟨p, _, _, _, _, _, r, _⟩
  · rw [r]; exact sum_nonneg fun w hw => by have := h1 w hw; omega
  · rw [r]; exact lite_nonneg h1 _
/-- reach is all people exactly if nobody is stuck -/
theorem rch_sum {e : Int} {ws : List Int} (e1 : 0 ≤ e) (h1 : ∀ w ∈ ws, 1 ≤ w) : rch e ws = ws.sum ↔ Free e ws := by
  rcases rch_cases e ws with ⟨f, _, r⟩ | ⟨p, hs, _, _, hm, st, r, _⟩
  · exact ⟨fun _ => f, fun _ => r⟩
  · constructor
    · intro h
      have := lite_add ws _ hm h1
      have := h1 _ hm
      omega
    · intro f
      have := f _ hm
      omega
theorem rch_le {e : Int} {ws : List Int} (h1 : ∀ w ∈ ws, 1 ≤ w) : rch e ws ≤ ws.sum := by
  rcases rch_cases e ws with ⟨_, _, r⟩ | ⟨p, _, _, _, _, _, r, _⟩
  · omega
  · rw [r]; exact lite_le_sum h1 _
theorem mem_le_sum {ws : List Int} (h1 : ∀ w ∈ ws, 1 ≤ w) {w : Int} (h : w ∈ ws) : w ≤ ws.sum := by
  have := lite_add ws w h h1
  have := lite_nonneg h1 w
  omega
/-- someone is never down exactly if someone is stuck -/
theorem rch_all {e : Int} {ws : List Int} (e1 : 0 ≤ e) (h1 : ∀ w ∈ ws, 1 ≤ w) : (∀ w ∈ ws, w ≤ rch e ws) ↔ Free e ws := by
  rcases rch_cases e ws with ⟨f, _, r⟩ | ⟨p, hs, _, _, hm, st, r, _⟩
  · exact ⟨fun _ => f, fun _ w hw => by rw [r]; exact mem_le_sum h1 hw⟩
  · constructor
    · intro h
      have := h _ hm
      omega
    · intro f
      have := f _ hm
      omega
theorem at_w {ws : List Int} {p : Int} (h0 : 0 ≤ p) (h1 : p < ws.length) : L2.atI (ws.map D.int) p = some (.int (wAt ws p)) := by
  rw [atI_nat h0 (by rw [List.length_map]; exact h1), List.getElem_map]
  unfold wAt
  rw [List.getD_eq_getElem?_getD, List.getElem?_eq_getElem (show p.toNat < ws.length by omega)]
  rfl
theorem TabOn.go [Tbl] {x : Str} {a p : Addr} {ω ω' : Om} (h : TabOn x ω) (na : Tbl.P x ≠ a) (np : Tbl.P x ≠ p) (e : ∀ b, b ≠ a → b ≠ p → ω' b = ω b) : TabOn x ω' := (e _ na np).trans h
theorem TabOn.ext [Tbl] {x : Str} {ω ω' : Om} (h : TabOn x ω) (e : Ext ω ω') : TabOn x ω' := (e _ (by rw [show ω (Tbl.P x) = _ from h]; exact fun z => nomatch z)).trans h
theorem TabOn.ne [Tbl] {x : Str} {a : Addr} {ω : Om} {xs : List D} (h : TabOn x ω) (e : ω a = some (.lst xs)) : Tbl.P x ≠ a := fun z => by
  have y := h
  unfold TabOn at y
  rw [z, e] at y
  cases y
theorem TabOn.new [Tbl] {x : Str} {a : Addr} {ω : Om} (h : TabOn x ω) (e : ω a = none) : Tbl.P x ≠ a := fun z => by
  have y := h
  unfold TabOn at y
  rw [z, e] at y
  cases y
/-! ### no stones exactly if nobody is stuck -/
end DL

/-! Tuples of ints of any lengths, the first of them empty, put in order. -/
namespace TupO
open PySem PySem.Spec PyProof.Rows L2 NtL PySem.W
section
variable {prog : Program} {w : World} {A : Around} {E : Value → Shared → Prop} {s : Shared}
end
end TupO

/-! TT: dicts keyed by tuples of ints, owned; their keys in order. -/
namespace DL
open PySem PySem.Spec L2 PyProof.Rows PySem.W
section
variable {X : Cx} {pos : Pos}
/-- {k: v}, k a tuple of ints and texts; the new dict stands empty while both are made -/
def tDisp1T (tk tv : TE) : TE := fun σ H Q => ∀ p, H p = none → tk σ (upd H p (.dT [])) fun x H1 => tv σ H1 fun y H2 => H2 p = some (.dT []) ∧ ∃ (b : Addr) (k : List L2.Key), x = .ref b ∧ H2 b = some (.tup (k.map kV)) ∧ Q (.ref p) (upd H2 p (.dT [(k, y)]))
/-- sorted(d) of a dict whose keys are tuples of ints, the first of them empty -/
def rSortDT : List V → Hp → VK → Prop := fun vs H Q => ∃ (a : Addr) (kvs : List (List L2.Key × V)) (ks : List (List Int)), vs = [.ref a] ∧ Rd H a (.dT kvs) ∧ kvs.map (·.1) = ([] :: ks).map (·.map Sum.inl) ∧
  ∀ (L : List (List Int × Addr)) (p : Addr), (L.map (·.1)).Perm ([] :: ks) → (∀ z ∈ L, H z.2 = some (.tup (z.1.map V.int))) → H p = none → Q (.ref p) (upd H p (.lst (L.map fun z => V.ref z.2)))
end
section
variable {X : Cx} {K : PySem.W.Frag} {h : Fp} {H : Hp} {ω : Om} {a e value : Expr} {pos : Pos} {Ta Te Tv : TD}
abbrev kI (ns : List Int) : List L2.Key := ns.map Sum.inl
/-- {t: v}, owned -/
def dDicT (Ta Tb : TD) : TD := fun ρ ω Q => ∀ p, ω p = none → Ta ρ (oset ω p (.dT [])) fun x ω1 => Tb ρ ω1 fun y ω2 => ∃ ns : List Int, x = .tup (ns.map D.int) ∧ ω2 p = some (.dT []) ∧ Q (.raw (.ref p)) (oset ω2 p (.dT [(ns, y)]))
/-- t in d, t not in d -/
def dDInT (neg : Bool) (Ty Td : TD) : TD := fun ρ ω Q => Ty ρ ω fun y ω1 => Td ρ ω1 fun x ω2 => ∃ (p : Addr) (ns : List Int) (kds : List (List Int × D)), x = .raw (.ref p) ∧ y = .tup (ns.map D.int) ∧ ω2 p = some (.dT kds) ∧ Q (.bl (if neg then !decide (ns ∈ kds.map (·.1)) else decide (ns ∈ kds.map (·.1)))) ω2
/-- d[t] = v, t not yet in d -/
def dDPutT (Ta Te Tv : TD) : TSD := fun E ρ ω => Tv ρ ω fun v ω1 => Ta ρ ω1 fun x ω2 => Te ρ ω2 fun y ω3 => ∃ (p : Addr) (ns : List Int) (kds : List (List Int × D)), x = .raw (.ref p) ∧ y = .tup (ns.map D.int) ∧ ω3 p = some (.dT kds) ∧ ns ∉ kds.map (·.1) ∧ kds.length < sizeLine ∧ E.nx ρ (oset ω3 p (.dT (kds ++ [(ns, v)])))
/-- sorted(d), the first key being () -/
def dSortDT : DOn := fun xs ω Q => ∃ (p : Addr) (kds : List (List Int × D)) (d0 : D), xs = [.raw (.ref p)] ∧ ω p = some (.dT (([], d0) :: kds)) ∧ ∀ ks : List (List Int), ks.Perm (([] : List Int) :: kds.map (·.1)) → Q (.lst (ks.map fun ns => .tup (ns.map D.int))) ω
/-! ### steps -/
variable {ρ : Rho} {Q : DQ}
theorem st_dicT (h : ∀ p, ω p = none → Ta ρ (oset ω p (.dT [])) fun x ω1 => Te ρ ω1 fun y ω2 => ∃ ns : List Int, x = .tup (ns.map D.int) ∧ ω2 p = some (.dT []) ∧ Q (.raw (.ref p)) (oset ω2 p (.dT [(ns, y)]))) : dDicT Ta Te ρ ω Q := h
theorem st_dinT {neg : Bool} (h : Ta ρ ω fun y ω1 => Te ρ ω1 fun x ω2 => ∃ (p : Addr) (ns : List Int) (kds : List (List Int × D)), x = .raw (.ref p) ∧ y = .tup (ns.map D.int) ∧ ω2 p = some (.dT kds) ∧ Q (.bl (if neg then !decide (ns ∈ kds.map (·.1)) else decide (ns ∈ kds.map (·.1)))) ω2) : dDInT neg Ta Te ρ ω Q := h
theorem st_dputT {E : DEnds} (h : Tv ρ ω fun v ω1 => Ta ρ ω1 fun x ω2 => Te ρ ω2 fun y ω3 => ∃ (p : Addr) (ns : List Int) (kds : List (List Int × D)), x = .raw (.ref p) ∧ y = .tup (ns.map D.int) ∧ ω3 p = some (.dT kds) ∧ ns ∉ kds.map (·.1) ∧ kds.length < sizeLine ∧ E.nx ρ (oset ω3 p (.dT (kds ++ [(ns, v)])))) : dDPutT Ta Te Tv E ρ ω := h
end
section
variable {X : Cx} {K : PySem.W.Frag} {ω : Om} {Q : DQ}
/-- x in xs, x not in xs: plain data in a list of plain data -/
def dInD (neg : Bool) : DO2 := fun x y ω Q => ∃ ys, lstOf ω y = some ys ∧ eqD x (.lst ys) ∧ Q (.bl (if neg then !((pyAll ys).any fun z => PyData.eqv z x.py) else (pyAll ys).any fun z => PyData.eqv z x.py)) ω
theorem flat_tups2 : ∀ ks : List (List Int), flatAll (ks.map tupI) = true
  | [] => rfl
  | n :: ns => by
    have h := flat_ints n
    simp [flatAll, tupI, D.flat, h, flat_tups2 ns]
theorem lay_tups : ∀ ks : List (List Int), PyData.canLayAll0 (pyAll (ks.map tupI)) = true ∧ PyData.depthAll (pyAll (ks.map tupI)) ≤ 1
  | [] => ⟨rfl, by simp [pyAll, PyData.depthAll]⟩
  | n :: ns => by
    obtain ⟨h1, h2⟩ := lay_tups ns
    obtain ⟨h3, h4⟩ := lay_ints n
    refine ⟨by simp [pyAll, tupI, D.py, PyData.canLayAll0, PyData.canLay0, h1, h3], ?_⟩
    have e1 : (D.tup (n.map D.int)).py.depth = 1 := by simp [D.py, PyData.depth, h4]
    rw [List.map_cons, pyAll, PyData.depthAll]
    show max (D.tup (n.map D.int)).py.depth _ ≤ 1
    omega
theorem eqD_inTups (ns : List Int) (ks : List (List Int)) : eqD (tupI ns) (.lst (ks.map tupI)) := by
  refine ⟨by have h := flat_ints ns; simpa [tupI, D.flat] using h, by simpa [D.flat] using flat_tups2 ks, shaped_intsT ns, ?_⟩
  obtain ⟨h1, h2⟩ := lay_tups ks
  simp only [SeqAt.shaped, D.py, PyData.canLay0, PyData.depth, h1, Bool.true_and]
  exact decide_eq_true (by omega)
theorem any_tups (ns : List Int) : ∀ ks : List (List Int), ((pyAll (ks.map tupI)).any fun z => PyData.eqv z (tupI ns).py) = decide (ns ∈ ks)
  | [] => rfl
  | k :: ks => by
    rw [List.map_cons]
    show (PyData.eqv (D.tup (k.map D.int)).py (D.tup (ns.map D.int)).py || _) = _
    rw [eqv_tups, any_tups ns ks, Bool.eq_iff_iff]
    simp only [Bool.or_eq_true, decide_eq_true_eq, List.mem_cons]
    exact ⟨fun h => h.elim (fun e => .inl e.symm) .inr, fun h => h.elim (fun e => .inl e.symm) .inr⟩
theorem st_inTups {neg : Bool} {ns : List Int} {ks : List (List Int)} (h : Q (.bl (if neg then !decide (ns ∈ ks) else decide (ns ∈ ks))) ω) : dInD neg (.tup (ns.map D.int)) (.lst (ks.map tupI)) ω Q := by
  refine ⟨_, rfl, eqD_inTups ns ks, ?_⟩
  rw [show D.tup (ns.map D.int) = tupI ns from rfl, any_tups]
  exact h
end
end DL

/-! TS: what is reached level by level. -/
namespace DL
open PySem PySem.Spec L2 PyProof.Rows
theorem grp_sum {ws g : List Int} (h1 : ∀ w ∈ ws, 1 ≤ w) (hg : GrpI ws.length g) : wt ws g ≤ ws.sum := by
  have z := wt_lite (w := ws.sum + 1) h1 hg fun k hk => by
    have := hg.1 k hk
    have := mem_le_sum h1 (wAt_mem this.1 this.2)
    unfold wAt at this
    omega
  exact Int.le_trans z (lite_le_sum h1 _)
theorem rch_step {x : Int} {ws g g' : List Int} (h1 : ∀ w ∈ ws, 1 ≤ w) (x0 : 0 ≤ x) (hg' : GrpI ws.length g') (a : wt ws g ≤ rch x ws) (b : wt ws g' - wt ws g ≤ x) : wt ws g' ≤ rch x ws := by
  rcases rch_cases x ws with ⟨_, _, r⟩ | ⟨p, _, _, _, hm, st, r, _⟩
  · rw [r]; exact grp_sum h1 hg'
  · rw [r] at a ⊢
    exact (whole_out h1 hm st x0).1 g g' hg' a b
theorem lite_filter {ws : List Int} {v w : Int} (h : v ≤ w) : lite (ws.filter fun u => decide (u < w)) v = lite ws v := by
  unfold lite
  rw [List.filter_filter]
  congr 1
  refine List.filter_congr fun u _ => ?_
  by_cases c : u < v
  · rw [decide_eq_true c, decide_eq_true (show u < w by omega)]; rfl
  · rw [decide_eq_false c]; rfl
theorem rch_next {x : Int} {ws : List Int} (h1 : ∀ w ∈ ws, 1 ≤ w) (t : Int) (t0 : 0 ≤ t) (t1 : t < rch x ws) : ∃ ns, GrpI ws.length ns ∧ t < wt ws ns ∧ wt ws ns ≤ t + x := by
  rcases rch_cases x ws with ⟨f, _, r⟩ | ⟨p, _, _, _, hm, st, r, low⟩
  · exact next_grp h1 f t t0 (by omega)
  · have h1' : ∀ w ∈ ws.filter (fun u => decide (u < wAt ws p)), 1 ≤ w := fun w hw => h1 w (List.mem_filter.mp hw).1
    have f' : Free x (ws.filter fun u => decide (u < wAt ws p)) := fun v hv => by
      obtain ⟨v1, v2⟩ := List.mem_filter.mp hv
      have v2 := of_decide_eq_true v2
      rw [lite_filter (by omega)]
      exact low v v1 v2
    obtain ⟨s, s1, s2, s3⟩ := free_dense h1' f' t t0 (by rw [r] at t1; exact t1)
    obtain ⟨ns, n1, n2, n3⟩ := sub_grp (s1.trans List.filter_sublist) 0
    have e : wt ws ns = s.sum := by
      rw [← n3]
      unfold wt
      refine congrArg List.sum (List.map_congr_left fun k _ => ?_)
      rw [show (k - ((0 : Nat) : Int)).toNat = k.toNat by omega]
    exact ⟨ns, ⟨fun k hk => by have := n1 k hk; omega, n2⟩, by rw [e]; exact s2, by rw [e]; exact s3⟩
theorem wt_nil (ws : List Int) : wt ws [] = 0 := rfl
theorem wt_nonneg {ws ns : List Int} (h1 : ∀ w ∈ ws, 1 ≤ w) (hg : GrpI ws.length ns) : 0 ≤ wt ws ns := by
  have := wt_pos h1 hg.1
  omega
/-- of those with a weight below t the heaviest -/
theorem best {f : List Int → Int} {t : Int} : ∀ {S : List (List Int)}, (∃ g ∈ S, f g < t) → ∃ g ∈ S, f g < t ∧ ∀ g' ∈ S, f g' < t → f g' ≤ f g
  | [], ⟨_, h, _⟩ => nomatch h
  | a :: S, ⟨g, hg, hl⟩ => by
    by_cases c : ∃ g ∈ S, f g < t
    · obtain ⟨b, b1, b2, b3⟩ := best c
      by_cases d : f b < f a ∧ f a < t
      · refine ⟨a, List.mem_cons_self, d.2, fun g' hg' lt => ?_⟩
        rcases List.mem_cons.mp hg' with z | z
        · rw [z]; exact Int.le_refl _
        · have := b3 g' z lt; omega
      · refine ⟨b, List.mem_cons_of_mem _ b1, b2, fun g' hg' lt => ?_⟩
        rcases List.mem_cons.mp hg' with z | z
        · rw [z] at lt ⊢; omega
        · exact b3 g' z lt
    · have ea : g = a := by
        rcases List.mem_cons.mp hg with z | z
        · exact z
        · exact (c ⟨g, z, hl⟩).elim
      subst ea
      refine ⟨g, List.mem_cons_self, hl, fun g' hg' lt => ?_⟩
      rcases List.mem_cons.mp hg' with z | z
      · rw [z]; exact Int.le_refl _
      · exact (c ⟨g', z, lt⟩).elim
/-- what holds of the groups that are met, level by level -/
structure Met (x : Int) (ws : List Int) (S : List (List Int)) (lv : List Int) : Prop where
  grp : ∀ g ∈ S, GrpI ws.length g ∧ wt ws g ≤ rch x ws
  nil : [] ∈ S
  nd : S.Nodup
  lev : ∀ v ∈ lv, ∃ g ∈ S, wt ws g = v
  cl : ∀ g ∈ S, wt ws g ∈ lv ∨ ∀ g', GrpI ws.length g' → 1 ≤ wt ws g' - wt ws g → wt ws g' - wt ws g ≤ x → g' ∈ S
theorem Met.start {x : Int} {ws : List Int} (h1 : ∀ w ∈ ws, 1 ≤ w) : Met x ws [[]] [0] where
  grp := fun g hg => by
    rw [List.mem_singleton] at hg
    subst hg
    exact ⟨⟨fun _ h => (nomatch h), List.Pairwise.nil⟩, by rw [wt_nil]; exact rch_nonneg h1⟩
  nil := List.mem_singleton.mpr rfl
  nd := List.nodup_cons.mpr ⟨List.not_mem_nil, List.nodup_nil⟩
  lev := fun v hv => by
    rw [List.mem_singleton] at hv
    exact ⟨[], List.mem_singleton.mpr rfl, by rw [hv]; rfl⟩
  cl := fun g hg => by
    rw [List.mem_singleton] at hg
    subst hg
    exact .inl (List.mem_singleton.mpr rfl)
theorem Met.all {x : Int} {ws : List Int} {S : List (List Int)} (m : Met x ws S []) (h1 : ∀ w ∈ ws, 1 ≤ w) (x1 : 1 ≤ x) (g : List Int) : g ∈ S ↔ GrpI ws.length g ∧ wt ws g ≤ rch x ws := by
  refine ⟨m.grp g, fun ⟨hg, hl⟩ => ?_⟩
  have cl : ∀ g ∈ S, ∀ g', GrpI ws.length g' → 1 ≤ wt ws g' - wt ws g → wt ws g' - wt ws g ≤ x → g' ∈ S := fun g hg => (m.cl g hg).elim (fun z => nomatch z) id
  by_cases c : wt ws g ≤ 0
  · have p := wt_pos h1 hg.1
    have e : g = [] := List.length_eq_zero_iff.mp (by omega)
    rw [e]; exact m.nil
  · obtain ⟨b, b1, b2, b3⟩ := best (f := wt ws) (t := wt ws g) ⟨[], m.nil, by rw [wt_nil]; omega⟩
    have b0 := wt_nonneg h1 (m.grp b b1).1
    by_cases d : wt ws g ≤ wt ws b + x
    · exact cl b b1 g hg (by omega) (by omega)
    · obtain ⟨ns, n1, n2, n3⟩ := rch_next (x := x) h1 (wt ws b) b0 (by omega)
      have := b3 ns (cl b b1 ns n1 (by omega) (by omega)) (by omega)
      omega
/-- in the midst of a level: the first i groups have been seen -/
structure MetI (x : Int) (ws : List Int) (S : List (List Int)) (lv : List Int) (i : Nat) (A : List (List Int)) : Prop where
  nd : (S ++ A).Nodup
  new : ∀ g ∈ A, GrpI ws.length g ∧ ∃ v ∈ lv, 1 ≤ wt ws g - v ∧ wt ws g - v ≤ x
  got : ∀ j g, j < i → (allG ws.length)[j]? = some g → (∃ v ∈ lv, 1 ≤ wt ws g - v ∧ wt ws g - v ≤ x) → g ∈ S ++ A
theorem MetI.next {x : Int} {ws : List Int} {S A : List (List Int)} {lv : List Int} (m : Met x ws S lv) (h1 : ∀ w ∈ ws, 1 ≤ w) (x1 : 1 ≤ x) (h : MetI x ws S lv (allG ws.length).length A) : Met x ws (S ++ A) (A.map (wt ws)) where
  grp := fun g hg => by
    rcases List.mem_append.mp hg with z | z
    · exact m.grp g z
    · obtain ⟨a1, v, hv, a2, a3⟩ := h.new g z
      obtain ⟨g0, b1, b2⟩ := m.lev v hv
      exact ⟨a1, rch_step h1 (by omega) a1 (m.grp g0 b1).2 (by omega)⟩
  nil := List.mem_append_left _ m.nil
  nd := h.nd
  lev := fun v hv => by
    obtain ⟨g, hg, e⟩ := List.mem_map.mp hv
    exact ⟨g, List.mem_append_right _ hg, e⟩
  cl := fun g hg => by
    rcases List.mem_append.mp hg with z | z
    · rcases m.cl g z with c | c
      · refine .inr fun g' hg' d1 d2 => ?_
        obtain ⟨j, hj, ej⟩ := List.mem_iff_getElem.mp (grp_allG hg')
        exact h.got j g' hj (by rw [List.getElem?_eq_getElem hj, ej]) ⟨_, c, d1, d2⟩
      · exact .inr fun g' hg' d1 d2 => List.mem_append_left _ (c g' hg' d1 d2)
    · exact .inl (List.mem_map.mpr ⟨g, z, rfl⟩)
theorem MetI.skip {x : Int} {ws : List Int} {S A : List (List Int)} {lv : List Int} {i : Nat} {g : List Int} (h : MetI x ws S lv i A) (e : (allG ws.length)[i]? = some g) (hs : (∃ v ∈ lv, 1 ≤ wt ws g - v ∧ wt ws g - v ≤ x) → g ∈ S ++ A) : MetI x ws S lv (i + 1) A where
  nd := h.nd
  new := h.new
  got := fun j g' hj ej hv => by
    by_cases c : j < i
    · exact h.got j g' c ej hv
    · have : j = i := by omega
      subst this
      rw [e] at ej
      cases ej
      exact hs hv
theorem MetI.take {x : Int} {ws : List Int} {S A : List (List Int)} {lv : List Int} {i : Nat} {g : List Int} (h : MetI x ws S lv i A) (e : (allG ws.length)[i]? = some g) (hn : g ∉ S ++ A) (hv : ∃ v ∈ lv, 1 ≤ wt ws g - v ∧ wt ws g - v ≤ x) : MetI x ws S lv (i + 1) (A ++ [g]) where
  nd := by
    rw [← List.append_assoc]
    refine List.nodup_append.mpr ⟨h.nd, List.nodup_cons.mpr ⟨List.not_mem_nil, List.nodup_nil⟩, fun a ha b hb => ?_⟩
    rw [List.mem_singleton] at hb
    subst hb
    exact fun e => hn (e ▸ ha)
  new := fun g' hg' => by
    rcases List.mem_append.mp hg' with z | z
    · exact h.new g' z
    · rw [List.mem_singleton] at z
      subst z
      exact ⟨allG_grp (List.mem_of_getElem? e), hv⟩
  got := fun j g' hj ej hv' => by
    rw [← List.append_assoc]
    by_cases c : j < i
    · exact List.mem_append_left _ (h.got j g' c ej hv')
    · have : j = i := by omega
      subst this
      rw [e] at ej
      cases ej
      exact List.mem_append_right _ (List.mem_singleton.mpr rfl)
theorem MetI.len {x : Int} {ws : List Int} {S A : List (List Int)} {lv : List Int} {i : Nat} (h : MetI x ws S lv i A) (m : Met x ws S lv) : (S ++ A).length ≤ 2 ^ ws.length := by
  have sub : ∀ g ∈ S ++ A, g ∈ allG ws.length := fun g hg => by
    rcases List.mem_append.mp hg with z | z
    · exact grp_allG (m.grp g z).1
    · exact grp_allG (h.new g z).1
  have := List.Nodup.length_le_of_subset h.nd sub
  rw [allG_len] at this
  exact this
end DL

/-! TP: sorted of a list of pairs of ints. -/
namespace DL
open PySem PySem.Spec L2 PyProof.Rows
def pr2D (p : Int × Int) : D := .tup [.int p.1, .int p.2]
section
variable {X : Cx} {K : PySem.W.Frag} {h : Fp} {H : Hp} {ω : Om}
def pairAt (H : Hp) : V → Int × Int
  | .ref t => match H t with
    | some (.tup [.int a, .int b]) => (a, b)
    | _ => (0, 0)
  | _ => (0, 0)
/-- a list of pairs, in the abstract heap -/
theorem pairs_at {f : Fp} : ∀ {ps : List (Int × Int)} {vs : List V}, RpAll K f H (ps.map pr2D) vs → (∀ v ∈ vs, ∃ t, v = V.ref t ∧ f t ∧ H t = some (.tup [.int (pairAt H v).1, .int (pairAt H v).2])) ∧ vs.map (pairAt H) = ps
  | [], _, .nil => ⟨fun _ h => (nomatch h), rfl⟩
  | p :: ps, _, .cons (v := v) (vs := vs) r t => by
    obtain ⟨h1, h2⟩ := pairs_at t
    cases r with
    | @tup b us _ st ra =>
      cases ra with
      | cons r1 r2 =>
        cases r2 with
        | cons r2 r3 =>
          cases r3
          cases r1
          cases r2
          have e : pairAt H (.ref b) = p := by
            show (match H b with | some (.tup [.int a, .int b]) => (a, b) | _ => (0, 0)) = p
            rw [st.2]
          refine ⟨fun v hv => ?_, by rw [List.map_cons, e, h2]⟩
          rcases List.mem_cons.mp hv with z | z
          · subst z
            exact ⟨b, rfl, st.1, by rw [e]; exact st.2⟩
          · exact h1 v z
def dSortP : DOn := fun xs ω Q => ∃ (x : D) (ps : List (Int × Int)), xs = [x] ∧ lstOf ω x = some (ps.map pr2D) ∧ ∀ ps' : List (Int × Int), ps'.Perm ps → ps'.Pairwise (fun a b => SrtO.lexB b a = false) → Q (.lst (ps'.map pr2D)) ω
/-- the stuck people, by weight, of equal ones the smaller number first -/
def stuckL (e : Int) (ws : List Int) : List Int := (LK.byW ws).filter fun p => decide (roomI e ws p < 0)
end
end DL

/-! TD: dicts keyed by numbers, owned: displays of one entry, list(d.items()), setdefault, sorted; what is never reached; lists that are extended. -/
namespace DL
open PySem PySem.Spec L2 PyProof.Rows PySem.W LiI
section
variable {X : Cx} {K : PySem.W.Frag} {h : Fp} {H H' : Hp} {ω : Om} {a e value : Expr} {pos : Pos} {Ta Te Tv : TD}
theorem Wd.grow [Amb] (w : Wd K h H ω) (k : ∀ b o, H b = some o → H' b = some o) : Fr H ω H' ω ∧ Wd K h H' ω := by
  have f : Fr H ω H' ω := fun b o x y => ⟨k b o y, x⟩
  refine ⟨f, ⟨fun a c x => ?_, fun b x => ?_, fun b vs n x => ?_, Amb.mono w.amb f⟩⟩
  · have ok := w.cell a c x
    have e : H' a = H a := by
      cases z : H a with
      | none => exact absurd z ok.has
      | some o => exact k a o z
    exact ok.keep e f.kp
  · cases z : H b with
    | none => exact w.open_ b z
    | some o => have := k b o z; rw [x] at this; cases this
  · cases z : H b with
    | none => exact w.open_ b z
    | some o =>
      have := k b o z
      rw [x] at this
      cases this
      exact w.tup_ b vs n z
/-- a statement that is never reached -/
def dNever : TSD := fun _ _ _ => False
theorem ds_never [Amb] {st : Stmt} : DS X st dNever := PS.weak ps_never fun _ _ _ ⟨_, _, _, _, _, _, t, _⟩ => t
def keyD : L2.Key → D
  | .inl i => .int i
  | .inr s => .str s
/-- {k: v}, k a number, owned -/
def dDicK (Ta Tb : TD) : TD := fun ρ ω Q => ∀ p, ω p = none → Ta ρ (oset ω p (.dK [])) fun x ω1 => Tb ρ ω1 fun y ω2 => ∃ i : Int, x = .int i ∧ ω2 p = some (.dK []) ∧ Q (.raw (.ref p)) (oset ω2 p (.dK [(.inl i, y)]))
theorem de_dicK [Amb] (ha : DE X a Ta) (he : DE X e Te) : DE X (.Dict [some a] [e] pos) (dDicK Ta Te) := by
  refine PE.weak (pe_disp (pps_cons ha he pps_nil) rfl rfl (fun z => nomatch z) (by simp)) fun σ H Q ⟨h, ρ, ω, R, sl, w, t, k⟩ => ?_
  intro p hp
  have f0 : Fr H ω (upd H p (.dK [])) (oset ω p (.dK [])) := Fr.own hp
  have w0 : Wd X.K h (upd H p (.dK [])) (oset ω p (.dK [])) := w.own hp fun H' f' kp hp => ⟨[], hp, .nil⟩
  refine ⟨h, ρ, _, _, sl.keep f0.kp, w0, t p (w.fresh hp), fun x ω1 vx H1 t1 f1 w1 rx => ?_⟩
  refine ⟨h, ρ, ω1, _, (sl.keep f0.kp).keep f1.kp, w1, t1, fun y ω2 vy H2 t2 f2 w2 ry => ?_⟩
  obtain ⟨i, rfl, e2, q⟩ := t2
  obtain ⟨kvs, hk, rt⟩ := w2.cell p _ e2
  cases rt
  cases rx
  refine ⟨hk, [(.inl i, vy)], rfl, by simp, ?_⟩
  exact k _ _ _ _ q (f0.trans (f1.trans (f2.trans (Fr.put e2)))) (w2.put e2 fun H' f' kp hp' => ⟨[(.inl i, vy)], hp', .cons (ry.keep kp) .nil⟩) (.raw _)
/-- list(d.items()) -/
def dItemsL (Ta : TD) : TD := fun ρ ω Q => Ta ρ ω fun x ω1 => ∃ (p : Addr) (kds : List (L2.Key × D)), x = .raw (.ref p) ∧ ω1 p = some (.dK kds) ∧ Q (.lst (kds.map fun q => .tup [keyD q.1, q.2])) ω1
theorem rp_key {f : Fp} : ∀ k : L2.Key, Rp K f H (keyD k) (kV k)
  | .inl _ => .int _
  | .inr _ => .str _
theorem items_rp {f f' : Fp} (kp : Kp H f H' f') : ∀ {kds : List (L2.Key × D)} {kvs : List (L2.Key × V)} {ts : List Addr}, RpKv K f H kds kvs → (∀ t ∈ ts, f' t) → Paired (fun (t : Addr) (q : L2.Key × V) => H' t = some (.tup [kV q.1, q.2])) ts kvs → RpAll K f' H' (kds.map fun q => .tup [keyD q.1, q.2]) (ts.map V.ref)
  | [], _, _, r, _, p => by cases r; cases p; exact .nil
  | (k, d) :: kds, _, _, r, ht, p => by
    cases r with
    | cons r t =>
      cases p with
      | cons e p => exact .cons (.tup ⟨ht _ List.mem_cons_self, e⟩ (.cons (rp_key _) (.cons (r.keep kp) .nil))) (items_rp kp t (fun t hm => ht t (List.mem_cons_of_mem _ hm)) p)
theorem de_itemsL [Amb] {p apos cpos : Pos} (hc : X.calm = true) (hg : Gl X "list") (hm : X.mg "list" = none) (ha : DE X a Ta) (hbase : attributeBase a "items" X.env (eval a X.env) = eval a X.env := by rfl) (hline : (apos.endLine == cpos.line) = true := by rfl)
    (hs : starEach [.Call (.Attribute a "items" apos) [] [] cpos] X.env = (false, eval (.Call (.Attribute a "items" apos) [] [] cpos) X.env) :: starEach [] X.env := by rfl) :
    DE X (.Call (.Name "list" p) [.Call (.Attribute a "items" apos) [] [] cpos] [] pos) (dItemsL Ta) := by
  refine PE.weak (pe_listItems hc ha hg hm (by rfl) hbase hline hs) fun σ H Q ⟨h, ρ, ω, R, sl, w, t, k⟩ => ?_
  refine ⟨h, ρ, ω, _, sl, w, t, fun x ω1 vx H1 t1 f1 w1 rx => ?_⟩
  obtain ⟨d, kds, rfl, hd, q⟩ := t1
  cases rx
  obtain ⟨kvs, hk, rk⟩ := w1.cell d _ hd
  refine ⟨d, kvs, rfl, hk, fun H' l ts up hl hts nl hlst prd => ?_⟩
  obtain ⟨f2, w2⟩ := w1.grow up
  exact k _ _ _ _ q (f1.trans f2) w2 (.lst (.inl ⟨w1.fre_new hl, .inl hlst⟩) (items_rp f2.kp rk (fun t ht => w1.fre_new (hts t ht)) prd))
/-- d.setdefault(i, v), d owned, keyed by numbers -/
def dSetd (Ta Te Tv : TD) : TD := fun ρ ω Q => Ta ρ ω fun x ω1 => ∃ p, x = .raw (.ref p) ∧ (∃ kds, ω1 p = some (.dK kds)) ∧ Te ρ ω1 fun y ω2 => Tv ρ ω2 fun z ω3 => ∃ (i : Int) (kds : List (L2.Key × D)), y = .int i ∧ ω3 p = some (.dK kds) ∧ kds.length < sizeLine ∧
  (∀ d, lookI kds i = some d → Q d ω3) ∧ (lookI kds i = none → Q z (oset ω3 p (.dK (kds ++ [(.inl i, z)]))))
theorem de_setd [Amb] {f : Expr} {apos cpos : Pos} (ha : DE X a Ta) (he : DE X e Te) (hf : DE X f Tv) (m1 : attributeBase a "setdefault" X.env (eval a X.env) = eval a X.env := by rfl)
    (m2 : ((backTo cpos (starEach [e, f] X.env)).all (fun x => !x.1) && (backToKw cpos (keywordEach [] X.env)).all (fun x => x.1.isSome) && decide (([e, f] : List Expr).length + ([] : List Keyword).length + (if ([] : List Keyword).isEmpty then 0 else 1) < 30)) = true := by rfl)
    (m3 : (apos.endLine == cpos.line) = true := by rfl) (m4 : backTo cpos (starEach [e, f] X.env) = [(false, eval e X.env), (false, eval f X.env)] := by rfl) :
    DE X (.Call (.Attribute a "setdefault" apos) [e, f] [] cpos) (dSetd Ta Te Tv) := by
  refine PE.weak (pe_dsetd ha he hf ⟨m1, m2, m3, m4⟩) fun σ H Q ⟨h, ρ, ω, R, sl, w, t, k⟩ => ?_
  refine ⟨h, ρ, ω, _, sl, w, t, fun x ω1 vx H1 t1 f1 w1 rx => ?_⟩
  obtain ⟨p, rfl, ⟨kds0, hc0⟩, t1⟩ := t1
  cases rx
  obtain ⟨kvs0, hk0, _⟩ := w1.cell p _ hc0
  refine ⟨p, rfl, .inl ⟨_, .inl hk0⟩, ?_⟩
  refine ⟨h, ρ, ω1, _, sl.keep f1.kp, w1, t1, fun y ω2 vy H2 t2 f2 w2 ry => ?_⟩
  refine ⟨h, ρ, ω2, _, (sl.keep f1.kp).keep f2.kp, w2, t2, fun z ω3 vz H3 t3 f3 w3 rz => ?_⟩
  obtain ⟨i, kds, rfl, hc, hl, q1, q2⟩ := t3
  cases ry
  obtain ⟨kvs, hw, rk⟩ := w3.cell p _ hc
  have fa := f1.trans (f2.trans f3)
  refine ⟨kvs, .inl i, hw, rfl, by rw [← rpKv_len rk]; exact hl, fun v hv => ?_, fun hn => ?_⟩
  · cases lk : lookI kds i with
    | none => rw [(look_rel rk).2 lk] at hv; cases hv
    | some d =>
      obtain ⟨v', e', rd⟩ := (look_rel rk).1 d lk
      rw [hv] at e'
      cases e'
      exact k _ _ _ _ (q1 d lk) fa w3 rd
  · have ln : lookI kds i = none := by
      cases lk : lookI kds i with
      | none => rfl
      | some d => obtain ⟨v', e', _⟩ := (look_rel rk).1 d lk; rw [hn] at e'; cases e'
    rw [putK_new _ hn]
    exact k _ _ _ _ (q2 ln) (fa.trans (Fr.put hc)) (w3.put hc fun H' f' kp hp => ⟨_, hp, (rpKv_snoc rk rz).keep kp⟩) (rz.keep (Fr.put hc).kp)
/-- sorted(d), d keyed by numbers -/
def rSortDK : List V → Hp → VK → Prop := fun vs H Q => ∃ (a : Addr) (kvs : List (L2.Key × V)) (ks : List Int), vs = [.ref a] ∧ Rd H a (.dK kvs) ∧ kvs.map (·.1) = ks.map Sum.inl ∧
  ∀ (ys : List Int) (p : Addr), ys.Perm ks → ys.Pairwise (· ≤ ·) → H p = none → Q (.ref p) (upd H p (.lst (ys.map V.int)))
theorem cr_sortDK (hc : X.calm = true) : CallR X (.builtin "sorted") rSortDK := by
  intro pins s σ H vs us Q I r h
  obtain ⟨a, kvs, ks, rfl, hd, ek, q⟩ := h
  rw [Vals.ref1 r]
  obtain ⟨sz, lo, xs, rel, dd⟩ := dk_rd I.hok hd
  obtain ⟨ep, hat⟩ := dd.dictAt
  have keys : xs.map (·.1) = ks.map Sum.inl := rel.keys.symm.trans ek
  have ll : xs.length = ks.length := by simpa using congrArg List.length keys
  have lk : kvs.length = ks.length := by simpa using congrArg List.length ek
  have zl : ks.length ≤ sizeLine := by omega
  refine Calls.call_function_entry kind_sorted plain_sorted entry_sorted (args_sorted1 _) ?_
  unfold Builtin.«sorted»
  refine wpAny_bind (m := checkCount "sorted" 1 1 _) (wpAny_pure ?_)
  refine wpAny_bind (kdu_collect (A := X.A.in1) (kdl_dict (knd := mixKind X.prog X.w) (kvs := xs) (ep := ep) lo) (I.ok.hd hc) hat (by omega) fun h' tk acc kp hacc => ?_)
  have la : acc.toList.length = ks.length := by rw [Array.length_toList, hacc.1, ll]
  have isI : IntsAre acc.toList ks := ints_each la fun j v e => by
    obtain ⟨k, x, e1, e2⟩ := hacc.2 j v (by rw [← Array.getElem?_toList]; exact e)
    have e3 : (ks.map Sum.inl)[j]? = some k := by rw [← keys, List.getElem?_map, e1]; rfl
    rw [List.getElem?_map] at e3
    cases e4 : ks[j]? with
    | none => rw [e4] at e3; cases e3
    | some y =>
      rw [e4] at e3
      cases e3
      rcases keyIs_shape (show keyIs (Sum.inl y) v = true from e2) with ⟨i, t, c1, c2⟩ | ⟨z, t, c1, c2⟩
      · cases c1
        exact ⟨y, t, rfl, c2⟩
      · cases c1
  have I1 : Inv X pins σ H { s with heap := h', toks := tk } := I.kept kp
  refine wpAny_bind (wpAny_newList ?_ (by omega))
  show wpAny _ _ _ _ _ { s with heap := h'.push (seqObj "list" acc.toList.toArray 0), toks := tk }
  have gl : (h'.push (seqObj "list" acc.toList.toArray 0)).get? h'.objs.size = some (seqObj "list" acc.toList.toArray 0) := Heap.get?_push_size _ rfl
  refine wpAny_bind (wpAny_holding (wpAny_call_entry slot_list_sort ⟨_, gl, rfl⟩ entry_list_sort (SrtO.list_sort_ord SrtO.swo_int gl (by omega) (fun h2 => SrtO.ints_sortable isI h2) fun out hs hb => ⟨_, rfl, ?_⟩) (args_list_sort _)))
  obtain ⟨g1, g2, g3⟩ := SrtO.ints_out isI hs hb
  obtain ⟨n2, at2⟩ := sortedHeap_at (out := out.toArray) gl
  have nn : H h'.objs.size = none := I1.hok.fresh (Nat.le_refl _)
  refine wpAny_pure ⟨_, rfl, .ref h'.objs.size, upd H h'.objs.size (.lst ((out.map SrtO.iv).map V.int)), ?_, rfl, q _ _ g2 g3 nn⟩
  exact I1.laid (t' := tk) (h' := sortedHeap (h'.push (seqObj "list" acc.toList.toArray 0)) h'.objs.size acc.toList out.toArray) (fun b ob e => by
    have lt := Heap.lt_size e
    rw [sortedHeap_old (Nat.ne_of_lt lt) (by rw [Heap.size_push]; exact Nat.lt_succ_of_lt lt)]
    exact Heap.get?_push_of_some _ e) (Nat.le_refl _) ⟨by rw [List.length_map, g2.length_eq]; exact zl, out, n2, vals_of_ints g1, at2⟩
def dSortDK : DOn := fun xs ω Q => ∃ (p : Addr) (kds : List (L2.Key × D)) (ks : List Int), xs = [.raw (.ref p)] ∧ ω p = some (.dK kds) ∧ kds.map (·.1) = ks.map Sum.inl ∧ ∀ ys : List Int, ys.Perm ks → ys.Pairwise (· ≤ ·) → Q (.lst (ys.map D.int)) ω
theorem rpKv_keys {f : Fp} : ∀ {kds : List (L2.Key × D)} {kvs : List (L2.Key × V)}, RpKv K f H kds kvs → kvs.map (·.1) = kds.map (·.1)
  | [], _, r => by cases r; rfl
  | _ :: _, _, r => by cases r with | cons _ t => rw [List.map_cons, List.map_cons, rpKv_keys t]
theorem ok_sortDK [Amb] : CallD K dSortDK rSortDK := by
  intro h xs ω R vs H Q ⟨p, kds, ks, e, t, ek, q⟩ w r k
  subst e
  obtain ⟨v, rfl, rv⟩ := r.one
  cases rv
  obtain ⟨kvs, hk, rk⟩ := w.cell p _ t
  refine ⟨p, kvs, ks, rfl, .inl hk, (rpKv_keys rk).trans ek, fun ys l pm hs nl => ?_⟩
  exact k _ ω _ _ (q ys pm hs) (Fr.new nl) (w.new nl) (.lst (.inl ⟨w.fre_new nl, .inl upd_same⟩) (RpAll.ofInts _))
/-- xs.extend(ys), xs owned -/
def dExt (Ta Te : TD) : TD := fun ρ ω Q => Ta ρ ω fun x ω1 => ∃ p, x = .raw (.ref p) ∧ (∃ xs, ω1 p = some (.lst xs)) ∧ Te ρ ω1 fun y ω2 => ∃ xs ys, ω2 p = some (.lst xs) ∧ y = .lst ys ∧ xs.length + ys.length ≤ sizeLine ∧ Q .non (oset ω2 p (.lst (xs ++ ys)))
/-! ### steps -/
variable {ρ : Rho} {Q : DQ}
theorem st_dicK (h : ∀ p, ω p = none → Ta ρ (oset ω p (.dK [])) fun x ω1 => Te ρ ω1 fun y ω2 => ∃ i : Int, x = .int i ∧ ω2 p = some (.dK []) ∧ Q (.raw (.ref p)) (oset ω2 p (.dK [(.inl i, y)]))) : dDicK Ta Te ρ ω Q := h
theorem st_itemsD (h : Ta ρ ω fun x ω1 => ∃ (p : Addr) (kds : List (L2.Key × D)), x = .raw (.ref p) ∧ ω1 p = some (.dK kds) ∧ Q (.lst (kds.map fun q => .tup [keyD q.1, q.2])) ω1) : dItemsL Ta ρ ω Q := h
theorem st_setd (h : Ta ρ ω fun x ω1 => ∃ p, x = .raw (.ref p) ∧ (∃ kds, ω1 p = some (.dK kds)) ∧ Te ρ ω1 fun y ω2 => Tv ρ ω2 fun z ω3 => ∃ (i : Int) (kds : List (L2.Key × D)), y = .int i ∧ ω3 p = some (.dK kds) ∧ kds.length < sizeLine ∧
  (∀ d, lookI kds i = some d → Q d ω3) ∧ (lookI kds i = none → Q z (oset ω3 p (.dK (kds ++ [(.inl i, z)]))))) : dSetd Ta Te Tv ρ ω Q := h
end
end DL

/-! TV: groups, moves and plans, as the program judges and makes them. -/
namespace DL
open PySem PySem.Spec L2
/-- a number from lo to hi -/
def numB : D → Int → Int → Bool
  | .int i, lo, hi => decide (lo ≤ i ∧ i ≤ hi)
  | _, _, _ => false
/-- numbers that grow, from the least on, below n -/
def upOk (n : Int) : Int → List D → Bool
  | _, [] => true
  | least, .int k :: xs => decide (least ≤ k ∧ k ≤ n - 1) && upOk n (k + 1) xs
  | _, _ :: _ => false
def isGrp (n : Int) : D → Bool
  | .tup xs => upOk n 0 xs
  | _ => false
theorem okAll_at : ∀ {xs : List D} {i : Nat} {x : D}, okAll xs = true → xs[i]? = some x → x.ok = true
  | [], _, _, _, e => by simp at e
  | y :: ys, 0, x, h, e => by simp at e; subst e; exact (okc h).1
  | y :: ys, i + 1, x, h, e => okAll_at (okc h).2 (by simpa using e)
theorem upOk_step {n least : Int} {xs : List D} {x : D} (h : numB x least (n - 1) = true) : ∃ k, x = .int k ∧ upOk n least (x :: xs) = upOk n (k + 1) xs := by
  cases x with
  | int k =>
    refine ⟨k, rfl, ?_⟩
    have e : decide (least ≤ k ∧ k ≤ n - 1) = true := h
    simp only [upOk, e, Bool.true_and]
  | _ => simp [numB] at h
theorem upOk_stop {n least : Int} {xs : List D} {x : D} (h : numB x least (n - 1) = false) : upOk n least (x :: xs) = false := by
  cases x with
  | int k =>
    have e : decide (least ≤ k ∧ k ≤ n - 1) = false := h
    simp only [upOk, e, Bool.false_and]
  | _ => rfl
def inG (gs : List Int) (d : D) : Bool := match d with
  | .int k => decide (k ∈ gs)
  | _ => false
theorem filt_ints (t : D → Bool) : ∀ ns : List Int, ((ns.map D.int).filter t).map id = (ns.filter fun n => t (.int n)).map D.int
  | [] => rfl
  | n :: ns => by
    have ih := filt_ints t ns
    rw [List.map_id] at ih ⊢
    rw [List.map_cons, List.filter_cons, List.filter_cons]
    cases t (.int n) with
    | true => rw [if_pos rfl, if_pos rfl, ih, List.map_cons]
    | false => rw [if_neg (by decide), if_neg (by decide), ih]
theorem filt_map (t : D → Bool) (t' : Int → Bool) (h : ∀ n, t (.int n) = t' n) : ∀ ns : List Int, ((ns.map D.int).filter t).map id = (ns.filter t').map D.int
  | [] => rfl
  | n :: ns => by
    have ih := filt_map t t' h ns
    rw [List.map_id] at ih ⊢
    rw [List.map_cons, List.filter_cons, List.filter_cons, h n, ih]
    cases t' n <;> rfl
theorem upOk_ints {n : Int} : ∀ (ns : List Int) (least : Int), (∀ k ∈ ns, k ≤ n - 1) → (upOk n least (ns.map D.int) = true ↔ (∀ k ∈ ns, least ≤ k) ∧ ns.Pairwise (· < ·))
  | [], least, _ => by simp [upOk]
  | k :: ns, least, h => by
    have ih := upOk_ints ns (k + 1) fun j hj => h j (List.mem_cons_of_mem _ hj)
    have hk := h k (by simp)
    rw [List.map_cons, List.pairwise_cons]
    simp only [upOk, Bool.and_eq_true, decide_eq_true_eq, ih]
    constructor
    · rintro ⟨⟨h1, _⟩, h2, h3⟩
      refine ⟨fun j hj => ?_, fun j hj => ?_, h3⟩
      · rcases List.mem_cons.mp hj with z | z
        · omega
        · have := h2 j z
          omega
      · have := h2 j hj
        omega
    · rintro ⟨h1, h2, h3⟩
      refine ⟨⟨h1 k (by simp), hk⟩, fun j hj => ?_, h3⟩
      have := h2 j hj
      omega
theorem upOk_get {n : Int} : ∀ (xs : List D) (least : Int), upOk n least xs = true → ∃ ns : List Int, xs = ns.map D.int ∧ (∀ k ∈ ns, least ≤ k ∧ k < n) ∧ ns.Pairwise (· < ·) ∧ (ns ≠ [] → (ns.length : Int) ≤ n - least)
  | [], _, _ => ⟨[], rfl, fun _ h => (nomatch h), .nil, fun h => absurd rfl h⟩
  | x :: xs, least, h => by
    cases x with
    | int k =>
      simp only [upOk, Bool.and_eq_true, decide_eq_true_eq] at h
      obtain ⟨ns, rfl, h1, h2, h3⟩ := upOk_get xs (k + 1) h.2
      refine ⟨k :: ns, rfl, fun j hj => ?_, List.pairwise_cons.mpr ⟨fun j hj => by have := h1 j hj; omega, h2⟩, fun _ => ?_⟩
      · rcases List.mem_cons.mp hj with z | z
        · omega
        · have := h1 j z
          omega
      · rw [List.length_cons]
        by_cases e : ns = []
        · subst e
          simp
          omega
        · have := h3 e
          omega
    | _ => simp [upOk] at h
def nums : D → List Int
  | .tup xs => xs.filterMap fun d => match d with | .int k => some k | _ => none
  | _ => []
theorem nums_ints (ns : List Int) : nums (.tup (ns.map D.int)) = ns := by
  show (ns.map D.int).filterMap _ = ns
  rw [List.filterMap_map]
  exact List.filterMap_some
theorem grp_get {n : Int} {v : D} (h : isGrp n v = true) (n0 : 0 ≤ n) : ∃ ns : List Int, v = .tup (ns.map D.int) ∧ nums v = ns ∧ (∀ k ∈ ns, 0 ≤ k ∧ k < n) ∧ ns.Pairwise (· < ·) ∧ (ns.length : Int) ≤ n := by
  cases v with
  | tup xs =>
    obtain ⟨ns, rfl, h1, h2, h3⟩ := upOk_get xs 0 h
    refine ⟨ns, rfl, nums_ints ns, h1, h2, ?_⟩
    by_cases e : ns = []
    · subst e
      exact n0
    · have := h3 e
      omega
  | _ => simp [isGrp] at h
/-- a possible move from a group -/
def movB (e : Int) (ws gs : List Int) : D → Bool
  | .tup [x, y] => isGrp ws.length x && (isGrp ws.length y && ((nums x).all (fun n => !decide (n ∈ gs)) && ((nums y).all (fun n => decide (n ∈ gs)) && (decide (1 ≤ wt ws (nums x) - wt ws (nums y)) && decide (wt ws (nums x) - wt ws (nums y) ≤ e)))))
  | _ => false
theorem all_filt {t : Int → Bool} {ns : List Int} : decide (ns.filter t = ns) = ns.all t := by
  cases h : ns.all t with
  | true => exact decide_eq_true (List.filter_eq_self.mpr (List.all_eq_true.mp h))
  | false =>
    refine decide_eq_false fun c => ?_
    rw [List.all_eq_true.mpr (List.filter_eq_self.mp c)] at h
    cases h
theorem none_filt {t : Int → Bool} {ns : List Int} : decide (ns.filter t = []) = ns.all fun n => !t n := by
  cases h : ns.all fun n => !t n with
  | true => exact decide_eq_true (List.filter_eq_nil_iff.mpr fun a ha => by have := List.all_eq_true.mp h a ha; simpa using this)
  | false =>
    refine decide_eq_false fun c => ?_
    rw [List.all_eq_true.mpr fun a ha => by have := List.filter_eq_nil_iff.mp c a ha; simpa using this] at h
    cases h
theorem st_neE {ω : Om} {Q : DQ} {ns : List Int} (h : Q (.bl (!decide (ns = []))) ω) : dEq true (.tup (ns.map D.int)) (.tup []) ω Q := st_eqIntsT (neg := true) (ms := []) h
/-- the move from a group to another one, where there is one -/
def between (e : Int) (ws gs hs : List Int) : D :=
  if decide (1 ≤ wt ws hs - wt ws gs) && decide (wt ws hs - wt ws gs ≤ e) then .tup [.tup ((hs.filter fun n => !decide (n ∈ gs)).map D.int), .tup ((gs.filter fun n => !decide (n ∈ hs)).map D.int)] else .non
theorem GrpI.filt {n : Nat} {gs : List Int} (h : GrpI n gs) (t : Int → Bool) : GrpI n (gs.filter t) := ⟨fun k hk => h.1 k (List.mem_filter.mp hk).1, h.2.filter t⟩
theorem GrpI.ok {n : Nat} {gs : List Int} (h : GrpI n gs) : isGrp n (.tup (gs.map D.int)) = true := (upOk_ints gs 0 fun k hk => by have := h.1 k hk; omega).mpr ⟨fun k hk => (h.1 k hk).1, h.2⟩
theorem wt_diff {n : Nat} {ws gs hs : List Int} (hg : GrpI n gs) (hh : GrpI n hs) : wt ws (hs.filter fun k => !decide (k ∈ gs)) - wt ws (gs.filter fun k => !decide (k ∈ hs)) = wt ws hs - wt ws gs := by
  have a := wt_split ws (fun k => decide (k ∈ gs)) hs
  have b := wt_split ws (fun k => decide (k ∈ hs)) gs
  have c : (hs.filter fun k => decide (k ∈ gs)) = gs.filter fun k => decide (k ∈ hs) := sorted_eq (hh.2.filter _) (hg.2.filter _) fun k => by
    rw [List.mem_filter, List.mem_filter, decide_eq_true_eq, decide_eq_true_eq]
    exact and_comm
  rw [c] at a
  omega
theorem mov_between {e : Int} {ws gs hs : List Int} (hg : GrpI ws.length gs) (hh : GrpI ws.length hs) : movB e ws gs (.tup [.tup ((hs.filter fun n => !decide (n ∈ gs)).map D.int), .tup ((gs.filter fun n => !decide (n ∈ hs)).map D.int)]) = (decide (1 ≤ wt ws hs - wt ws gs) && decide (wt ws hs - wt ws gs ≤ e)) := by
  have a : ((hs.filter fun n => !decide (n ∈ gs)).all fun n => !decide (n ∈ gs)) = true := List.all_eq_true.mpr fun x hx => (List.mem_filter.mp hx).2
  have b : ((gs.filter fun n => !decide (n ∈ hs)).all fun n => decide (n ∈ gs)) = true := List.all_eq_true.mpr fun x hx => decide_eq_true (List.mem_filter.mp hx).1
  have ga : isGrp ws.length (.tup ((hs.filter fun n => !decide (n ∈ gs)).map D.int)) = true := (hh.filt _).ok
  have gb : isGrp ws.length (.tup ((gs.filter fun n => !decide (n ∈ hs)).map D.int)) = true := (hg.filt _).ok
  simp only [movB, nums_ints, ga, gb, a, b, Bool.true_and, wt_diff hg hh]
/-- the group after a move -/
def moved (gs dn un : List Int) : List Int := srt (gs.filter (fun n => !decide (n ∈ un)) ++ dn)
theorem mem_moved {gs dn un : List Int} {k : Int} : k ∈ moved gs dn un ↔ (k ∈ gs ∧ k ∉ un) ∨ k ∈ dn := by
  unfold moved
  rw [(srt_perm _).mem_iff, List.mem_append, List.mem_filter]
  simp
theorem moved_grp {n : Nat} {gs dn un : List Int} (h : GrpI n gs) (hd : ∀ k ∈ dn, 0 ≤ k ∧ k < (n : Int) ∧ k ∉ gs) (pd : dn.Pairwise (· < ·)) : GrpI n (moved gs dn un) := by
  refine ⟨fun k hk => ?_, ?_⟩
  · rcases mem_moved.mp hk with z | z
    · exact h.1 k z.1
    · have := hd k z
      omega
  · have nd : (gs.filter (fun n => !decide (n ∈ un)) ++ dn).Nodup := by
      rw [List.nodup_append]
      refine ⟨(lt_nodup h.2).filter _, lt_nodup pd, fun x hx y hy e => ?_⟩
      subst e
      exact (hd x hy).2.2 (List.mem_filter.mp hx).1
    have nd2 : (moved gs dn un).Nodup := (srt_perm _).nodup_iff.mpr nd
    exact (List.pairwise_and_iff.mpr ⟨srt_le _, nd2⟩).imp fun z => Int.lt_iff_le_and_ne.mpr z
theorem mov_get {e : Int} {ws gs : List Int} {x : D} (h : movB e ws gs x = true) : ∃ dn un : List Int, x = .tup [.tup (dn.map D.int), .tup (un.map D.int)] ∧ GrpI ws.length dn ∧ GrpI ws.length un ∧ (∀ k ∈ dn, k ∉ gs) ∧ (∀ k ∈ un, k ∈ gs) := by
  match x, h with
  | .tup [x, y], h =>
    simp only [movB, Bool.and_eq_true] at h
    obtain ⟨g1, g2, a1, a2, _⟩ := h
    obtain ⟨dn, rfl, n1, h1, p1, _⟩ := grp_get g1 (by omega)
    obtain ⟨un, rfl, n2, h2, p2, _⟩ := grp_get g2 (by omega)
    rw [n1] at a1
    rw [n2] at a2
    refine ⟨dn, un, rfl, ⟨h1, p1⟩, ⟨h2, p2⟩, fun k hk => ?_, fun k hk => ?_⟩
    · have := List.all_eq_true.mp a1 k hk
      simpa using this
    · have := List.all_eq_true.mp a2 k hk
      simpa using this
/-- the group after something that is a move -/
def stepG (gs : List Int) : D → List Int
  | .tup [x, y] => moved gs (nums x) (nums y)
  | _ => gs
theorem stepG_pair {gs dn un : List Int} : stepG gs (.tup [.tup (dn.map D.int), .tup (un.map D.int)]) = moved gs dn un := by
  show moved gs (nums (.tup (dn.map D.int))) (nums (.tup (un.map D.int))) = _
  rw [nums_ints, nums_ints]
/-- moves, one after another -/
def planL (e : Int) (ws : List Int) : List Int → List D → Bool
  | _, [] => true
  | gs, x :: xs => movB e ws gs x && planL e ws (stepG gs x) xs
def planB (e : Int) (ws gs : List Int) : D → Bool
  | .tup xs => planL e ws gs xs
  | _ => false
abbrev Mv := List Int × List Int
def mvD (m : Mv) : D := .tup [.tup (m.1.map D.int), .tup (m.2.map D.int)]
def after (gs : List Int) (ms : List Mv) : List Int := ms.foldl (fun g m => moved g m.1 m.2) gs
theorem after_snoc {gs : List Int} {ms : List Mv} {m : Mv} : after gs (ms ++ [m]) = moved (after gs ms) m.1 m.2 := by
  unfold after
  rw [List.foldl_append]
  rfl
/-- the groups that a plan goes through -/
def grps (gs : List Int) (ms : List Mv) (i : Nat) : List D := (List.range (i + 1)).map fun j => .tup ((after gs (ms.take j)).map D.int)
theorem after_step {gs : List Int} {ms : List Mv} {i : Nat} {m : Mv} (e : ms[i]? = some m) : after gs (ms.take (i + 1)) = moved (after gs (ms.take i)) m.1 m.2 := by
  rw [List.take_add_one, e]
  exact after_snoc
/-- small enough to go through -/
def Thin (gs : List Int) (ms : List Mv) : Prop := ms.length ≤ 2000 ∧ ∀ (i : Nat) m, ms[i]? = some m → (after gs (ms.take i)).length ≤ 100 ∧ m.1.length ≤ 100
theorem wt_app (ws xs ys : List Int) : wt ws (xs ++ ys) = wt ws xs + wt ws ys := by
  unfold wt
  rw [List.map_append, List.sum_append]
theorem wt_perm (ws : List Int) {xs ys : List Int} (h : xs.Perm ys) : wt ws xs = wt ws ys := by
  unfold wt
  induction h with
  | nil => rfl
  | cons a _ ih => rw [List.map_cons, List.map_cons, List.sum_cons, List.sum_cons, ih]
  | swap a b l =>
    simp only [List.map_cons, List.sum_cons]
    omega
  | trans _ _ h1 h2 => exact h1.trans h2
theorem wt_moved {n : Nat} {ws gs dn un : List Int} (hg : GrpI n gs) (hu : GrpI n un) (su : ∀ k ∈ un, k ∈ gs) : wt ws (moved gs dn un) = wt ws gs + (wt ws dn - wt ws un) := by
  unfold moved
  rw [wt_perm ws (srt_perm _), wt_app]
  have a := wt_split ws (fun k => decide (k ∈ un)) gs
  have b : (gs.filter fun k => decide (k ∈ un)) = un := sorted_eq (hg.2.filter _) hu.2 fun k => by
    rw [List.mem_filter, decide_eq_true_eq]
    exact ⟨fun h => h.2, fun h => ⟨su k h, h⟩⟩
  rw [b] at a
  omega
theorem mov_some {e : Int} {ws gs dn un : List Int} (hd : GrpI ws.length dn) (hu : GrpI ws.length un) (sd : ∀ k ∈ dn, k ∉ gs) (su : ∀ k ∈ un, k ∈ gs) : movB e ws gs (.tup [.tup (dn.map D.int), .tup (un.map D.int)]) = (decide (1 ≤ wt ws dn - wt ws un) && decide (wt ws dn - wt ws un ≤ e)) := by
  have a : (dn.all fun n => !decide (n ∈ gs)) = true := List.all_eq_true.mpr fun x hx => by rw [decide_eq_false (sd x hx)]; rfl
  have b : (un.all fun n => decide (n ∈ gs)) = true := List.all_eq_true.mpr fun x hx => decide_eq_true (su x hx)
  simp only [movB, nums_ints, hd.ok, hu.ok, a, b, Bool.true_and]
theorem between_yes {e : Int} {ws gs hs : List Int} (c1 : 1 ≤ wt ws hs - wt ws gs) (c2 : wt ws hs - wt ws gs ≤ e) : between e ws gs hs = .tup [.tup ((hs.filter fun n => !decide (n ∈ gs)).map D.int), .tup ((gs.filter fun n => !decide (n ∈ hs)).map D.int)] := by
  unfold between
  rw [decide_eq_true c1, decide_eq_true c2]
  rfl
theorem moved_back {n : Nat} {gs hs : List Int} (hg : GrpI n gs) (hh : GrpI n hs) : moved gs (hs.filter fun k => !decide (k ∈ gs)) (gs.filter fun k => !decide (k ∈ hs)) = hs := by
  have g : GrpI n (moved gs (hs.filter fun k => !decide (k ∈ gs)) (gs.filter fun k => !decide (k ∈ hs))) := moved_grp hg (fun k hk => by
    obtain ⟨h1, h2⟩ := List.mem_filter.mp hk
    have h3 := hh.1 k h1
    exact ⟨h3.1, h3.2, by simpa using h2⟩) (hh.2.filter _)
  refine sorted_eq g.2 hh.2 fun k => ?_
  rw [mem_moved, List.mem_filter, List.mem_filter]
  by_cases a : k ∈ gs <;> by_cases b : k ∈ hs <;> simp [a, b]
end DL

/-! TW: the sums of groups, ways over them, the fewest moves. -/
namespace DL
open PySem PySem.Spec L2
/-! ### sums -/
def sumsL (ws : List Int) : List Int := (ups (ws.sum.toNat + 1)).filter fun s => (allG ws.length).any fun g => decide (wt ws g = s)
theorem sumsL_lt (ws : List Int) : (sumsL ws).Pairwise (· < ·) := (ups_lt _).filter _
theorem mem_sumsL {ws : List Int} (h1 : ∀ w ∈ ws, 1 ≤ w) {s : Int} : s ∈ sumsL ws ↔ ∃ g, GrpI ws.length g ∧ wt ws g = s := by
  unfold sumsL
  rw [List.mem_filter, mem_ups, List.any_eq_true]
  constructor
  · rintro ⟨_, g, hg, e⟩
    exact ⟨g, allG_grp hg, of_decide_eq_true e⟩
  · rintro ⟨g, hg, rfl⟩
    have a := wt_nonneg h1 hg
    have b := grp_sum h1 hg
    exact ⟨⟨a, by omega⟩, g, grp_allG hg, decide_eq_true rfl⟩
theorem sums_eq {ws l : List Int} (h1 : ∀ w ∈ ws, 1 ≤ w) (hl : l.Pairwise (· < ·)) (h : ∀ s, s ∈ l ↔ ∃ g, GrpI ws.length g ∧ wt ws g = s) : l = sumsL ws :=
  sorted_eq hl (sumsL_lt ws) fun s => (h s).trans (mem_sumsL h1).symm
theorem sumsL_len (ws : List Int) (h1 : ∀ w ∈ ws, 1 ≤ w) : (sumsL ws).length ≤ 2 ^ ws.length := by
  have z := List.Nodup.length_le_of_subset (l₁ := sumsL ws) (l₂ := (allG ws.length).map (wt ws)) (lt_nodup (sumsL_lt ws)) fun s hs => by
    obtain ⟨g, hg, e⟩ := (mem_sumsL h1).mp hs
    exact List.mem_map.mpr ⟨g, grp_allG hg, e⟩
  rw [List.length_map, allG_len] at z
  exact z
def btw (ws : List Int) (lo hi : Int) : List Int := (sumsL ws).filter fun s => decide (lo ≤ s) && decide (s ≤ hi)
theorem mem_btw {ws : List Int} {lo hi s : Int} : s ∈ btw ws lo hi ↔ s ∈ sumsL ws ∧ lo ≤ s ∧ s ≤ hi := by
  unfold btw
  rw [List.mem_filter, Bool.and_eq_true, decide_eq_true_eq, decide_eq_true_eq]
theorem btw_lt (ws : List Int) (lo hi : Int) : (btw ws lo hi).Pairwise (· < ·) := (sumsL_lt ws).filter _
/-! ### neighbours -/
def adj (l : List Int) : List (Int × Int) := l.zip l.tail
def gapL (x : Int) (l : List Int) : Option (Int × Int) := (adj l).find? fun p => decide (x < p.2 - p.1)
theorem adj_cons (a b : Int) (l : List Int) : adj (a :: b :: l) = (a, b) :: adj (b :: l) := rfl
theorem gapL_none {x : Int} {l : List Int} : gapL x l = none ↔ ∀ p ∈ adj l, p.2 - p.1 ≤ x := by
  unfold gapL
  rw [List.find?_eq_none]
  constructor
  · intro h p hp
    have := h p hp
    simp only [decide_eq_true_eq] at this
    omega
  · intro h p hp
    have := h p hp
    simp only [decide_eq_true_eq]
    omega
theorem gapL_some {x : Int} {l : List Int} {p : Int × Int} (h : gapL x l = some p) : p ∈ adj l ∧ x < p.2 - p.1 := by
  unfold gapL at h
  exact ⟨List.mem_of_find?_eq_some h, by simpa using List.find?_some h⟩
/-- nothing of the set lies strictly between neighbours -/
def Cons (S : Int → Prop) (l : List Int) : Prop := ∀ p ∈ adj l, p.1 < p.2 ∧ S p.1 ∧ S p.2 ∧ ∀ s, S s → s < p.2 → s ≤ p.1
theorem adj_mem : ∀ {l : List Int} {p : Int × Int}, p ∈ adj l → p.1 ∈ l ∧ p.2 ∈ l
  | [], _, h => nomatch h
  | [_], _, h => nomatch h
  | a :: b :: l, p, h => by
    rw [adj_cons] at h
    rcases List.mem_cons.mp h with z | z
    · subst z; exact ⟨List.mem_cons_self, List.mem_cons_of_mem _ List.mem_cons_self⟩
    · have := adj_mem z
      exact ⟨List.mem_cons_of_mem _ this.1, List.mem_cons_of_mem _ this.2⟩
theorem adj_lt : ∀ {l : List Int}, l.Pairwise (· < ·) → ∀ {p : Int × Int}, p ∈ adj l → p.1 < p.2 ∧ ∀ s ∈ l, s < p.2 → s ≤ p.1
  | [], _, _, h => nomatch h
  | [_], _, _, h => nomatch h
  | a :: b :: l, hl, p, h => by
    have hl' := List.pairwise_cons.mp hl
    have hb := List.pairwise_cons.mp hl'.2
    rw [adj_cons] at h
    rcases List.mem_cons.mp h with z | z
    · subst z
      refine ⟨hl'.1 b List.mem_cons_self, fun s hs lt => ?_⟩
      rcases List.mem_cons.mp hs with y | y
      · omega
      · rcases List.mem_cons.mp y with u | u
        · omega
        · have := hb.1 s u; omega
    · obtain ⟨c1, c2⟩ := adj_lt hl'.2 z
      refine ⟨c1, fun s hs lt => ?_⟩
      rcases List.mem_cons.mp hs with y | y
      · subst y
        have := hl'.1 p.1 (adj_mem z).1
        omega
      · exact c2 s y lt
theorem cons_btw {ws : List Int} {lo hi : Int} : Cons (· ∈ sumsL ws) (btw ws lo hi) := fun p hp => by
  obtain ⟨a, b⟩ := adj_lt (btw_lt ws lo hi) hp
  obtain ⟨m1, m2⟩ := adj_mem hp
  have n1 := mem_btw.mp m1
  have n2 := mem_btw.mp m2
  refine ⟨a, n1.1, n2.1, fun s hs lt => ?_⟩
  by_cases c : lo ≤ s
  · exact b s (mem_btw.mpr ⟨hs, c, by omega⟩) lt
  · omega
/-! ### ways -/
/-- k steps from s to u, each of 1 to x, over the set -/
def Way (S : Int → Prop) (x : Int) : Nat → Int → Int → Prop
  | 0, s, u => s = u
  | k + 1, s, u => ∃ t, S t ∧ 1 ≤ t - s ∧ t - s ≤ x ∧ Way S x k t u
theorem Way.le {S : Int → Prop} {x : Int} : ∀ {k : Nat} {s u : Int}, Way S x k s u → s + k ≤ u
  | 0, s, u, h => by have h : s = u := h; omega
  | k + 1, s, u, ⟨t, _, a, _, h⟩ => by have := Way.le h; omega
theorem Way.mono {S S' : Int → Prop} {x x' : Int} (hS : ∀ s, S s → S' s) (hx : x ≤ x') : ∀ {k : Nat} {s u : Int}, Way S x k s u → Way S' x' k s u
  | 0, _, _, h => h
  | k + 1, _, _, ⟨t, a, b, c, h⟩ => ⟨t, hS t a, b, by omega, Way.mono hS hx h⟩
theorem Way.trans {S : Int → Prop} {x : Int} : ∀ {k j : Nat} {s t u : Int}, Way S x k s t → Way S x j t u → Way S x (k + j) s u
  | 0, j, s, t, u, h, h' => by have h : s = t := h; rw [h, Nat.zero_add]; exact h'
  | k + 1, j, s, t, u, ⟨r, a, b, c, h⟩, h' => by
    rw [show k + 1 + j = (k + j) + 1 by omega]
    exact ⟨r, a, b, c, Way.trans h h'⟩
/-- the stops behind the last one -/
def grd (x : Int) : Int → List Int → List Int
  | last, a :: b :: l => if x < b - last then a :: grd x a (b :: l) else grd x last (b :: l)
  | _, _ => []
theorem cons_last {S : Int → Prop} : ∀ {l : List Int} {a hi : Int}, Cons S (a :: l) → (a :: l).getLast? = some hi → a ≤ hi
  | [], a, hi, _, e => by cases e; exact Int.le_refl _
  | b :: l, a, hi, hc, e => by
    have hab := hc (a, b) (by rw [adj_cons]; exact List.mem_cons_self)
    have := cons_last (fun p hp => hc p (by rw [adj_cons]; exact List.mem_cons_of_mem _ hp)) (by rw [List.getLast?_cons_cons] at e; exact e)
    have := hab.1
    omega
theorem grd_low {S : Int → Prop} {x hi : Int} : ∀ {l : List Int} {last t : Int} {k : Nat}, Cons S l → l.getLast? = some hi → last < hi → t ≤ last → Way S x k t hi → (grd x last l).length + 1 ≤ k
  | [], _, _, _, _, e, _, _, _ => nomatch e
  | [a], last, t, k, _, _, lt, tl, w => by
    cases k with
    | zero => have w : t = hi := w; omega
    | succ k => simp [grd]
  | a :: b :: l, last, t, k, hc, e, lt, tl, w => by
    have hab := hc (a, b) (by rw [adj_cons]; exact List.mem_cons_self)
    have hc' : Cons S (b :: l) := fun p hp => hc p (by rw [adj_cons]; exact List.mem_cons_of_mem _ hp)
    have e' : (b :: l).getLast? = some hi := by rw [List.getLast?_cons_cons] at e; exact e
    unfold grd
    split
    · rename_i c
      cases k with
      | zero => have w : t = hi := w; omega
      | succ k =>
        obtain ⟨t1, s1, w1, w2, w3⟩ := w
        have ta : t1 ≤ a := hab.2.2.2 t1 s1 (by omega)
        have bh : b ≤ hi := cons_last hc' e'
        have := grd_low hc' e' (by have := hab.1; omega) ta w3
        rw [List.length_cons]
        omega
    · exact grd_low hc' e' lt tl w
theorem grd_up {S : Int → Prop} {x hi : Int} : ∀ {a : Int} {l : List Int} {last : Int}, Cons S (a :: l) → (∀ p ∈ adj (a :: l), p.2 - p.1 ≤ x) → (a :: l).getLast? = some hi → S hi → last < hi → last ≤ a → a - last ≤ x → Way S x ((grd x last (a :: l)).length + 1) last hi
  | a, [], last, _, _, e, sh, lt, la, lx => by
    have e : a = hi := by simpa using e
    subst e
    exact ⟨a, sh, by omega, lx, rfl⟩
  | a, b :: l, last, hc, hg, e, sh, lt, la, lx => by
    have hab := hc (a, b) (by rw [adj_cons]; exact List.mem_cons_self)
    have gab := hg (a, b) (by rw [adj_cons]; exact List.mem_cons_self)
    have hc' : Cons S (b :: l) := fun p hp => hc p (by rw [adj_cons]; exact List.mem_cons_of_mem _ hp)
    have hg' : ∀ p ∈ adj (b :: l), p.2 - p.1 ≤ x := fun p hp => hg p (by rw [adj_cons]; exact List.mem_cons_of_mem _ hp)
    have e' : (b :: l).getLast? = some hi := by rw [List.getLast?_cons_cons] at e; exact e
    have bh := cons_last hc' e'
    have h1 := hab.1
    have g1 : b - a ≤ x := gab
    have h1 : a < b := h1
    unfold grd
    split
    · rename_i c
      rw [List.length_cons]
      exact ⟨a, hab.2.1, by omega, lx, grd_up hc' hg' e' sh (by omega) (by omega) g1⟩
    · exact grd_up hc' hg' e' sh lt (by omega) (by omega)
theorem way_gap {S : Int → Prop} {x a b hi : Int} (hn : ∀ s, S s → s < b → s ≤ a) (hab : a < b) (hx : x < b - a) (hb : b ≤ hi) : ∀ {k : Nat} {t : Int}, t ≤ a → ¬ Way S x k t hi
  | 0, t, h, w => by have w : t = hi := w; omega
  | k + 1, t, h, w => by
    obtain ⟨t1, s1, w1, w2, w3⟩ := w
    have lt : t1 < b := by omega
    exact way_gap hn hab hx hb (hn t1 s1 lt) w3
/-! ### the fewest moves between sums -/
/-- the least number of steps from lo up to hi, if any -/
def fewW (x : Int) (ws : List Int) (lo hi : Int) : Option Nat := if (gapL x (btw ws lo hi)).isSome then none else some ((grd x lo (btw ws lo hi)).length + 1)
theorem btw_ends {ws : List Int} {lo hi : Int} (hlo : lo ∈ sumsL ws) (hhi : hi ∈ sumsL ws) (lt : lo < hi) : ∃ l, btw ws lo hi = lo :: l ∧ (lo :: l).getLast? = some hi := by
  have hs := btw_lt ws lo hi
  have m1 : lo ∈ btw ws lo hi := mem_btw.mpr ⟨hlo, Int.le_refl _, by omega⟩
  have m2 : hi ∈ btw ws lo hi := mem_btw.mpr ⟨hhi, by omega, Int.le_refl _⟩
  have low : ∀ s ∈ btw ws lo hi, lo ≤ s ∧ s ≤ hi := fun s h => (mem_btw.mp h).2
  generalize btw ws lo hi = l at *
  cases l with
  | nil => exact absurd m1 List.not_mem_nil
  | cons a l =>
    have e : a = lo := by
      rcases List.mem_cons.mp m1 with z | z
      · exact z.symm
      · have := (List.pairwise_cons.mp hs).1 lo z
        have := (low a List.mem_cons_self).1
        omega
    subst e
    refine ⟨l, rfl, ?_⟩
    obtain ⟨z, ez⟩ : ∃ z, (a :: l).getLast? = some z := ⟨(a :: l).getLast (by simp), List.getLast?_eq_some_getLast (by simp)⟩
    have zm := low z (List.mem_of_getLast? ez)
    have hz : hi ≤ z := by
      obtain ⟨pre, ep⟩ := List.getLast?_eq_some_iff.mp ez
      rw [ep] at hs m2
      rcases List.mem_append.mp m2 with y | y
      · have := (List.pairwise_append.mp hs).2.2 hi y z (List.mem_singleton.mpr rfl)
        omega
      · rw [List.mem_singleton] at y; omega
    rw [ez, show z = hi by omega]
theorem fewW_some {x : Int} {ws : List Int} {lo hi : Int} {k : Nat} (hlo : lo ∈ sumsL ws) (hhi : hi ∈ sumsL ws) (lt : lo < hi) (x0 : 0 ≤ x) (h : fewW x ws lo hi = some k) : Way (· ∈ sumsL ws) x k lo hi ∧ ∀ j, Way (· ∈ sumsL ws) x j lo hi → k ≤ j := by
  obtain ⟨l, el, eh⟩ := btw_ends hlo hhi lt
  have hc := cons_btw (ws := ws) (lo := lo) (hi := hi)
  unfold fewW at h
  rw [el] at h hc
  split at h
  · cases h
  · rename_i c
    cases h
    have gn : gapL x (lo :: l) = none := by
      cases z : gapL x (lo :: l) with
      | none => rfl
      | some p => rw [z] at c; exact absurd rfl c
    exact ⟨grd_up hc (gapL_none.mp gn) eh hhi lt (Int.le_refl _) (by omega), fun j w => grd_low hc eh lt (Int.le_refl _) w⟩
theorem fewW_none {x : Int} {ws : List Int} {lo hi : Int} (h : fewW x ws lo hi = none) : ∀ j, ¬ Way (· ∈ sumsL ws) x j lo hi := by
  unfold fewW at h
  split at h
  · rename_i c
    obtain ⟨p, ep⟩ := Option.isSome_iff_exists.mp c
    obtain ⟨pm, px⟩ := gapL_some ep
    obtain ⟨c1, c2, c3, c4⟩ := cons_btw (ws := ws) (lo := lo) (hi := hi) p pm
    obtain ⟨m1, m2⟩ := adj_mem pm
    exact fun j => way_gap c4 c1 px (mem_btw.mp m2).2.2 (mem_btw.mp m1).2.1
  · cases h
/-- what the least number is, in words -/
theorem fewW_iff {x : Int} {ws : List Int} {lo hi : Int} (hlo : lo ∈ sumsL ws) (hhi : hi ∈ sumsL ws) (lt : lo < hi) (x0 : 0 ≤ x) {o : Option Nat} : fewW x ws lo hi = o ↔ match o with
    | none => ∀ j, ¬ Way (· ∈ sumsL ws) x j lo hi
    | some k => Way (· ∈ sumsL ws) x k lo hi ∧ ∀ j, Way (· ∈ sumsL ws) x j lo hi → k ≤ j := by
  constructor
  · rintro rfl
    cases h : fewW x ws lo hi with
    | none => exact fewW_none h
    | some k => exact fewW_some hlo hhi lt x0 h
  · intro h
    cases o with
    | none =>
      cases z : fewW x ws lo hi with
      | none => rfl
      | some k => exact (h k (fewW_some hlo hhi lt x0 z).1).elim
    | some k =>
      cases z : fewW x ws lo hi with
      | none => exact (fewW_none z k h.1).elim
      | some j =>
        obtain ⟨a, b⟩ := fewW_some hlo hhi lt x0 z
        have := b k h.1
        have := h.2 j a
        rw [show j = k by omega]
/-- the fewest moves from one group to another -/
def fewN (x : Int) (ws g h : List Int) : Option Nat := if g = h then some 0 else if wt ws h ≤ wt ws g then none else fewW x ws (wt ws g) (wt ws h)
end DL
namespace DL
open PySem PySem.Spec L2
theorem zipD_adj : ∀ (l : List Int), zipD (l.map D.int) ((l.map D.int).drop 1) = (adj l).map pr2D
  | [] => rfl
  | [_] => rfl
  | a :: b :: l => by
    have ih := zipD_adj (b :: l)
    show D.tup [.int a, .int b] :: zipD ((b :: l).map D.int) (((b :: l).map D.int).drop 1) = _
    rw [ih]
    rfl
theorem zip_adj (l : List Int) : zipD (l.map D.int) (cutD (l.map D.int) (some 1) none) = (adj l).map pr2D := by
  rw [cut_from (by decide)]
  exact zipD_adj l
theorem adj_drop {l : List Int} {i : Nat} {p : Int × Int} (h : (adj l)[i]? = some p) : (adj l).drop i = p :: (adj l).drop (i + 1) := by
  obtain ⟨hi, e⟩ := List.getElem?_eq_some_iff.mp h
  rw [← e]
  exact List.drop_eq_getElem_cons hi
/-- each one is above the one before by 1 to x -/
def ClimbI (x : Int) : List Int → Prop
  | s :: t :: r => (1 ≤ t - s ∧ t - s ≤ x) ∧ ClimbI x (t :: r)
  | _ => True
theorem grd_climb {S : Int → Prop} {x hi : Int} : ∀ {a : Int} {l : List Int} {last : Int}, Cons S (a :: l) → (∀ p ∈ adj (a :: l), p.2 - p.1 ≤ x) → (a :: l).getLast? = some hi → last < hi → last ≤ a → a - last ≤ x → ClimbI x (last :: (grd x last (a :: l) ++ [hi]))
  | a, [], last, _, _, e, lt, la, lx => by
    have e : a = hi := by simpa using e
    subst e
    exact ⟨⟨by omega, lx⟩, trivial⟩
  | a, b :: l, last, hc, hg, e, lt, la, lx => by
    have hab := hc (a, b) (by rw [adj_cons]; exact List.mem_cons_self)
    have g1 : b - a ≤ x := hg (a, b) (by rw [adj_cons]; exact List.mem_cons_self)
    have hc' : Cons S (b :: l) := fun p hp => hc p (by rw [adj_cons]; exact List.mem_cons_of_mem _ hp)
    have hg' : ∀ p ∈ adj (b :: l), p.2 - p.1 ≤ x := fun p hp => hg p (by rw [adj_cons]; exact List.mem_cons_of_mem _ hp)
    have e' : (b :: l).getLast? = some hi := by rw [List.getLast?_cons_cons] at e; exact e
    have bh := cons_last hc' e'
    have h1 : a < b := hab.1
    unfold grd
    split
    · rename_i c
      exact ⟨⟨by omega, lx⟩, grd_climb hc' hg' e' (by omega) (by omega) g1⟩
    · exact grd_climb hc' hg' e' lt (by omega) (by omega)
theorem grd_mem {x : Int} : ∀ {l : List Int} {last s : Int}, s ∈ grd x last l → s ∈ l
  | [], _, _, h => nomatch h
  | [_], _, _, h => nomatch h
  | a :: b :: l, last, s, h => by
    unfold grd at h
    split at h
    · rcases List.mem_cons.mp h with z | z
      · rw [z]; exact List.mem_cons_self
      · exact List.mem_cons_of_mem _ (grd_mem z)
    · exact List.mem_cons_of_mem _ (grd_mem h)
theorem grd_len {x : Int} : ∀ {l : List Int} {last : Int}, (grd x last l).length ≤ l.length
  | [], _ => Nat.zero_le _
  | [_], _ => Nat.zero_le _
  | a :: b :: l, last => by
    unfold grd
    have h1 := grd_len (x := x) (l := b :: l) (last := a)
    have h2 := grd_len (x := x) (l := b :: l) (last := last)
    split
    · rw [List.length_cons, List.length_cons (a := a)]; omega
    · rw [List.length_cons (a := a)]; omega
/-! ### rows of groups -/
def mvAt (g h : List Int) : Mv := (h.filter (fun n => !decide (n ∈ g)), g.filter (fun n => !decide (n ∈ h)))
/-- the moves along a row of groups -/
def mvsOf : List (List Int) → List Mv
  | g :: h :: r => mvAt g h :: mvsOf (h :: r)
  | _ => []
def Climb (x : Int) (ws : List Int) (r : List (List Int)) : Prop := ClimbI x (r.map (wt ws))
structure Route [Amb] (x : Int) (ws g h : List Int) (r : List (List Int)) : Prop where
  hd : r.head? = some g
  la : r.getLast? = some h
  grp : ∀ k ∈ r, GrpI ws.length k
  up : Climb x ws r
def pairsG : List (List Int) → List D
  | g :: h :: r => .tup [tupI g, tupI h] :: pairsG (h :: r)
  | _ => []
theorem zip_groups : ∀ r : List (List Int), zipD (r.map tupI) (cutD (r.map tupI) (some 1) none) = pairsG r := by
  intro r
  rw [cut_from (by decide)]
  show zipD (r.map tupI) ((r.map tupI).drop 1) = _
  induction r with
  | nil => rfl
  | cons g r ih =>
    cases r with
    | nil => rfl
    | cons h r =>
      show D.tup [tupI g, tupI h] :: zipD ((h :: r).map tupI) (((h :: r).map tupI).drop 1) = _
      rw [ih]
      rfl
theorem pairs_len : ∀ r : List (List Int), (pairsG r).length = r.length - 1
  | [] => rfl
  | [_] => rfl
  | _ :: h :: r => by
    rw [pairsG, List.length_cons, pairs_len (h :: r)]
    simp
theorem mvs_len : ∀ r : List (List Int), (mvsOf r).length = r.length - 1
  | [] => rfl
  | [_] => rfl
  | _ :: h :: r => by
    rw [mvsOf, List.length_cons, mvs_len (h :: r)]
    simp
theorem pairs_mem {x : Int} {ws : List Int} : ∀ {r : List (List Int)}, Climb x ws r → (∀ k ∈ r, GrpI ws.length k) → ∀ d ∈ pairsG r, ∃ g h, d = .tup [tupI g, tupI h] ∧ GrpI ws.length g ∧ GrpI ws.length h ∧ 1 ≤ wt ws h - wt ws g ∧ wt ws h - wt ws g ≤ x
  | [], _, _, _, h => nomatch h
  | [_], _, _, _, h => nomatch h
  | g :: h :: r, hc, hg, d, hd => by
    have hc : (1 ≤ wt ws h - wt ws g ∧ wt ws h - wt ws g ≤ x) ∧ Climb x ws (h :: r) := hc
    rcases List.mem_cons.mp hd with z | z
    · exact ⟨g, h, z, hg g List.mem_cons_self, hg h (List.mem_cons_of_mem _ List.mem_cons_self), hc.1.1, hc.1.2⟩
    · exact pairs_mem hc.2 (fun k hk => hg k (List.mem_cons_of_mem _ hk)) d z
theorem pairs_mvs (f : D → D) (hf : ∀ g h, f (.tup [tupI g, tupI h]) = mvD (mvAt g h)) : ∀ r : List (List Int), (pairsG r).map f = (mvsOf r).map mvD
  | [] => rfl
  | [_] => rfl
  | g :: h :: r => by
    rw [pairsG, mvsOf, List.map_cons, List.map_cons, hf, pairs_mvs f hf (h :: r)]
end DL

/-! TY: a, *b = a tuple. -/
namespace DL
open PySem PySem.Spec L2 PyProof.Rows PySem.W PySem.Calls
section
variable {X : Cx} {K : PySem.W.Frag} {pos : Pos} {es : List Expr}
/-- first, *rest = a tuple that is not empty -/
def gStar (K : PySem.W.Frag) (t : TGs) : TG := fun v σ H Q => ∃ a x xs, v = .ref a ∧ SqT K H a (x :: xs) ∧ xs.length ≤ 16000 ∧ ∀ d, H d = none → t [x, .ref d] σ (upd H d (.lst xs)) Q
/-- first, *rest = a tuple that is not empty -/
def dgStar (t : TGsD) : TGD := fun x ρ ω Q => ∃ y ys, x = .tup (y :: ys) ∧ ys.length ≤ 16000 ∧ t [y, .lst ys] ρ ω Q
/-- the starred name in such a store -/
theorem dgs_starred [Amb] {i : Nat} {x : Str} {p p2 : Pos} (hN : X.N.Nodup) (hi : X.N[i]? = some x) (hx : L2.Loc X.env.scope x) (hf : X.fn x = true ∨ X.env.scope.names.lookup x = some .local := by first | exact .inl rfl | exact .inr rfl | assumption) (hs : (assignEach [Expr.Starred (.Name x p) p2] X.env).map (·.2) = [assign (.Name x p) X.env] := by rfl) : DGs X [Expr.Starred (.Name x p) p2] (dgCons (dgName i) dgNil) := by
  have base : DGs X [.Name x p] (dgCons (dgName i) dgNil) := dgs_cons (dg_name hN hi hx hf) dgs_nil
  refine ⟨fun pins s σ H vs us Q I r t => ?_⟩
  rw [hs]
  exact base.run pins s σ H vs us Q I r t
end
/-! ### plans that are judged -/
def endG (g : List Int) : D → List Int
  | .tup xs => xs.foldl stepG g
  | _ => g
def leadsB (x : Int) (ws g h : List Int) (v : D) : Bool := planB x ws g v && decide (endG g v = h)
theorem mov_wt {x : Int} {ws g : List Int} {d : D} (hg : GrpI ws.length g) (h : movB x ws g d = true) : ∃ m : Mv, d = mvD m ∧ stepG g d = moved g m.1 m.2 ∧ GrpI ws.length (stepG g d) ∧ GrpI ws.length m.1 ∧ 1 ≤ wt ws (stepG g d) - wt ws g ∧ wt ws (stepG g d) - wt ws g ≤ x := by
  obtain ⟨dn, un, rfl, h1, h2, h3, h4⟩ := mov_get h
  rw [mov_some h1 h2 h3 h4] at h
  have hm : GrpI ws.length (moved g dn un) := moved_grp hg (fun k hk => ⟨(h1.1 k hk).1, (h1.1 k hk).2, h3 k hk⟩) h1.2
  have ew := wt_moved (ws := ws) (gs := g) (dn := dn) (un := un) hg h2 h4
  simp only [Bool.and_eq_true, decide_eq_true_eq] at h
  refine ⟨(dn, un), rfl, stepG_pair, by rw [stepG_pair]; exact hm, h1, ?_, ?_⟩
  · rw [stepG_pair, ew]; omega
  · rw [stepG_pair, ew]; omega
theorem plan_ms {x : Int} {ws : List Int} (wl : ws.length ≤ 24) : ∀ {xs : List D} {g : List Int}, GrpI ws.length g → planL x ws g xs = true → ∃ ms : List Mv, xs = ms.map mvD ∧ (∀ (i : Nat) m, ms[i]? = some m → (after g (ms.take i)).length ≤ 100 ∧ m.1.length ≤ 100) ∧ after g ms = xs.foldl stepG g ∧ GrpI ws.length (xs.foldl stepG g)
  | [], g, hg, _ => ⟨[], rfl, fun i m e => by simp at e, rfl, hg⟩
  | d :: xs, g, hg, h => by
    have h : movB x ws g d = true ∧ planL x ws (stepG g d) xs = true := by simpa [planL] using h
    obtain ⟨m, e, es, hm, hd, _⟩ := mov_wt hg h.1
    obtain ⟨ms, e1, e2, e3, e4⟩ := plan_ms wl hm h.2
    refine ⟨m :: ms, by rw [e, e1]; rfl, fun i m' ei => ?_, ?_, e4⟩
    · cases i with
      | zero =>
        cases ei
        have a := hg.len
        have b := hd.len
        exact ⟨by show g.length ≤ 100; omega, by omega⟩
      | succ i =>
        have ei : ms[i]? = some m' := ei
        have z := e2 i m' ei
        rw [es] at z
        exact z
    · show after (moved g m.1 m.2) ms = _
      rw [← es, e3]
      rfl
/-- a plan that is possible is a way -/
theorem plan_way {x : Int} {ws : List Int} (h1 : ∀ w ∈ ws, 1 ≤ w) : ∀ {xs : List D} {g : List Int}, GrpI ws.length g → planL x ws g xs = true → Way (· ∈ sumsL ws) x xs.length (wt ws g) (wt ws (xs.foldl stepG g))
  | [], g, _, _ => rfl
  | d :: xs, g, hg, h => by
    have h : movB x ws g d = true ∧ planL x ws (stepG g d) xs = true := by simpa [planL] using h
    obtain ⟨m, e, es, hm, hd, a, b⟩ := mov_wt hg h.1
    exact ⟨wt ws (stepG g d), (mem_sumsL h1).mpr ⟨_, hm, rfl⟩, a, b, plan_way h1 hm h.2⟩
/-- the moves along a row of groups are a plan -/
theorem row_plan {x : Int} {ws : List Int} : ∀ {r : List (List Int)} {g : List Int}, (∀ k ∈ g :: r, GrpI ws.length k) → Climb x ws (g :: r) → planL x ws g ((mvsOf (g :: r)).map mvD) = true ∧ ((mvsOf (g :: r)).map mvD).foldl stepG g = (g :: r).getLast (by simp)
  | [], g, _, _ => ⟨rfl, rfl⟩
  | h :: r, g, hg, hc => by
    have hc : (1 ≤ wt ws h - wt ws g ∧ wt ws h - wt ws g ≤ x) ∧ Climb x ws (h :: r) := hc
    have gg := hg g List.mem_cons_self
    have gh := hg h (List.mem_cons_of_mem _ List.mem_cons_self)
    have st : stepG g (mvD (mvAt g h)) = h := by
      show stepG g (.tup [.tup _, .tup _]) = h
      rw [stepG_pair]
      exact moved_back gg gh
    obtain ⟨i1, i2⟩ := row_plan (r := r) (g := h) (fun k hk => hg k (List.mem_cons_of_mem _ hk)) hc.2
    have mv : movB x ws g (mvD (mvAt g h)) = true := by
      show movB x ws g (.tup [.tup _, .tup _]) = true
      have z := mov_between (e := x) gg gh
      unfold mvAt
      rw [z, decide_eq_true hc.1.1, decide_eq_true hc.1.2]
      rfl
    refine ⟨?_, ?_⟩
    · show (movB x ws g (mvD (mvAt g h)) && planL x ws (stepG g (mvD (mvAt g h))) ((mvsOf (h :: r)).map mvD)) = true
      rw [mv, st, i1]
      rfl
    · show ((mvsOf (h :: r)).map mvD).foldl stepG (stepG g (mvD (mvAt g h))) = _
      rw [st, i2]
      rfl
theorem route_leads [Amb] {x : Int} {ws g h : List Int} {r : List (List Int)} (rt : Route x ws g h r) : leadsB x ws g h (.tup ((mvsOf r).map mvD)) = true := by
  cases r with
  | nil => have := rt.hd; cases this
  | cons k r =>
    have e : k = g := by have := rt.hd; simpa using this
    subst e
    obtain ⟨a, b⟩ := row_plan rt.grp rt.up
    have c : (k :: r).getLast (by simp) = h := by
      have := rt.la
      rw [List.getLast?_eq_some_getLast (by simp)] at this
      exact Option.some.inj this
    unfold leadsB
    show (planL x ws k ((mvsOf (k :: r)).map mvD) && decide (((mvsOf (k :: r)).map mvD).foldl stepG k = h)) = true
    rw [a, b, c, decide_eq_true rfl]
    rfl
def optN : Option Nat → D
  | none => .non
  | some k => .int k
/-- certificates -/
inductive Cert where
  | plan (v : D)
  | light
  | gap (a b : Int)
def certD : Cert → D
  | .plan v => .tup [.str "plan", v]
  | .light => .tup [.str "light"]
  | .gap a b => .tup [.str "gap", .int a, .int b]
def gapB (x : Int) (ws : List Int) (lo hi a b : Int) : Bool := decide (lo ≤ a ∧ a ≤ hi) && decide (lo ≤ b ∧ b ≤ hi) && decide (x < b - a) && !((sumsL ws).any fun s => decide (a < s) && decide (s < b))
def certB (x : Int) (ws g h : List Int) : Cert → Bool
  | .plan v => leadsB x ws g h v
  | .light => !decide (g = h) && decide (wt ws h ≤ wt ws g)
  | .gap a b => gapB x ws (wt ws g) (wt ws h) a b
end DL

/-! TZ: reach, and plans from nobody. -/
namespace DL
open PySem PySem.Spec L2
theorem grp_nil (n : Nat) : GrpI n [] := ⟨fun _ h => (nomatch h), List.Pairwise.nil⟩
theorem grp_ups (n : Nat) : GrpI n (ups n) := ⟨fun _ hk => mem_ups.mp hk, ups_lt _⟩
/-- reach is a group's weight -/
theorem rch_mem {x : Int} {ws : List Int} (h1 : ∀ w ∈ ws, 1 ≤ w) (x0 : 0 ≤ x) : rch x ws ∈ sumsL ws := by
  have r0 := rch_nonneg (e := x) h1
  obtain ⟨g, hg, lt, mx⟩ := best (f := wt ws) (t := rch x ws + 1) (S := allG ws.length) ⟨[], grp_allG (grp_nil _), by rw [wt_nil]; omega⟩
  have gg := allG_grp hg
  have g0 := wt_nonneg h1 gg
  refine (mem_sumsL h1).mpr ⟨g, gg, ?_⟩
  by_cases c : wt ws g < rch x ws
  · obtain ⟨ns, n1, n2, n3⟩ := rch_next (x := x) h1 (wt ws g) g0 c
    have := rch_step h1 x0 n1 (g := g) (by omega) (by omega)
    have := mx ns (grp_allG n1) (by omega)
    omega
  · omega
/-- neighbours up to reach are not too far apart -/
theorem near_adj {x : Int} {ws : List Int} (h1 : ∀ w ∈ ws, 1 ≤ w) {a b : Int} (ha : a ∈ sumsL ws) (hb : b ≤ rch x ws) (lt : a < b) (hn : ∀ s ∈ sumsL ws, s < b → s ≤ a) : b - a ≤ x := by
  obtain ⟨g, gg, rfl⟩ := (mem_sumsL h1).mp ha
  obtain ⟨ns, n1, n2, n3⟩ := rch_next (x := x) h1 (wt ws g) (wt_nonneg h1 gg) (by omega)
  have ms : wt ws ns ∈ sumsL ws := (mem_sumsL h1).mpr ⟨ns, n1, rfl⟩
  by_cases c : wt ws ns < b
  · have := hn _ ms c
    omega
  · omega
/-- within reach are the groups of those who are lighter than whoever is stuck -/
theorem near_light {x p : Int} {ws g : List Int} (h1 : ∀ w ∈ ws, 1 ≤ w) (x0 : 0 ≤ x) (hg : GrpI ws.length g) (hs : stk x ws = some p) : wt ws g ≤ rch x ws ↔ ∀ k ∈ g, wAt ws k < wAt ws p := by
  rcases rch_cases x ws with ⟨_, h, _⟩ | ⟨p', h, _, _, _, st, r, _⟩
  · rw [hs] at h; cases h
  · rw [hs] at h
    cases h
    rw [r]
    constructor
    · intro le k hk
      have : wAt ws k ≤ wt ws g := wt_mem h1 hg.1 hk
      omega
    · intro h
      exact wt_lite h1 hg h
/-- what the certificate from nobody is -/
theorem bar_gap {x : Int} {ws g : List Int} (h1 : ∀ w ∈ ws, 1 ≤ w) (hg : GrpI ws.length g) (hn : fewN x ws [] g = none) : ∃ p, gapL x (btw ws (wt ws []) (wt ws g)) = some p ∧ ¬ wt ws g ≤ wt ws [] := by
  unfold fewN at hn
  split at hn
  · cases hn
  · rename_i c
    have wp : 1 ≤ wt ws g := by
      have := wt_pos h1 hg.1
      have : 0 < g.length := List.length_pos_iff.mpr fun z => c z.symm
      omega
    rw [if_neg (by rw [wt_nil]; omega)] at hn
    unfold fewW at hn
    split at hn
    · rename_i c2
      obtain ⟨p, ep⟩ := Option.isSome_iff_exists.mp c2
      exact ⟨p, ep, by rw [wt_nil]; omega⟩
    · cases hn
end DL

/-! TQ: reach as a least fixed point; no fewer stones do. -/
namespace DL
open PySem PySem.Spec L2
/-- what all those weigh who are light enough with t ahead -/
def fixF (e : Int) (ws : List Int) (t : Int) : Int := (ws.filter fun w => decide (w ≤ e + t)).sum
theorem sum_filter_le {p q : Int → Bool} : ∀ {l : List Int}, (∀ w ∈ l, 0 ≤ w) → (∀ w ∈ l, p w = true → q w = true) → (l.filter p).sum ≤ (l.filter q).sum
  | [], _, _ => Int.le_refl _
  | w :: l, h, hpq => by
    have ih := sum_filter_le (p := p) (q := q) (l := l) (fun v hv => h v (List.mem_cons_of_mem _ hv)) fun v hv => hpq v (List.mem_cons_of_mem _ hv)
    have w0 := h w List.mem_cons_self
    by_cases c : p w = true
    · rw [List.filter_cons_of_pos c, List.filter_cons_of_pos (hpq w List.mem_cons_self c), List.sum_cons, List.sum_cons]
      omega
    · rw [List.filter_cons_of_neg c]
      by_cases d : q w = true
      · rw [List.filter_cons_of_pos d, List.sum_cons]; omega
      · rw [List.filter_cons_of_neg d]; exact ih
theorem rch_least {e : Int} {ws : List Int} (e0 : 0 ≤ e) (h1 : ∀ w ∈ ws, 1 ≤ w) {t : Int} (ht : fixF e ws t ≤ t) : rch e ws ≤ t := by
  -- whoever comes down is light enough with t ahead
  have h0 : ∀ w ∈ ws, 0 ≤ w := fun w hw => by have := h1 w hw; omega
  have main : ∀ (n : Nat) (v : Int), v ∈ ws → v ≤ n → (∀ u ∈ ws, u ≤ v → u ≤ e + lite ws u) → v ≤ e + t := by
    intro n
    induction n with
    | zero => intro v hv hn _; have := h1 v hv; omega
    | succ n ih =>
      intro v hv hn hu
      have hl : lite ws v ≤ fixF e ws t := sum_filter_le h0 fun u hm c => by
        have c := of_decide_eq_true c
        exact decide_eq_true (ih u hm (by omega) fun w hw le => hu w hw (by omega))
      have := hu v hv (Int.le_refl _)
      omega
  rcases rch_cases e ws with ⟨f, _, r⟩ | ⟨p, _, _, _, hm, st, r, low⟩
  · rw [r]
    have all : ∀ w ∈ ws, w ≤ e + t := fun w hw => main w.toNat w hw (by have := h1 w hw; omega) fun u hu _ => f u hu
    unfold fixF at ht
    rw [List.filter_eq_self.mpr fun w hw => decide_eq_true (all w hw)] at ht
    exact ht
  · rw [r]
    refine Int.le_trans (sum_filter_le h0 fun u hu c => ?_) ht
    have c := of_decide_eq_true c
    exact decide_eq_true (main u.toNat u hu (by have := h1 u hu; omega) fun v hv le => low v hv (by omega))
theorem fixF_app (e : Int) (as bs : List Int) (t : Int) : fixF e (as ++ bs) t = fixF e as t + fixF e bs t := by
  unfold fixF
  rw [List.filter_append, List.sum_append]
theorem fixF_le {e : Int} {ws : List Int} (h1 : ∀ w ∈ ws, 1 ≤ w) (t : Int) : fixF e ws t ≤ ws.sum := sum_filter fun w hw => by have := h1 w hw; omega
theorem fixF_zero {e : Int} {ws : List Int} {t : Int} (h : ∀ w ∈ ws, e + t < w) : fixF e ws t = 0 := by
  unfold fixF
  rw [List.filter_eq_nil_iff.mpr fun w hw => by have := h w hw; simp; omega]
  rfl
theorem fixF_perm {e : Int} {as bs : List Int} (p : as.Perm bs) (t : Int) : fixF e as t = fixF e bs t := sum_perm (p.filter _)
/-- the stones so far are not more, and not lighter, than those that do -/
def LeastI (V : List Int) (z : List Int × List Int) : Prop := z.2.length ≤ V.length ∧ ((srt V).take z.2.length).sum ≤ z.2.sum
theorem least_one [Amb] {e w : Int} {ws V dn rest : List Int} {z : List Int × List Int} (e1 : 1 ≤ e) (h1 : ∀ u ∈ ws, 1 ≤ u) (hV : ∀ v ∈ V, 1 ≤ v) (pm : ws.Perm (dn ++ w :: rest)) (up : ∀ u ∈ rest, w ≤ u) (hold : w ≤ rch e (ws ++ V)) (hz : z.1.sum = dn.sum + z.2.sum) (h : LeastI V z) (lt : e + z.1.sum < w) : LeastI V (z.1 ++ [e + z.1.sum], z.2 ++ [e + z.1.sum]) := by
  obtain ⟨hl, hs⟩ := h
  have h2 : ∀ u ∈ ws ++ V, 1 ≤ u := fun u hu => (List.mem_append.mp hu).elim (h1 u) (hV u)
  have pv := srt_perm V
  have hd : ∀ u ∈ dn, 1 ≤ u := fun u hu => h1 u (pm.mem_iff.mpr (List.mem_append_left _ hu))
  have sv : ∀ v ∈ srt V, 1 ≤ v := fun v hv => hV v (pv.mem_iff.mp hv)
  have ex : ∃ x ∈ (srt V).drop z.2.length, x ≤ e + z.1.sum := by
    refine Classical.byContradiction fun no => ?_
    have no : ∀ x ∈ (srt V).drop z.2.length, e + z.1.sum < x := fun x hx => by
      by_cases c : x ≤ e + z.1.sum
      · exact (no ⟨x, hx, c⟩).elim
      · omega
    have a : fixF e ws z.1.sum ≤ dn.sum := by
      rw [fixF_perm pm, fixF_app, fixF_zero (ws := w :: rest) fun u hu => by
        rcases List.mem_cons.mp hu with y | y
        · omega
        · have := up u y; omega]
      have := fixF_le (e := e) hd z.1.sum
      omega
    have b : fixF e V z.1.sum ≤ ((srt V).take z.2.length).sum := by
      rw [← fixF_perm pv]
      conv => lhs; rw [← List.take_append_drop z.2.length (srt V)]
      rw [fixF_app, fixF_zero no]
      have := fixF_le (e := e) (ws := (srt V).take z.2.length) (fun v hv => sv v (List.mem_of_mem_take hv)) z.1.sum
      omega
    have := rch_least (e := e) (ws := ws ++ V) (by omega) h2 (t := z.1.sum) (by rw [fixF_app]; omega)
    omega
  obtain ⟨x, hx, le⟩ := ex
  have lv : (srt V).length = V.length := pv.length_eq
  have jl : z.2.length < (srt V).length := by
    by_cases c : z.2.length < (srt V).length
    · exact c
    · rw [List.drop_eq_nil_iff.mpr (by omega)] at hx
      cases hx
  have first : (srt V)[z.2.length] ≤ x := by
    rw [List.drop_eq_getElem_cons jl] at hx
    have sd : ((srt V)[z.2.length] :: (srt V).drop (z.2.length + 1)).Pairwise (· ≤ ·) := by
      rw [← List.drop_eq_getElem_cons jl]
      exact (srt_le V).drop
    rcases List.mem_cons.mp hx with y | y
    · omega
    · exact (List.pairwise_cons.mp sd).1 x y
  refine ⟨by show (z.2 ++ _).length ≤ _; rw [List.length_append]; show _ + 1 ≤ _; omega, ?_⟩
  show ((srt V).take (z.2 ++ [e + z.1.sum]).length).sum ≤ (z.2 ++ [e + z.1.sum]).sum
  rw [List.length_append, sum_snoc, show z.2.length + [e + z.1.sum].length = z.2.length + 1 from rfl, List.take_succ, List.getElem?_eq_getElem jl]
  show ((srt V).take z.2.length ++ [(srt V)[z.2.length]]).sum ≤ _
  rw [sum_snoc]
  omega
theorem least_stB [Amb] {e w : Int} {ws V dn rest : List Int} (e1 : 1 ≤ e) (h1 : ∀ u ∈ ws, 1 ≤ u) (hV : ∀ v ∈ V, 1 ≤ v) (pm : ws.Perm (dn ++ w :: rest)) (up : ∀ u ∈ rest, w ≤ u) (hold : w ≤ rch e (ws ++ V)) : ∀ (n : Nat) (z : List Int × List Int), z.1.sum = dn.sum + z.2.sum → LeastI V z → (stB e w n z).1.sum = dn.sum + (stB e w n z).2.sum ∧ LeastI V (stB e w n z)
  | 0, z, hz, h => ⟨hz, h⟩
  | n + 1, z, hz, h => by
    unfold stB
    split
    · rename_i c
      exact least_stB e1 h1 hV pm up hold n _ (by show (z.1 ++ _).sum = dn.sum + (z.2 ++ _).sum; rw [sum_snoc, sum_snoc]; omega) (least_one e1 h1 hV pm up hold hz h c)
    · exact ⟨hz, h⟩
theorem least_fold {e : Int} {ws V : List Int} (e1 : 1 ≤ e) (h1 : ∀ u ∈ ws, 1 ≤ u) (hV : ∀ v ∈ V, 1 ≤ v) (hold : ∀ w ∈ ws, w ≤ rch e (ws ++ V)) : ∀ (l dn : List Int) (z : List Int × List Int), ws.Perm (dn ++ l) → l.Pairwise (· ≤ ·) → z.1.sum = dn.sum + z.2.sum → LeastI V z → LeastI V (l.foldl (stW e) z)
  | [], _, _, _, _, _, h => h
  | w :: l, dn, z, pm, hs, hz, h => by
    have hs' := List.pairwise_cons.mp hs
    obtain ⟨a, b⟩ := least_stB e1 h1 hV pm hs'.1 (hold w (pm.mem_iff.mpr (by simp))) 21 z hz h
    rw [List.foldl_cons]
    refine least_fold e1 h1 hV hold l (dn ++ [w]) _ (by rw [List.append_assoc]; exact pm) hs'.2 ?_ b
    show ((stB e w 21 z).1 ++ [w]).sum = (dn ++ [w]).sum + _
    rw [sum_snoc, sum_snoc, a]
    show _ = dn.sum + w + (stB e w 21 z).2.sum
    omega
/-- no fewer stones do -/
theorem stones_least {e : Int} {ws V : List Int} (e1 : 1 ≤ e) (h1 : ∀ u ∈ ws, 1 ≤ u) (hV : ∀ v ∈ V, 1 ≤ v) (hold : ∀ w ∈ ws, w ≤ rch e (ws ++ V)) : (stonesOf e (srt ws)).length ≤ V.length :=
  (least_fold e1 h1 hV hold (srt ws) [] ([], []) (srt_perm ws).symm (srt_le ws) rfl ⟨Nat.zero_le _, Int.le_refl _⟩).1
end DL

/-! TU: a list that is extended by an owned one; max of a tuple of numbers. -/
namespace DL
open PySem PySem.Spec L2 PyProof.Rows PySem.W
section
variable {prog : Program} {w : World} {A : Around} {E : Value → Shared → Prop} {s : Shared} {l : Addr} {xs : Array (Int × Tok)}
end
/-- max(xs) of a tuple of numbers -/
def rMaxT (K : PySem.W.Frag) : List V → Hp → VK → Prop := fun vs H Q => ∃ (a : Addr) (ns : List Int), vs = [V.ref a] ∧ SqT K H a (ns.map V.int) ∧ 0 < ns.length ∧ ∀ m, m ∈ ns → (∀ y, y ∈ ns → y ≤ m) → Q (.int m) H
def dMaxT : DOn := fun xs ω Q => ∃ ns : List Int, xs = [.tup (ns.map D.int)] ∧ 0 < ns.length ∧ ∀ m, m ∈ ns → (∀ y, y ∈ ns → y ≤ m) → Q (.int m) ω
section
variable {X : Cx} {a e : Expr} {Ta Te : TD} {ρ : Rho} {ω : Om} {Q : DQ}
/-- xs.extend(e), both owned -/
def dExtO (Ta Te : TD) : TD := fun ρ ω Q => Ta ρ ω fun x ω1 => ∃ p, x = .raw (.ref p) ∧ (∃ xs, ω1 p = some (.lst xs)) ∧ Te ρ ω1 fun y ω2 => ∃ q xs ys, y = .raw (.ref q) ∧ ω2 p = some (.lst xs) ∧ ω2 q = some (.lst ys) ∧ xs.length + ys.length ≤ sizeLine ∧ Q .non (oset ω2 p (.lst (xs ++ ys)))
theorem st_extO (h : Ta ρ ω fun x ω1 => ∃ p, x = .raw (.ref p) ∧ (∃ xs, ω1 p = some (.lst xs)) ∧ Te ρ ω1 fun y ω2 => ∃ q xs ys, y = .raw (.ref q) ∧ ω2 p = some (.lst xs) ∧ ω2 q = some (.lst ys) ∧ xs.length + ys.length ≤ sizeLine ∧ Q .non (oset ω2 p (.lst (xs ++ ys)))) : dExtO Ta Te ρ ω Q := h
variable {T : TAD} {QI : List D → (Om → Prop) → Om → Prop}
theorem st_rng2 (h : T ρ ω fun xs ω1 => ∃ m n : Int, xs = [.int m, .int n] ∧ (-(2 ^ 62) ≤ m ∧ m < 2 ^ 62 ∧ -(2 ^ 62) ≤ n ∧ n < 2 ^ 62) ∧ QI (rngD m (n - m).toNat) (fun _ => True) ω1) : dRng2 T ρ ω QI := h
end
end DL

/-! XE: errors over data: their way out, defs that let them out, calls of such defs. -/
namespace DL
open PySem PySem.Spec L2 PyProof.Rows PySem.W
/-- where the classes of errors lie, by their names -/
class Ers where
  ad : Str → Addr
/-- an error's fields, where it has a dict of its own -/
abbrev XF := Option (List (Str × D))
/-- an error's way out: its class by name, its fields, what is owned -/
abbrev DXQ := Str → XF → Om → Prop
/-- the same with the slots -/
abbrev DXS := Str → XF → Rho → Om → Prop
def noS (RX : DXQ) : DXS := fun x fs _ ω => RX x fs ω
def noW (E : XK) : WX := fun c d _ H => E c d H
section
variable [Ers] {K : PySem.W.Frag} {h : Fp} {H : Hp} {ω : Om} {R : DQ} {Q : VK} {RX : DXS} {W : WX}
/-- how an error's fields lie -/
def XAt (K : PySem.W.Frag) (f : Fp) (H : Hp) (fs : XF) (d : Option Addr) (H2 : Hp) : Prop := (fs = none ∧ d = none ∧ H2 = H) ∨ ∃ l dd fvs, fs = some l ∧ d = some dd ∧ H dd = none ∧ RpFs K f H l fvs ∧ H2 = upd H dd (.xd fvs)
theorem XAt.keep {f f' : Fp} {fs d H2} (k : Kp H f H f') : XAt K f H fs d H2 → XAt K f' H fs d H2
  | .inl z => .inl z
  | .inr ⟨l, dd, fvs, a, b, c, r, e⟩ => .inr ⟨l, dd, fvs, a, b, c, r.keep k, e⟩
def CntXS (K : PySem.W.Frag) (h : Fp) (H : Hp) (ω : Om) (RX : DXS) (W : WX) : Prop := ∀ (x : Str) (fs : XF) (ρ' : Rho) (σ' : L2.St) (ω' : Om) (H' : Hp) (d : Option Addr) (H2 : Hp), RX x fs ρ' ω' → Fr H ω H' ω' → @Wd amb0 K h H' ω' → Sl K (fre ω' h) H' σ' ρ' → XAt K (fre ω' h) H' fs d H2 → W (.ref (Ers.ad x)) d σ' H2
def CntX (K : PySem.W.Frag) (h : Fp) (H : Hp) (ω : Om) (RX : DXQ) (E : XK) : Prop := ∀ (x : Str) (fs : XF) (ω' : Om) (H' : Hp) (d : Option Addr) (H2 : Hp), RX x fs ω' → Fr H ω H' ω' → @Wd amb0 K h H' ω' → XAt K (fre ω' h) H' fs d H2 → E (.ref (Ers.ad x)) d H2
theorem CntX.s {RX : DXQ} {E : XK} (k : CntX K h H ω RX E) : CntXS K h H ω (noS RX) (noW E) := fun x fs _ _ ω' H' d H2 r f w _ z => k x fs ω' H' d H2 r f w z
/-- an ambient in which errors may be let out -/
class AmbX (K : PySem.W.Frag) (W : WX) (RX : DXS) extends Amb where
  out : ∀ {h : Fp} {H : Hp} {ω : Om} {x : Str} {fs : XF} {ρ : Rho} {σ : L2.St} {d : Option Addr} {H2 : Hp}, G h H ω → RX x fs ρ ω → @Wd amb0 K h H ω → Sl K (fre ω h) H σ ρ → XAt K (fre ω h) H fs d H2 → W (.ref (Ers.ad x)) d σ H2
/-- nothing is let out -/
instance (priority := low) ambF {K : PySem.W.Frag} : AmbX K (fun _ _ _ _ => False) (fun _ _ _ _ => False) := { amb0 with out := fun _ z => z.elim }
theorem fre_sub {h h0 : Fp} (s : ∀ b, h b → h0 b) : Kp H (fre ω h) H (fre ω h0) := fun b o x y => ⟨y, x.1, s b x.2⟩
theorem Wd.wide {h h0 : Fp} (s : ∀ b, h b → h0 b) (w : @Wd amb0 K h H ω) : @Wd amb0 K h0 H ω :=
  @Wd.mk amb0 _ _ _ _ (fun a c x => (@Wd.cell amb0 _ _ _ _ w a c x).keep rfl (fre_sub s)) (fun b x => s b (@Wd.open_ amb0 _ _ _ _ w b x)) (fun b vs n x => s b (@Wd.tup_ amb0 _ _ _ _ w b vs n x)) trivial
/-- the ambient of a body that starts at h0, H0, ω0 -/
@[reducible] def ambX {h0 : Fp} {H0 : Hp} {ω0 : Om} (k : CntXS K h0 H0 ω0 RX W) : AmbX K W RX where
  G h H ω := Fr H0 ω0 H ω ∧ ∀ b, h b → h0 b
  N p := h0 p ∧ (H0 p = none ∨ ω0 p ≠ none)
  mono g f := ⟨g.1.trans f, g.2⟩
  new {h H ω p} g e n := ⟨g.2 p n, by
    cases z : H0 p with
    | none => exact .inl rfl
    | some o =>
      refine .inr fun y => ?_
      have := (g.1 p o y z).1
      rw [e] at this
      cases this⟩
  hide g := ⟨g.1, fun b x => g.2 b x.1⟩
  show_ {h H ω p} n g := ⟨g.1, fun b x => by
    by_cases c : b = p
    · rw [c]; exact n.1
    · exact g.2 b ⟨x, c⟩⟩
  put {h H ω p o} n g := ⟨fun b u x y => by
    have c : b ≠ p := fun z => by
      rcases n.2 with q | q
      · rw [← z, y] at q; cases q
      · exact q (z ▸ x)
    rw [upd_ne c]
    exact g.1 b u x y, g.2⟩
  own {h H ω p c} n g := ⟨fun b u x y => by
    have d : b ≠ p := fun z => by
      rcases n.2 with q | q
      · rw [← z, y] at q; cases q
      · exact q (z ▸ x)
    rw [oset_ne d]
    exact g.1 b u x y, g.2⟩
  out {h H ω x fs ρ σ d H2} g r w sl z := k x fs ρ σ ω H d H2 r g.1 (w.wide g.2) (sl.keep (fre_sub g.2)) (z.keep (fre_sub g.2))
theorem ambX_start {h0 : Fp} {H0 : Hp} {ω0 : Om} (k : CntXS K h0 H0 ω0 RX W) (w : @Wd amb0 K h0 H0 ω0) : @Wd (ambX k).toAmb K h0 H0 ω0 := by
  letI := (ambX k).toAmb
  exact Wd.lift w ⟨Fr.refl, fun _ x => x⟩
abbrev SpDX := List D → Om → DQ → DXQ → Prop
def spUX (K : PySem.W.Frag) (S : SpDX) : Sp := fun vs H Q E => ∃ h ds ω R RX, RpAll K (fre ω h) H ds vs ∧ @Wd amb0 K h H ω ∧ S ds ω R RX ∧ @Cnt K amb0 h H ω R Q ∧ CntX K h H ω RX E
end
section
variable [Ers] {X : Cx} {W : WX} {RX : DXS} {x : Str} {p pos : Pos} {e : Expr} {es : List Expr} {T : TAD}
/-- a call, the errors taken with the very slots -/
theorem pe_callGS {k : Nat} {f : Addr} {fd : FuncData} {ps : List Str} {sp : Sp} {t : TA} (F : FnG X.prog X.w X.K X.mg X.base (L2.CX X.prog X.w) k f fd ps sp) (hr : Room k X.A) (gd : X.A.guards = some []) (hg : Gl X x) (hm : X.mg x = some (.ref f)) (hk : PySem.W.keepIn X.K (.ref f) = true)
    (hb : Binds X.K fd ps []) (tk : Takes X W) (ha : PA X (e :: es) t) (hdb : (x == ("__debug__" : Str)) = false := by decide)
    (e1 : starEach (e :: es) X.env = (false, eval e X.env) :: starEach es X.env := by rfl) (e2 : (backTo pos (starEach es X.env)).any (·.1) = false := by rfl) :
    PE X (.Call (.Name x p) (e :: es) [] pos) (fun σ H Q => t σ H fun vs H1 => sp (vs ++ []) H1 Q fun c d H2 => W c d σ H2) := by
  constructor
  intro pins s σ hp q I h
  refine wpAny_Call_Name_kw (ld_glob I hg hm ?_ hdb)
  refine PySem.W.callWith_K (h₀ := X.base) I.ok.mod.kin hk (thn (ha.run pos pins s σ hp _ I h) fun us s1 ⟨vs, hp1, I1, r, z⟩ => ⟨I1.kIn, ?_⟩) e1 e2
  have rr : Vals (vs ++ []) (us ++ []) := r.append .nil
  have ll : (us ++ []).length = ps.length := by rw [← rr.length]; exact F.arity _ _ _ _ z
  refine wpAny_call (codeAny_mono (F.goes X.A X.stack s1 hp1 ⟨us, []⟩ _ _ q _ hr gd I1.env0 (hb s1 us I1.kIn ll) rr z) fun res s' y => ?_)
  match res, y with
  | .error er, y => exact tk er s' (XE.of_call I1 (fun _ _ _ y => y) y)
  | .ok (.ret u), y => exact I1.after y
def dCallX (S : SpDX) (RX : DXS) (T : TAD) : TD := fun ρ ω Q => T ρ ω fun xs ω1 => S xs ω1 Q fun y fs ω2 => RX y fs ρ ω2
end
/-- a def that may let errors out, by its body over data -/
theorem FnG.ofX [Ers] {P : Program} {w : World} {K : PySem.W.Frag} {mg : Str → Option Value} {base : Heap} {k : Nat} {x qual : Str} {st : Stmt} {f : Addr} {fd : FuncData} {N ps : List Str} {S : SpDX} {T : DXS → TSD}
    (F : Fun K x qual st f fd) (sc : FnScope N ps (defScope st)) (ar : ∀ ds ω R RX, S ds ω R RX → ds.length = ps.length)
    (b : ∀ (cdv : Value) (A : Around) (fs : List Env) (s : Shared) (hp : Hp) (e : XK) (RX : DXS) [AmbX K (noW e) RX], Room k (A.deeper (PyProof.Rows.envOfC qual (defScope st) s.heap.objs.size f cdv)) → A.guards = some [] →
      DSs (cxOf (L2.CX P w) P w K mg base N qual (defScope st) f cdv A fs s hp e) (defBody st) (T RX))
    (rd : ∀ ds ω R RX, S ds ω R RX → T (noS RX) { nx := fun _ ω' => R .non ω', rt := R } (startD N ds) ω) : FnG P w K mg base (L2.CX P w) (k + 1) f fd ps (spUX K S) := by
  refine FnG.body F sc (fun vs H Q e ⟨h, ds, ω, R, RX, r, _, s, _⟩ => by rw [← r.len]; exact ar ds ω R RX s) fun cdv A fs s hp vs q e room gd ⟨h, ds, ω, R, RX, r, w, sp, k, kx⟩ => ?_
  letI := ambX kx.s
  refine ⟨_, b cdv A fs s hp e (noS RX) room gd, h, startD N ds, ω, _, Sl.start r, ambX_start kx.s w, rd ds ω R RX sp, ?_, ?_, ?_, ?_⟩
  · exact fun ρ' ω' σ' H' z f' w' _ => k .non ω' .non H' z f' w'.drop .non
  · exact fun d ω' v H' z f' w' rp => k d ω' v H' z f' w'.drop rp
  · exact fun _ _ _ _ z => z.elim
  · exact fun _ _ _ _ z => z.elim
end DL

/-! XR: raise C(e), C a class of errors whose __init__ keeps one field. -/
namespace DL
open PySem PySem.Spec L2 PyProof.Rows PySem.W
variable [Ers]
def sp1 (C : Addr) (f : Str) : Sp := fun vs H Q _ => ∃ a v, vs = [.ref a, v] ∧ H a = some (exo a C none) ∧ ∀ dx, H dx = none → dx ≠ a → Q .non (upd (upd H dx (exd dx [(f, v)])) a (exo a C (some dx)))
theorem init_one {P : Program} {w : World} {K : PySem.W.Frag} {mg : Str → Option Value} {base : Heap} {C fI : Addr} {qual f v : Str} {st : Stmt} {fd : FuncData} {p1 p2 p3 p4 : Pos} {k : Nat} (T : OexC K C) (hno : PySem.W.findIn K (.ref C) f = some none)
    (F : Fun K "__init__" qual st fI fd) (sc : FnScope ["self", v] ["self", v] (defScope st)) (hb : defBody st = [.Assign [.Attribute (.Name "self" p1) f p2] (.Name v p3) p4]) (vs : Vis (defScope st) "self") (vv : Vis (defScope st) v)
    (hd : (v == ("__debug__" : Str)) = false) (hcd : (v == ("__classdict__" : Str)) = false)
    (hs : ∀ env : Env, swapsWith (.Name v p3) (some (.Attribute (.Name "self" p1) f p2)) p4.line env = pure false) : FnOk P w K mg base (L2.CX P w) (k + 1) fI fd ["self", v] (sp1 C f) := by
  refine F.okX sc (fun vs H Q E ⟨a, v, e, _⟩ => by rw [e]; rfl) fun cdv A outer s H us Q E hr ⟨a, u, e, ha, q⟩ => ?_
  subst e
  rw [hb]
  refine ⟨_, pss_one (ps_ost (pe_var (i := 0) rfl vs) (pe_var (i := 1) rfl vv hd hcd) (hs _)), ?_⟩
  exact ⟨u, rfl, .ref a, rfl, a, C, rfl, T, hno, .inl ⟨ha, fun dx n ne => q dx n ne⟩⟩
theorem mk_one {C : Addr} {f : Str} {v : V} {H1 : Hp} {Q : XK} (q : ∀ d, H1 d = none → Q (.ref C) (some d) (upd H1 d (.xd [(f, v)]))) : [v].length ≤ 1000 ∧ ∀ a, H1 a = none → sp1 C f (.ref a :: ([v] ++ [])) (upd H1 a (exo a C none))
    (fun u H2 => u = .non ∧ ∃ (d : Addr) (fs : List (Str × V)), H2 a = some (exo a C (some d)) ∧ H2 d = some (exd d fs) ∧ H1 d = none ∧ Q (.ref C) (some d) (upd (del H2 a) d (.xd fs))) (fun _ _ _ => False) := by
  refine ⟨by show 1 ≤ 1000; decide, fun a ha => ⟨a, v, rfl, upd_same, fun dx hn ne => ⟨rfl, dx, [(f, v)], upd_same, by rw [upd_ne ne, upd_same], by rw [upd_ne ne] at hn; exact hn, ?_⟩⟩⟩
  rw [upd_ne ne] at hn
  have e : upd (del (upd (upd (upd H1 a (exo a C none)) dx (exd dx [(f, v)])) a (exo a C (some dx))) a) dx (.xd [(f, v)]) = upd H1 dx (.xd [(f, v)]) := by
    funext b
    by_cases b1 : b = dx
    · rw [b1, upd_same, upd_same]
    · rw [upd_ne b1, upd_ne b1]
      by_cases b2 : b = a
      · rw [b2, del_same, ha]
      · rw [del_ne b2, upd_ne b2, upd_ne b1, upd_ne b2]
  rw [e]
  exact q dx hn
/-- raise C(e) -/
def dRaise (x f : Str) (Te : TD) (RX : DXS) : TSD := fun _ ρ ω => Te ρ ω fun d ω1 => RX x (some [(f, d)]) ρ ω1
/-- what a raise of x(e) leans on -/
structure ErrD (P : Program) (w : World) (K : PySem.W.Frag) (mg : Str → Option Value) (base : Heap) (k : Nat) (x f : Str) : Prop where
  oc : OexC K (Ers.ad x)
  gm : mg x = some (.ref (Ers.ad x))
  ini : ∃ fI fd v, PySem.W.findIn K (.ref (Ers.ad x)) "__init__" = some (some (.ref fI)) ∧ PySem.W.typeIn K (.ref fI) = some (.type "function") ∧ FnOk P w K mg base (L2.CX P w) k fI fd ["self", v] (sp1 (Ers.ad x) f) ∧ Binds K fd ["self", v] []
theorem ds_raise1 {X : Cx} {W : WX} {RX : DXS} [I0 : AmbX X.K W RX] {x f : Str} {k : Nat} {e : Expr} {Te : TD} {p pos pos2 : Pos} (hc : X.calm = true) (tk : Takes X W) (T : ErrD X.prog X.w X.K X.mg X.base k x f) (hr : Room (k + 1) X.A) (hg : Gl X x) (ha : DE X e Te)
    (hdb : (x == ("__debug__" : Str)) = false := by decide) (he : starEach (e :: []) X.env = (false, eval e X.env) :: starEach [] X.env := by rfl) (hpl : (backTo pos (starEach [] X.env)).any (·.1) = false := by rfl) :
    DS X (.Raise (some (.Call (.Name x p) [e] [] pos)) none pos2) (dRaise x f Te RX) := by
  obtain ⟨oc, hm, fI, fd, v, iC, tI, F1, hb⟩ := T
  refine PS.weak (ps_raise hc tk (pmk_oex oc iC tI F1 hr hb .nil passL hg hm (pa_cons ha pa_nil he) hdb he hpl)) fun D σ H ⟨h, ρ, ω, en, sl, w, t, _⟩ => ?_
  refine ⟨h, ρ, ω, _, sl, w, t, fun d ω1 u H1 t1 f1 w1 r1 => ?_⟩
  exact mk_one (C := Ers.ad x) (f := f) (v := u) (Q := fun c d H2 => W c d σ H2) fun dd hn => AmbX.out w1.amb t1 w1.drop (sl.keep f1.kp) (.inr ⟨_, dd, _, rfl, rfl, hn, .cons r1 .nil, rfl⟩)
end DL

/-! XT: try over data; what a suite asks of the error that it holds. -/
namespace DL
open PySem PySem.Spec L2 PyProof.Rows PySem.W
/-! ### the classes of errors, by their names -/
def lookNs : List Str := ["LookupError", "NoPlace", "NoPerson", "NoVersion"]
/-- whether the class x is y or derives from it -/
def subB (x y : Str) : Bool := x == y || (y == "LookupError" && lookNs.contains x) || ((y == "RopeError" || y == "ValueError") && !lookNs.contains x)
def blt (y : Str) : Bool := y == "LookupError" || y == "ValueError"
variable [Ers]
def clsU (y : Str) : Value := if blt y = true then .type y.toString else .ref (Ers.ad y)
def clsV (y : Str) : V := if blt y = true then .ty y.toString else .ref (Ers.ad y)
def clsD (y : Str) : D := .raw (clsV y)
/-- what the written part says of one class -/
structure ErrC (K : PySem.W.Frag) (C : Addr) : Prop where
  cl : (clsIn K C).isSome = true
  ga : findIn K (.ref C) "__getattribute__" = some (some (.builtin "BaseException.__getattribute__"))
  gg : findIn K (.ref C) "__getattr__" = some none
  sb : subIn K (.ref C) (.type "BaseException") = some true
  hd : hasDictIn K C = true
  cs : findIn K (.ref C) "__class__" = some (some (.builtin "object.__class__"))
  sp : specialIn K (.builtin "object.__class__") "__get__" = some (some (.builtin "getset_descriptor.__get__"))
  tk : takesIn K (.builtin "object.__class__") = some true
  mr : mroIn K C (.type "object") = some true
/-- what the written part says of the errors' classes x, of the classes y that are asked of them, and of the fields f -/
structure ErsK (K : PySem.W.Frag) (prs : List (Str × Str)) (fls : List Str) : Prop where
  ex : ∀ x y, (x, y) ∈ prs → exmOne K (.ref (Ers.ad x)) (clsU y) = some (subB x y)
  ki : ∀ x y, (x, y) ∈ prs → kitOne K (.ref (Ers.ad x)) (clsU y) = some (subB x y)
  cl : ∀ x y, (x, y) ∈ prs → ErrC K (Ers.ad x)
  no : ∀ x y f, (x, y) ∈ prs → f ∈ fls → findIn K (.ref (Ers.ad x)) f = some none
theorem ErrC.ex {K : PySem.W.Frag} {C : Addr} (T : ErrC K C) : ExcC K C := ⟨T.ga, T.gg, T.sb, T.hd, T.cs, T.sp, T.tk, T.mr⟩
/-- how an error's fields are owned in the suite -/
def XPut (ω : Om) (fs : XF) (d : Option Addr) (ω2 : Om) : Prop := (fs = none ∧ d = none ∧ ω2 = ω) ∨ ∃ l dd, fs = some l ∧ d = some dd ∧ ω dd = none ∧ ω2 = oset ω dd (.xd l)
/-- the clause's name goes -/
def dGone (i : Nat) (E : DEnds) : DEnds := { nx := fun ρ ω => E.nx (ρ.set i none) ω, rt := E.rt, bk := fun ρ ω => E.bk (ρ.set i none) ω, ct := fun ρ ω => E.ct (ρ.set i none) ω }
/-- the errors of a try's body: Ts x a d, the suite of an error of the class x at a with its dict at d -/
def dCatch (prs : List (Str × Str)) (c : Str) (i : Nat) (Ts : Str → Addr → Option Addr → TSD) (RXo : DXS) (E : DEnds) : DXS := fun x fs ρ ω => (x, c) ∈ prs ∧
  (subB x c = true → ∀ a d ω2, XPut ω fs d ω2 → Ts x a d (dGone i E) (ρ.set i (some (.raw (.ref a)))) ω2) ∧ (subB x c = false → RXo x fs ρ ω)
def dTry (prs : List (Str × Str)) (c : Str) (i : Nat) (Tb : DXS → TSD) (Ts : Str → Addr → Option Addr → TSD) (RXo : DXS) : TSD := fun E ρ ω => Tb (dCatch prs c i Ts RXo E) E ρ ω
section
variable {K : PySem.W.Frag} {h : Fp} {H H' H2 : Hp} {ω ω' : Om} {prs : List (Str × Str)} {fls : List Str} {c : Str} {i : Nat} {Ts : Str → Addr → Option Addr → TSD} {RXo : DXS} {Wout : WX}
theorem XAt.own (w : @Wd amb0 K h H ω) {fs : XF} {d : Option Addr} (z : XAt K (fre ω h) H fs d H2) : ∃ ω2, XPut ω fs d ω2 ∧ Fr H ω H2 ω2 ∧ @Wd amb0 K h H2 ω2 := by
  rcases z with ⟨e1, e2, e3⟩ | ⟨l, dd, fvs, e1, e2, n, r, e3⟩
  · subst e3
    exact ⟨ω, .inl ⟨e1, e2, rfl⟩, Fr.refl, w⟩
  · subst e3
    have n2 := @Wd.fresh _ _ _ _ amb0 w dd n
    refine ⟨oset ω dd (.xd l), .inr ⟨l, dd, e1, e2, n2, rfl⟩, Fr.own n, @Wd.own _ _ _ _ amb0 w dd _ _ n fun H' f' k e => ⟨fvs, e, r.keep k⟩⟩
/-- what the clause does with the errors, at the heap -/
def tsOf [Amb] (K : PySem.W.Frag) (prs : List (Str × Str)) (c : Str) (Ts : Str → Addr → Option Addr → TSD) : Addr → Value → Option Addr → TS := fun a cls d D σ H => ∃ x, cls = .ref (Ers.ad x) ∧ (x, c) ∈ prs ∧ upS K (Ts x a d) D σ H
end
section
variable {X : Cx} {Wout : WX} {RXo : DXS} {x n c : Str} {i : Nat} {body suite : List Stmt} {b₀ : Stmt} {np pos pos' : Pos} {prs : List (Str × Str)} {fls : List Str} {Tb : DXS → TSD} {Ts : Str → Addr → Option Addr → TSD}
end
/-! ### what a suite asks of its error -/
/-- isinstance(e, y) and isinstance(e, (y, ..)), e an error of the class x at a, its dict at d -/
def isOf (x : Str) (ys : List Str) : Bool := ys.any fun y => subB x y
def dIsX (prs : List (Str × Str)) (x : Str) (a : Addr) (d : Option Addr) : DOn := fun xs ω R => ∃ c ys, xs = [.raw (.ref a), c] ∧ (∀ y ∈ ys, (x, y) ∈ prs) ∧ ((∃ y, c = clsD y ∧ ys = [y]) ∨ c = .tup (ys.map clsD)) ∧ (∀ dd, d = some dd → ∃ l, ω dd = some (.xd l)) ∧ R (.bl (isOf x ys)) ω
def rIsX (K : PySem.W.Frag) (C a : Addr) (d : Option Addr) : List V → Hp → VK → Prop := fun xs H Q => ∃ (c : V) (b : Bool), xs = [.ref a, c] ∧ (∀ dd, d = some dd → ∃ fs, H dd = some (.xd fs)) ∧ Q (.bl b) H ∧
  ((∃ cv, (∀ u, RelV c u → u = cv) ∧ kitOne K (.ref C) cv = some b) ∨ ∃ (tp : Addr) (cs : List V) (cvs : List Value), c = .ref tp ∧ H tp = some (.tup cs) ∧ (∀ us, Vals cs us → us = cvs) ∧ kitAny K (.ref C) cvs = some b)
/-- e.f, e the error that the suite holds -/
def dXf (a : Addr) (d : Option Addr) (f : Str) (Te : TD) : TD := fun ρ ω Q => Te ρ ω fun x ω1 => x = .raw (.ref a) ∧ ∃ dd l v, d = some dd ∧ ω1 dd = some (.xd l) ∧ l.lookup f = some v ∧ Q v ω1
theorem RpFs.look {K : PySem.W.Frag} {f : Fp} {H : Hp} {k : Str} : ∀ {ds : List (Str × D)} {vs : List (Str × V)}, RpFs K f H ds vs → ∀ {d : D}, ds.lookup k = some d → ∃ v, vs.lookup k = some v ∧ Rp K f H d v
  | _, _, .nil, _, e => nomatch e
  | (k', _) :: _, _, .cons r t, d, e => by
    rw [List.lookup_cons] at e ⊢
    cases y : k == k' with
    | true => rw [y] at e; cases e; exact ⟨_, rfl, r⟩
    | false => rw [y] at e; exact t.look e
end DL

/-! XL: x(lambda: body), the lambda's table told, and what its body lets out. -/
namespace DL
open PySem PySem.Spec L2 PyProof.Rows PySem.W LamX LK
section
variable {X : Cx} {Ng : List Str} {sg : Scope} {x a : Str} {g : Addr} {cdg : Value}
/-- the def that got the lambda -/
abbrev lamG (X : Cx) (Ng : List Str) (x : Str) (sg : Scope) (g : Addr) (cdg : Value) (s : Shared) (H : Hp) : Cx := cxOf C8.CX0 X.prog X.w X.K X.mg X.base Ng x sg g cdg X.A X.stack s H C8.E0
abbrev lamA (X : Cx) (x : Str) (sg : Scope) (g : Addr) (cdg : Value) (s : Shared) : Around := X.A.deeper (PyProof.Rows.envOfC x sg s.heap.objs.size g cdg)
/-- a() in that def: the very slots of the moment are told to whoever takes the errors -/
theorem pe_actS {k : Nat} {f c' : Addr} {pm ctv : Value} {params : Arguments} {body : Expr} {scope : Scope} {pn pins : List (Addr × Obj)} {xe : Value → Shared → Prop} {W : WX} {tb : XK → TE} {p1 p2 : Pos} {σ : L2.St} {H : Hp} {s : Shared}
    (I : Inv X pins σ H s) (L : LamS X.env.scope scope) (at0 : s.heap.get? f = some (kla_obj "<lambda>" (X.env.qual ++ "<lambda>") params body scope (cloFrom X.env.cells scope.names []) pm c' ctv)) (nf : H f = none) (far : f ∉ frs X.stack)
    (bnd : bindArgs (kla_fn "<lambda>" (X.env.qual ++ "<lambda>") params body scope (cloFrom X.env.cells scope.names []) pm (.ref c') ctv) ⟨[], []⟩ = pure []) (tk : Takes ((lamG X Ng x sg g cdg s H).tr pn xe) W) (room : Room (k + 1) (lamA X x sg g cdg s))
    (ok : ∀ (E : XK) (s1 : Shared) (H1 : Hp), Room k ((lamA X x sg g cdg s).deeper (lamEnv X scope s1.heap.objs.size f c')) → PE (lamCx X (lamA X x sg g cdg s) (PyProof.Rows.envOfC x sg s.heap.objs.size g cdg :: X.stack) s1 H1 E scope f c') body (tb E))
    (hN : Ng[0]? = some a) (hv : Vis sg a) (hd : (a == ("__debug__" : Str)) = false) (hcd : (a == ("__classdict__" : Str)) = false) :
    PE ((lamG X Ng x sg g cdg s H).tr pn xe) (.Call (.Name a p1) [] [] p2) (fun σZ HZ Q => σZ[0]? = some (some (.ref f)) ∧ HZ c' = some (CodeO c' (X.env.qual ++ "<lambda>")) ∧ tb (fun c d H2 => W c d σZ H2) σ HZ Q) := by
  constructor
  rintro pinsZ sZ σZ HZ Q IZ ⟨slot, hc, ht⟩
  have nm := (pe_var (X := (lamG X Ng x sg g cdg s H).tr pn xe) (pos := p1) (i := 0) hN hv hd hcd).run pinsZ sZ σZ HZ (fun v G => v = .ref f ∧ G = HZ) IZ ⟨_, slot, rfl, rfl⟩
  refine wpAny_Call_Name_kw (thn nm ?_)
  rintro u s1 ⟨v, G, J, rv, ev, eG⟩
  subst ev eG
  cases rv
  have here := J.base.keep f _ at0 nf far fun z => nomatch (show f ∈ ([] : List Addr) from z)
  refine callWith_F0 ⟨_, _, _, _, here⟩ ?_
  obtain ⟨⟨oc, vs, t, o1, o2, o3⟩, _, _⟩ := J.hok c' _ hc
  have go : codeAny (model X.prog X.w) (lamA X x sg g cdg s) (.call (.ref f) ⟨[], []⟩) (CR (L2.CX X.prog X.w) (PyProof.Rows.envOfC x sg s.heap.objs.size g cdg :: X.stack) X.prog X.w G s1 Q fun c d H2 => W c d σZ H2) s1 := by
    refine kla_callFunE room.depth here rfl L.co L.gen rfl ⟨c', oc, vs, t, rfl, o1, o2, o3⟩ ?_
    rw [bnd]
    refine wpAny_pure (wpAny_newFunctionEnv (fun y hy => (L.own y hy).2) (fun y hy => absurd hy List.not_mem_nil) (fun h1 ns sb => ⟨J.nolimit.fresh _ sb, ?_⟩) L.kind)
    have up : ∀ b o, s1.heap.get? b = some o → h1.get? b = some o := fun b o e => sb.extBut b o (Nat.ne_of_lt (Heap.lt_size e)) (Heap.get?_push_of_some _ e)
    have Jb := lam_start2 (E := fun c d H2 => W c d σZ H2) (f := f) (c' := c') (tk := s1.toks + ([] : List (Str × Value)).length) I L J.env0 room.hd J.base ns up
    refine kla_codeExpr (wpAny_mono ((ok _ s1 G (room.deeper _)).run [] _ _ G Q Jb ht) ?_ fun _ _ z => z)
    rintro v s' ⟨w', H', Je, rv, q⟩
    exact ⟨w', H', Je.os, Je.bare, Je.base, Je.hok, rv, q⟩
  refine wpAny_call (codeAny_mono go fun r s' hq => ?_)
  match r, hq with
  | .error e, hq => exact tk e s' (XE.of_call J (fun _ _ _ y => y) hq)
  | .ok (.ret u), hq => exact J.after hq
/-- the def that calls what it got: what it makes of the lambda's reading -/
def GivesX (X : Cx) (Ng : List Str) (x : Str) (sg : Scope) (g : Addr) (cdg : Value) (bg : List Stmt) (a q : Str) (TT : (XK → Hp → VK → Prop) → Hp → VK → Prop) : Prop :=
  ∀ (f c' : Addr) (s : Shared) (H : Hp) (Q : VK) (tl : XK → Hp → VK → Prop), (∀ (W : WX) (pn : List (Addr × Obj)) (xe : Value → Shared → Prop) (p1 p2 : Pos), Takes ((lamG X Ng x sg g cdg s H).tr pn xe) W →
      PE ((lamG X Ng x sg g cdg s H).tr pn xe) (.Call (.Name a p1) [] [] p2) (fun σZ HZ Q => σZ[0]? = some (some (.ref f)) ∧ HZ c' = some (CodeO c' q) ∧ tl (fun c d H2 => W c d σZ H2) HZ Q)) →
    H c' = some (CodeO c' q) → TT tl H Q → ∃ t, PSs (lamG X Ng x sg g cdg s H).nox bg t ∧ t { nx := fun _ H' => Q .non H', rt := Q } (L2.start Ng [.ref f]) H
def tLamX (P : Addr) (q : Str) (TT : (XK → Hp → VK → Prop) → Hp → VK → Prop) (t : XK → TE) : TE := fun σ H Q => TabS H P q ∧ ∀ H1, LamTo P q H H1 → TT (fun E H' Q' => t E σ H' Q') H1 Q
end
/-! ### what is told of a call that may be too large -/
variable [Ers]
def noX : DXS := fun _ _ _ _ => False
def largeE (Ng : List Str) (f : Addr) (prs : List (Str × Str)) (c : Str) (i : Nat) (Ts : Str → Addr → Option Addr → TSD) (R : DQ) : DXQ := fun x fs ω => dCatch prs c i Ts (fun _ _ _ _ => False) { nx := fun _ ω' => R .non ω', rt := R } x fs (startD Ng [.raw (.ref f)]) ω
/-- the errors of the lambda's body -/
def largeX (Ng : List Str) (prs : List (Str × Str)) (c : Str) (i : Nat) (Ts : Str → Addr → Option Addr → TSD) (R : DQ) : DXQ := fun x fs ω => ∀ f, largeE Ng f prs c i Ts R x fs ω
def TTL (K : PySem.W.Frag) (Ng : List Str) (prs : List (Str × Str)) (c : Str) (i : Nat) (Ts : Str → Addr → Option Addr → TSD) : (XK → Hp → VK → Prop) → Hp → VK → Prop := fun tl H Q => ∃ h ω R, @Wd amb0 K h H ω ∧ @Cnt K amb0 h H ω R Q ∧
  ∀ E, CntX K h H ω (largeX Ng prs c i Ts R) E → tl E H fun v H1 => [V.str "returned", v].length ≤ sizeLine ∧ ∀ p, H1 p = none → Q (.ref p) (upd H1 p (.lst [.str "returned", v]))
/-- x(lambda: body), x telling of a call that may be too large -/
def dLarge (P : Addr) (q : Str) (Ng : List Str) (prs : List (Str × Str)) (c : Str) (i : Nat) (Ts : Str → Addr → Option Addr → TSD) (Tl : DXS → TD) : TD := fun ρ ω R => ω P = some (.tab q) ∧ Tl (noS (largeX Ng prs c i Ts R)) ρ ω fun d ω' => R (.lst [.str "returned", d]) ω'
end DL

/-! XC: short forms: defs that let errors out as their callers have them, classes as values, lambdas handed to a def. -/
namespace DL
open PySem PySem.Spec L2 PyProof.Rows PySem.W LamX LK
/-- the j-th row of a class -/
def memb (s : Stmt) (j : Nat) : Stmt := match s with | .ClassDef _ _ _ body _ _ _ _ _ _ _ => body.getD j (.Pass ⟨0, 0, 0, 0⟩) | _ => .Pass ⟨0, 0, 0, 0⟩
variable [Ers]
instance (priority := low) ambN {K : PySem.W.Frag} : AmbX K (fun _ _ _ _ => False) noX := ambF
def CalX (P : Program) (w : World) (K : PySem.W.Frag) (mg : Str → Option Value) (base : Heap) (k : Nat) (x : Str) (ps : List Str) (S : SpDX) : Prop :=
  ∃ f fd, FnG P w K mg base (L2.CX P w) k f fd ps (spUX K S) ∧ mg x = some (.ref f) ∧ PySem.W.keepIn K (.ref f) = true ∧ Binds K fd ps []
theorem CalX.mk {P : Program} {w : World} {K : PySem.W.Frag} {mg : Str → Option Value} {base : Heap} {k : Nat} {x : Str} {st : Stmt} {N ps : List Str} {S : SpDX} {T : DXS → TSD} (D : DefAt K mg x st) (sc : FnScope N ps (defScope st))
    (bi : ∀ (kV doc pm : Value) (an : Option Addr) (cdv ct : Value) (us : List Value), us.length = ps.length → bindArgs (PySem.W.fnOf x x (defArgs st) (defBody st) (defScope st) .none kV doc pm an cdv ct) ⟨us, []⟩ = pure (ps.zip us))
    (ar : ∀ ds ω R RX, S ds ω R RX → ds.length = ps.length)
    (b : ∀ (f : Addr) (cdv : Value) (A : Around) (fs : List Env) (s : Shared) (hp : Hp) (e : XK) (RX : DXS) [AmbX K (noW e) RX], Room k (A.deeper (PyProof.Rows.envOfC x (defScope st) s.heap.objs.size f cdv)) → A.guards = some [] →
      DSs (cxOf (L2.CX P w) P w K mg base N x (defScope st) f cdv A fs s hp e) (defBody st) (T RX))
    (rd : ∀ ds ω R RX, S ds ω R RX → T (noS RX) { nx := fun _ ω' => R .non ω', rt := R } (startD N ds) ω) : CalX P w K mg base (k + 1) x ps S := by
  obtain ⟨f, fd, hm, F⟩ := D
  exact ⟨f, fd, FnG.ofX F sc ar (b f) rd, hm, F.kp, F.binds bi⟩
theorem ds_raiseK {X : Cx} {K : PySem.W.Frag} {W : WX} {RX : DXS} (I0 : AmbX K W RX) {x f : Str} {k : Nat} {e : Expr} {Te : TD} {p pos pos2 : Pos} (hc : X.calm = true) (tk : Takes X W) (T : ErrD X.prog X.w X.K X.mg X.base k x f) (hr : Room (k + 1) X.A) (hg : Gl X x) (ha : @DE I0.toAmb X e Te)
    (hdb : (x == ("__debug__" : Str)) = false := by decide) (he : starEach (e :: []) X.env = (false, eval e X.env) :: starEach [] X.env := by rfl) (hpl : (backTo pos (starEach [] X.env)).any (·.1) = false := by rfl) (hK : X.K = K := by rfl) :
    @DS I0.toAmb X (.Raise (some (.Call (.Name x p) [e] [] pos)) none pos2) (dRaise x f Te RX) := by
  subst hK
  exact ds_raise1 (I0 := I0) hc tk T hr hg ha hdb he hpl
/-- a class of the program, by name -/
theorem de_cls [Amb] {X : Cx} {y : Str} {pos : Pos} (hg : Gl X y) (hm : X.mg y = some (.ref (Ers.ad y))) (hb : blt y = false := by decide) (hd : (y == ("__debug__" : Str)) = false := by decide) : DE X (.Name y pos) (dC (clsD y)) := by
  have e : clsD y = .raw (.ref (Ers.ad y)) := by unfold clsD clsV; rw [hb]; rfl
  rw [e]
  exact PE.weak (pe_glob (v := .ref (Ers.ad y)) hg hm rfl hd) fun _ _ _ ⟨_, _, _, _, _, w, q, k⟩ => k.self w q (.raw _)
/-- a built-in class of errors, by name -/
theorem de_clsB [Amb] {X : Cx} {y : Str} {pos : Pos} (hg : Gl X y) (hm : X.mg y = none) (hv : bootBuiltins y = some (.type y.toString)) (hb : blt y = true := by decide) (hn : y ≠ "__name__" := by decide) (hd : (y == ("__debug__" : Str)) = false := by decide) : DE X (.Name y pos) (dC (clsD y)) := by
  have e : clsD y = .raw (.ty y.toString) := by unfold clsD clsV; rw [hb]; rfl
  rw [e]
  exact PE.weak (pe_bltn (v := .ty y.toString) hg hm hv rfl hn hd) fun _ _ _ ⟨_, _, _, _, _, w, q, k⟩ => k.self w q (.raw _)
/-- an except clause's class -/
theorem names_cls {X : Cx} {y : Str} (hg : Gl X y) (hm : X.mg y = some (.ref (Ers.ad y))) (hb : blt y = false := by decide) (hd : (y == ("__debug__" : Str)) = false := by decide) : Names X y (clsU y) := by
  have e : clsU y = .ref (Ers.ad y) := by unfold clsU; rw [hb]; rfl
  rw [e]
  exact ⟨hg, hd, .inl hm⟩
section
variable {ρ : Rho} {ω : Om} {Q : DQ} {T : TAD}
theorem st_callX {S : SpDX} {RX : DXS} (h : T ρ ω fun xs ω1 => S xs ω1 Q fun y fs ω2 => RX y fs ρ ω2) : dCallX S RX T ρ ω Q := h
theorem st_raise {x f : Str} {Te : TD} {RX : DXS} {E : DEnds} (h : Te ρ ω fun d ω1 => RX x (some [(f, d)]) ρ ω1) : dRaise x f Te RX E ρ ω := h
end
end DL

/-! TB: sorted(set(xs)) of a list of up to 4000 ints. -/
namespace DL
open PySem PySem.Spec PyProof.Rows L2 HT
section
variable {P : Program} {w : World} {A : Around} {E : Value → Shared → Prop} {s : Shared} {a : Addr}
end
section
variable {X : Cx} {a : Expr} {Ta : TD} {p p1 p2 pos : Pos} {K : PySem.W.Frag}
def rSortedSB (w : World) : List V → Hp → VK → Prop := fun vs H Q => ∃ (a : Addr) (S : Int → Bool) (n : Nat), vs = [V.ref a] ∧ H a = some (SetO w a S n) ∧ n ≤ 4000 ∧
  ∀ (ns : List Int) (p : Addr), ns.Pairwise (· < ·) → (∀ k : Int, k ∈ ns ↔ S k = true) → ns.length = n → H p = none → Q (.ref p) (upd H p (.lst (ns.map V.int)))
def rSetB (K : PySem.W.Frag) (w : World) : List V → Hp → VK → Prop := fun vs H Q => ∃ (l : Addr) (ns : List Int), vs = [V.ref l] ∧ SqL K H l (ns.map V.int) ∧ ns.length ≤ 4000 ∧
  ∀ a n, H a = none → n ≤ ns.length → Q (.ref a) (upd H a (SetO w a (fun j => decide (j ∈ ns)) n))
/-- sorted(set(xs)), xs a long list -/
def dSoSetB (Ta : TD) : TD := fun ρ ω Q => Ta ρ ω fun x ω1 => ∃ ns : List Int, lstOf ω1 x = some (ns.map D.int) ∧ ns.length ≤ 4000 ∧ ∀ ns' : List Int, ns'.Pairwise (· < ·) → (∀ k : Int, k ∈ ns' ↔ k ∈ ns) → ns'.length ≤ ns.length → Q (.lst (ns'.map D.int)) ω1
end
section
variable {ρ : Rho} {ω : Om} {Q : DQ} {Ta : TD}
theorem st_soSetB (h : Ta ρ ω fun x ω1 => ∃ ns : List Int, lstOf ω1 x = some (ns.map D.int) ∧ ns.length ≤ 4000 ∧ ∀ ns' : List Int, ns'.Pairwise (· < ·) → (∀ k : Int, k ∈ ns' ↔ k ∈ ns) → ns'.length ≤ ns.length → Q (.lst (ns'.map D.int)) ω1) : dSoSetB Ta ρ ω Q := h
end
end DL

/-! XK: the facts of the errors' classes, gathered. -/
namespace DL
open PySem PySem.Spec L2 PyProof.Rows PySem.W
section
variable [Ers] {P : Program} {w : World} {K : PySem.W.Frag} {mg : Str → Option Value} {base : Heap} {fls : List Str} {x y : Str}
structure PairK (K : PySem.W.Frag) (fls : List Str) (x y : Str) : Prop where
  ex : exmOne K (.ref (Ers.ad x)) (clsU y) = some (subB x y)
  ki : kitOne K (.ref (Ers.ad x)) (clsU y) = some (subB x y)
  cl : ErrC K (Ers.ad x)
  no : ∀ f ∈ fls, findIn K (.ref (Ers.ad x)) f = some none
theorem pk_nil : ∀ p ∈ ([] : List (Str × Str)), PairK K fls p.1 p.2 := fun _ h => nomatch h
theorem ersK_of {prs : List (Str × Str)} (h : ∀ p ∈ prs, PairK K fls p.1 p.2) : ErsK K prs fls :=
  ⟨fun x y m => (h _ m).ex, fun x y m => (h _ m).ki, fun x y m => (h _ m).cl, fun x y f m hf => (h _ m).no f hf⟩
theorem errD_of {C fI : Addr} {f qual v : Str} {st : Stmt} {p1 p2 p3 p4 : Pos} {oc : Value} {od an : Option Addr} {osl : Array (Option Value)} {kV doc pm cdv ct : Value} (e : Ers.ad x = C) (T : OexC K C) (gm : mg x = some (.ref C)) (hno : findIn K (.ref C) f = some none)
    (iC : findIn K (.ref C) "__init__" = some (some (.ref fI))) (tI : typeIn K (.ref fI) = some (.type "function"))
    (l : K.lookup fI = some ⟨oc, od, .func (PySem.W.fnOf "__init__" qual (defArgs st) (defBody st) (defScope st) .none kV doc pm an cdv ct), osl⟩) (cc : codeIn K cdv qual = true) (kp : keepIn K (.ref fI) = true)
    (sc : FnScope ["self", v] ["self", v] (defScope st)) (hb : defBody st = [.Assign [.Attribute (.Name "self" p1) f p2] (.Name v p3) p4]) (vs : Vis (defScope st) "self") (vv : Vis (defScope st) v)
    (hd : (v == ("__debug__" : Str)) = false) (hcd : (v == ("__classdict__" : Str)) = false)
    (hs : ∀ env : Env, swapsWith (.Name v p3) (some (.Attribute (.Name "self" p1) f p2)) p4.line env = pure false)
    (bi : ∀ (kV doc pm : Value) (an : Option Addr) (cdv ct : Value) (us : List Value), us.length = (["self", v] : List Str).length → bindArgs (PySem.W.fnOf "__init__" qual (defArgs st) (defBody st) (defScope st) .none kV doc pm an cdv ct) ⟨us, []⟩ = pure ((["self", v] : List Str).zip us)) : ErrD P w K mg base 1 x f := by
  subst e
  have F := fun_mk (st := st) l cc kp
  exact ⟨T, gm, fI, _, v, iC, tI, init_one T hno F sc hb vs vv hd hcd hs, F.binds bi⟩
end
end DL

/-! TC: a < b < c < d as a test. -/
namespace DL
open PySem PySem.Spec PyProof.Rows L2
section
variable {X : Cx} {a b c d : Expr} {pos : Pos} {op1 op2 op3 : CmpOp}
def tCh3 (r1 r2 r3 : R2) (ta tb tc td : TE) : TT := fun σ H Q => ta σ H fun x H1 => tb σ H1 fun y H2 => r1 x y H2 fun z H3 => ∃ k, z = .bl k ∧ if k = true then
    tc σ H3 fun u H4 => r2 y u H4 fun z2 H5 => ∃ k2, z2 = .bl k2 ∧ if k2 = true then td σ H5 fun v H6 => r3 u v H6 fun z3 H7 => ∃ k3, z3 = .bl k3 ∧ Q k3 H7 else Q false H5
  else Q false H3
def dCh3 (o1 o2 o3 : DO2) (Ta Tb Tc Td : TD) : TTD := fun ρ ω Q => Ta ρ ω fun x ω1 => Tb ρ ω1 fun y ω2 => o1 x y ω2 fun z ω3 => ∃ k, z = .bl k ∧ if k = true then
    Tc ρ ω3 fun u ω4 => o2 y u ω4 fun z2 ω5 => ∃ k2, z2 = .bl k2 ∧ if k2 = true then Td ρ ω5 fun v ω6 => o3 u v ω6 fun z3 ω7 => ∃ k3, z3 = .bl k3 ∧ Q k3 ω7 else Q false ω5
  else Q false ω3
variable {ρ : Rho} {ω : Om} {QT : Bool → Om → Prop} {o1 o2 o3 : DO2} {Ta Tb Tc Td : TD}
theorem st_ch3 (h : Ta ρ ω fun x ω1 => Tb ρ ω1 fun y ω2 => o1 x y ω2 fun z ω3 => ∃ k, z = .bl k ∧ if k = true then
    Tc ρ ω3 fun u ω4 => o2 y u ω4 fun z2 ω5 => ∃ k2, z2 = .bl k2 ∧ if k2 = true then Td ρ ω5 fun v ω6 => o3 u v ω6 fun z3 ω7 => ∃ k3, z3 = .bl k3 ∧ QT k3 ω7 else QT false ω5
  else QT false ω3) : dCh3 o1 o2 o3 Ta Tb Tc Td ρ ω QT := h
end
end DL

/-! TG: plans as data that is compared and shown; the word of a certificate. -/
namespace DL
open PySem PySem.Spec L2 PyProof.Rows
/-- what the law leans on -/
theorem flat_mvs : ∀ ms : List Mv, flatAll (ms.map mvD) = true
  | [] => rfl
  | m :: ms => by
    have z := flat_pair m.1 m.2
    unfold pairD at z
    simp [flatAll, flat_mvs ms, mvD, z]
def wordS (x : Int) (ws g h : List Int) : Str := if g = h then "plan" else if wt ws h ≤ wt ws g then "light" else if (gapL x (btw ws (wt ws g) (wt ws h))).isNone = true then "plan" else "gap"
end DL

/-! TH: an owned dict keyed by numbers: i in d, d.get(i, e). -/
namespace DL
open PySem PySem.Spec L2 PyProof.Rows
section
variable {X : Cx} {a e f : Expr} {pos : Pos} {Ta Te Tv : TD}
/-- i in d, i not in d -/
def dDInK (neg : Bool) (Ty Td : TD) : TD := fun ρ ω Q => Ty ρ ω fun y ω1 => Td ρ ω1 fun x ω2 => ∃ (p : Addr) (i : Int) (kds : List (L2.Key × D)), x = .raw (.ref p) ∧ y = .int i ∧ ω2 p = some (.dK kds) ∧ Q (.bl (if neg then !(lookI kds i).isSome else (lookI kds i).isSome)) ω2
/-- d.get(i, e), d owned, keyed by numbers -/
def dDGetN (Ta Te Tv : TD) : TD := fun ρ ω Q => Ta ρ ω fun x ω1 => ∃ p, x = .raw (.ref p) ∧ (∃ kds, ω1 p = some (.dK kds)) ∧ Te ρ ω1 fun y ω2 => Tv ρ ω2 fun z ω3 => ∃ (i : Int) (kds : List (L2.Key × D)), y = .int i ∧ ω3 p = some (.dK kds) ∧ Q ((lookI kds i).getD z) ω3
variable {ρ : Rho} {ω : Om} {Q : DQ}
theorem st_dinK {neg : Bool} (h : Ta ρ ω fun y ω1 => Te ρ ω1 fun x ω2 => ∃ (p : Addr) (i : Int) (kds : List (L2.Key × D)), x = .raw (.ref p) ∧ y = .int i ∧ ω2 p = some (.dK kds) ∧ Q (.bl (if neg then !(lookI kds i).isSome else (lookI kds i).isSome)) ω2) : dDInK neg Ta Te ρ ω Q := h
theorem st_dgetN (h : Ta ρ ω fun x ω1 => ∃ p, x = .raw (.ref p) ∧ (∃ kds, ω1 p = some (.dK kds)) ∧ Te ρ ω1 fun y ω2 => Tv ρ ω2 fun z ω3 => ∃ (i : Int) (kds : List (L2.Key × D)), y = .int i ∧ ω3 p = some (.dK kds) ∧ Q ((lookI kds i).getD z) ω3) : dDGetN Ta Te Tv ρ ω Q := h
end
end DL
namespace DL
open PySem PySem.Spec L2
/-! ### the least number of steps, one stop after another -/
theorem way_last {S : Int → Prop} {x : Int} : ∀ {k : Nat} {s t : Int}, Way S x (k + 1) s t → ∃ r, (r = s ∨ S r) ∧ Way S x k s r ∧ 1 ≤ t - r ∧ t - r ≤ x ∧ S t
  | 0, s, t, ⟨t', st, a, b, e⟩ => by
    have e : t' = t := e
    subst e
    exact ⟨s, .inl rfl, rfl, a, b, st⟩
  | k + 1, s, t, ⟨t', st, a, b, w⟩ => by
    obtain ⟨r, hr, w2, c, d, f⟩ := way_last w
    exact ⟨r, .inr (hr.elim (fun z => z ▸ st) id), ⟨t', st, a, b, w2⟩, c, d, f⟩
/-- the least number of steps to a stop, the first one too -/
def fwI (x : Int) (ws : List Int) (lo s : Int) : Option Nat := if s = lo then some 0 else fewW x ws lo s
end DL

/-! TJ: the widest gap; weights times a number. -/
namespace DL
open PySem PySem.Spec L2
/-- the widest step between neighbours -/
def IsW (L : List Int) (m : Int) : Prop := (∃ p ∈ adj L, p.2 - p.1 = m) ∧ ∀ p ∈ adj L, p.2 - p.1 ≤ m
theorem fewN_lt {x : Int} {ws g h : List Int} (lt : wt ws g < wt ws h) : fewN x ws g h = fewW x ws (wt ws g) (wt ws h) := by
  unfold fewN
  rw [if_neg (fun e => by rw [e] at lt; omega), if_neg (by omega)]
/-! ### weights times a number -/
end DL

/-! TI: xs.index(i), xs owned, of numbers. -/
namespace DL
open PySem PySem.Spec L2 PyProof.Rows
section
variable {X : Cx} {a e : Expr} {pos : Pos} {Ta Te : TD}
def rIdxI : V → List V → Hp → VK → Prop := fun x vs H Q => ∃ (l : Addr) (ns : List Int) (i : Int), x = .ref l ∧ vs = [.int i] ∧ H l = some (.lst (ns.map V.int)) ∧ ns.length ≤ sizeLine ∧ i ∈ ns ∧ Q (.int (ns.idxOf i : Nat)) H
/-- xs.index(i), xs owned, of numbers -/
def dIdx (Ta Te : TD) : TD := fun ρ ω Q => Ta ρ ω fun x ω1 => ∃ p, x = .raw (.ref p) ∧ (∃ xs, ω1 p = some (.lst xs)) ∧ Te ρ ω1 fun y ω2 => ∃ (ns : List Int) (i : Int), y = .int i ∧ ω2 p = some (.lst (ns.map D.int)) ∧ ns.length ≤ sizeLine ∧ i ∈ ns ∧ Q (.int (ns.idxOf i : Nat)) ω2
variable {ρ : Rho} {ω : Om} {Q : DQ}
theorem st_idx (h : Ta ρ ω fun x ω1 => ∃ p, x = .raw (.ref p) ∧ (∃ xs, ω1 p = some (.lst xs)) ∧ Te ρ ω1 fun y ω2 => ∃ (ns : List Int) (i : Int), y = .int i ∧ ω2 p = some (.lst (ns.map D.int)) ∧ ns.length ≤ sizeLine ∧ i ∈ ns ∧ Q (.int (ns.idxOf i : Nat)) ω2) : dIdx Ta Te ρ ω Q := h
end
end DL
namespace DL
open PySem PySem.Spec L2
/-! ### routes joined -/
theorem climb_join {x k : Int} : ∀ {l t : List Int}, ClimbI x (l ++ [k]) → ClimbI x (k :: t) → ClimbI x (l ++ k :: t)
  | [], _, _, h => h
  | [a], t, h, h2 => ⟨h.1, h2⟩
  | a :: b :: l, t, h, h2 => ⟨h.1, climb_join (l := b :: l) h.2 h2⟩
theorem mvs_join (k : List Int) : ∀ (l t : List (List Int)), mvsOf (l ++ k :: t) = mvsOf (l ++ [k]) ++ mvsOf (k :: t)
  | [], _ => rfl
  | [a], t => by
    show mvAt a k :: mvsOf (k :: t) = [mvAt a k] ++ mvsOf (k :: t)
    rfl
  | a :: b :: l, t => by
    show mvAt a b :: mvsOf (b :: l ++ k :: t) = (mvAt a b :: mvsOf (b :: l ++ [k])) ++ mvsOf (k :: t)
    rw [mvs_join k (b :: l) t]
    rfl
theorem Route.join [Amb] {x : Int} {ws g k h : List Int} {r1 r2 : List (List Int)} (a : Route x ws g k r1) (b : Route x ws k h r2) : ∃ r, Route x ws g h r ∧ mvsOf r = mvsOf r1 ++ mvsOf r2 ∧ r.length = r1.length + r2.length - 1 := by
  obtain ⟨l, rfl⟩ := List.getLast?_eq_some_iff.mp a.la
  obtain ⟨t, rfl⟩ : ∃ t, r2 = k :: t := by
    have := b.hd
    cases r2 with
    | nil => cases this
    | cons y t => cases this; exact ⟨t, rfl⟩
  refine ⟨l ++ k :: t, ⟨?_, ?_, fun y hy => ?_, ?_⟩, mvs_join k l t, by rw [List.length_append, List.length_append]; simp only [List.length_cons, List.length_nil]; omega⟩
  · have := a.hd
    cases l with
    | nil => exact this
    | cons y l => exact this
  · rw [List.getLast?_append, b.la]
    rfl
  · rcases List.mem_append.mp hy with z | z
    · exact a.grp y (List.mem_append_left _ z)
    · exact b.grp y z
  · have u1 : ClimbI x ((l ++ [k]).map (wt ws)) := a.up
    have u2 : ClimbI x ((k :: t).map (wt ws)) := b.up
    show ClimbI x ((l ++ k :: t).map (wt ws))
    rw [List.map_append] at u1 ⊢
    exact climb_join u1 u2
/-! ### the word of a certificate -/
/-! ### renumbered -/
/-- the places of a group's people in a row -/
def reG (ms g : List Int) : List Int := (ups ms.length).filter fun i => decide (wAt ms i ∈ g)
theorem reG_grp (ms g : List Int) : GrpI ms.length (reG ms g) := ⟨fun k hk => mem_ups.mp (List.mem_filter.mp hk).1, (ups_lt _).filter _⟩
theorem idx_at {ms : List Int} (nd : ms.Nodup) {k : Int} (h : k ∈ ms) : wAt ms ((ms.idxOf k : Nat) : Int) = k ∧ ms.idxOf k < ms.length := by
  have l := List.idxOf_lt_length_of_mem h
  refine ⟨?_, l⟩
  unfold wAt
  rw [Int.toNat_natCast, List.getD_eq_getElem?_getD, List.getElem?_eq_getElem l, List.getElem_idxOf l]
  rfl
theorem idx_back {ms : List Int} (nd : ms.Nodup) {i : Int} (i0 : 0 ≤ i) (i1 : i < ms.length) : ((ms.idxOf (wAt ms i) : Nat) : Int) = i ∧ wAt ms i ∈ ms := by
  obtain ⟨j, rfl⟩ := Int.eq_ofNat_of_zero_le i0
  have l : j < ms.length := by omega
  have e : wAt ms (j : Int) = ms[j] := by
    unfold wAt
    rw [Int.toNat_natCast, List.getD_eq_getElem?_getD, List.getElem?_eq_getElem l]
    rfl
  rw [e]
  refine ⟨?_, List.getElem_mem l⟩
  rw [nd.idxOf_getElem j l]
theorem reG_perm {ms g : List Int} (nd : ms.Nodup) (hs : ∀ k ∈ g, k ∈ ms) (ng : g.Nodup) : (g.map fun k => ((ms.idxOf k : Nat) : Int)).Perm (reG ms g) := by
  refine (List.perm_ext_iff_of_nodup ?_ (lt_nodup ((ups_lt _).filter _))).mpr fun i => ?_
  · refine List.pairwise_map.mpr (List.Pairwise.imp_of_mem (fun {a b} ha hb ne e => ne ?_) ng)
    have x := (idx_at nd (hs a ha)).1
    rw [e, (idx_at nd (hs b hb)).1] at x
    exact x.symm
  · rw [List.mem_map, List.mem_filter, mem_ups, decide_eq_true_eq]
    constructor
    · rintro ⟨k, hk, rfl⟩
      obtain ⟨e, l⟩ := idx_at nd (hs k hk)
      rw [e]
      exact ⟨⟨by omega, by omega⟩, hk⟩
    · rintro ⟨⟨a, b⟩, c⟩
      exact ⟨_, c, (idx_back nd a b).1⟩
/-- the same weights in another order -/
theorem wt_re {ws ms g : List Int} (nd : ms.Nodup) (hs : ∀ k ∈ g, k ∈ ms) (ng : g.Nodup) : wt (ms.map (wAt ws)) (reG ms g) = wt ws g := by
  rw [← wt_perm _ (reG_perm nd hs ng)]
  unfold wt
  rw [List.map_map]
  refine congrArg List.sum (List.map_congr_left fun k hk => ?_)
  obtain ⟨e, l⟩ := idx_at nd (hs k hk)
  show (ms.map (wAt ws)).getD ((ms.idxOf k : Nat) : Int).toNat 0 = ws.getD k.toNat 0
  rw [Int.toNat_natCast, List.getD_eq_getElem?_getD, List.getElem?_map, List.getElem?_eq_getElem l, List.getElem_idxOf l]
  rfl
structure Ren (n : Nat) (ms : List Int) : Prop where
  perm : ms.Perm (ups n)
theorem Ren.nd {n : Nat} {ms : List Int} (h : Ren n ms) : ms.Nodup := h.perm.nodup_iff.mpr (lt_nodup (ups_lt n))
theorem Ren.len {n : Nat} {ms : List Int} (h : Ren n ms) : ms.length = n := by rw [h.perm.length_eq, ups_len]
theorem Ren.mem {n : Nat} {ms : List Int} (h : Ren n ms) {k : Int} : k ∈ ms ↔ 0 ≤ k ∧ k < n := by rw [h.perm.mem_iff, mem_ups]
theorem Ren.sub {n : Nat} {ms g : List Int} (h : Ren n ms) (hg : GrpI n g) : ∀ k ∈ g, k ∈ ms := fun k hk => h.mem.mpr (hg.1 k hk)
/-- a group of places comes from a group -/
theorem reG_onto {n : Nat} {ms g' : List Int} (r : Ren n ms) (hg : GrpI n g') : ∃ g, GrpI n g ∧ reG ms g = g' := by
  refine ⟨(ups n).filter fun k => decide (((ms.idxOf k : Nat) : Int) ∈ g'), ⟨fun k hk => mem_ups.mp (List.mem_filter.mp hk).1, (ups_lt _).filter _⟩, ?_⟩
  refine sorted_eq (reG_grp _ _).2 hg.2 fun i => ?_
  unfold reG
  rw [List.mem_filter, mem_ups, decide_eq_true_eq, List.mem_filter, mem_ups, decide_eq_true_eq, r.len]
  constructor
  · rintro ⟨⟨a, b⟩, _, c⟩
    rw [(idx_back r.nd a (by rw [r.len]; exact b)).1] at c
    exact c
  · intro c
    obtain ⟨a, b⟩ := hg.1 i c
    obtain ⟨e, m⟩ := idx_back r.nd a (by rw [r.len]; exact b)
    refine ⟨⟨a, b⟩, r.mem.mp m, by rw [e]; exact c⟩
end DL
namespace DL
open PySem PySem.Spec L2
/-! ### turned: those who are not in the group -/
def cmpl (n : Nat) (g : List Int) : List Int := (ups n).filter fun k => !decide (k ∈ g)
theorem cmpl_grp (n : Nat) (g : List Int) : GrpI n (cmpl n g) := ⟨fun k hk => mem_ups.mp (List.mem_filter.mp hk).1, (ups_lt _).filter _⟩
theorem ups_in {n : Nat} {g : List Int} (hg : GrpI n g) : (ups n).filter (fun k => decide (k ∈ g)) = g := sorted_eq ((ups_lt _).filter _) hg.2 fun k => by
  rw [List.mem_filter, mem_ups, decide_eq_true_eq]
  exact ⟨fun h => h.2, fun h => ⟨hg.1 k h, h⟩⟩
theorem wt_cmpl {ws g : List Int} (hg : GrpI ws.length g) : wt ws (cmpl ws.length g) = ws.sum - wt ws g := by
  have a := wt_split ws (fun k => decide (k ∈ g)) (ups ws.length)
  rw [wt_ups, ups_in hg] at a
  unfold cmpl
  omega
theorem climb_turn {x T : Int} : ∀ {l : List Int}, ClimbI x l → ClimbI x (l.map (T - ·)).reverse
  | [], _ => trivial
  | [_], _ => trivial
  | a :: b :: l, h => by
    have ih := climb_turn (T := T) (l := b :: l) h.2
    rw [List.map_cons, List.reverse_cons] at ih ⊢
    rw [List.map_cons, List.reverse_cons, List.append_assoc]
    exact climb_join ih ⟨⟨by have := h.1.1; omega, by have := h.1.2; omega⟩, trivial⟩
theorem Route.turn [Amb] {x : Int} {ws g h : List Int} {r : List (List Int)} (rt : Route x ws g h r) : Route x ws (cmpl ws.length h) (cmpl ws.length g) (r.map (cmpl ws.length)).reverse := by
  refine ⟨by rw [List.head?_reverse, List.getLast?_map, rt.la]; rfl, by rw [List.getLast?_reverse, List.head?_map, rt.hd]; rfl, fun k hk => ?_, ?_⟩
  · rw [List.mem_reverse] at hk
    obtain ⟨y, _, rfl⟩ := List.mem_map.mp hk
    exact cmpl_grp _ y
  · have u : ClimbI x (r.map (wt ws)) := rt.up
    have := climb_turn (T := ws.sum) u
    show ClimbI x ((r.map (cmpl ws.length)).reverse.map (wt ws))
    rw [List.map_reverse, List.map_map]
    rw [List.map_map] at this
    have e : r.map (wt ws ∘ cmpl ws.length) = r.map ((fun s => ws.sum - s) ∘ wt ws) := List.map_congr_left fun k hk => wt_cmpl (rt.grp k hk)
    rw [e]
    exact this
/-! ### one more, heavier than all -/
end DL

/-! TA: an owned dict keyed by tuples of numbers: d[t], d.get(t, e), d[t] = v over what is there. -/
namespace DL
open PySem PySem.Spec L2 PyProof.Rows
/-- what a tuple leads to -/
def lookT : List (List Int × D) → List Int → Option D
  | [], _ => none
  | (k, d) :: kds, i => if k = i then some d else lookT kds i
/-- in its place, or at the end -/
def setT : List (List Int × D) → List Int → D → List (List Int × D)
  | [], i, v => [(i, v)]
  | (k, d) :: kds, i, v => if k = i then (k, v) :: kds else (k, d) :: setT kds i v
section
variable {X : Cx} {K : PySem.W.Frag} {h : Fp} {H : Hp} {ω : Om} {a e f value : Expr} {pos : Pos} {Ta Te Tv : TD}
/-- d[t] -/
def dDGetT (Ta Te : TD) : TD := fun ρ ω Q => Ta ρ ω fun x ω1 => Te ρ ω1 fun y ω2 => ∃ (p : Addr) (ns : List Int) (kds : List (List Int × D)) (d : D), x = .raw (.ref p) ∧ y = .tup (ns.map D.int) ∧ ω2 p = some (.dT kds) ∧ lookT kds ns = some d ∧ Q d ω2
/-- d.get(t, e) -/
def dDGetTN (Ta Te Tv : TD) : TD := fun ρ ω Q => Ta ρ ω fun x ω1 => ∃ p, x = .raw (.ref p) ∧ (∃ kds, ω1 p = some (.dT kds)) ∧ Te ρ ω1 fun y ω2 => Tv ρ ω2 fun z ω3 => ∃ (ns : List Int) (kds : List (List Int × D)), y = .tup (ns.map D.int) ∧ ω3 p = some (.dT kds) ∧ Q ((lookT kds ns).getD z) ω3
/-- d[t] = v, t there or not -/
def dDSetT (Ta Te Tv : TD) : TSD := fun E ρ ω => Tv ρ ω fun v ω1 => Ta ρ ω1 fun x ω2 => Te ρ ω2 fun y ω3 => ∃ (p : Addr) (ns : List Int) (kds : List (List Int × D)), x = .raw (.ref p) ∧ y = .tup (ns.map D.int) ∧ ω3 p = some (.dT kds) ∧ (kds.map (·.1)).Nodup ∧ kds.length < sizeLine ∧ E.nx ρ (oset ω3 p (.dT (setT kds ns v)))
variable {ρ : Rho} {Q : DQ}
theorem st_dgetT (h : Ta ρ ω fun x ω1 => Te ρ ω1 fun y ω2 => ∃ (p : Addr) (ns : List Int) (kds : List (List Int × D)) (d : D), x = .raw (.ref p) ∧ y = .tup (ns.map D.int) ∧ ω2 p = some (.dT kds) ∧ lookT kds ns = some d ∧ Q d ω2) : dDGetT Ta Te ρ ω Q := h
theorem st_dgetTN (h : Ta ρ ω fun x ω1 => ∃ p, x = .raw (.ref p) ∧ (∃ kds, ω1 p = some (.dT kds)) ∧ Te ρ ω1 fun y ω2 => Tv ρ ω2 fun z ω3 => ∃ (ns : List Int) (kds : List (List Int × D)), y = .tup (ns.map D.int) ∧ ω3 p = some (.dT kds) ∧ Q ((lookT kds ns).getD z) ω3) : dDGetTN Ta Te Tv ρ ω Q := h
theorem st_dsetT {E : DEnds} (h : Tv ρ ω fun v ω1 => Ta ρ ω1 fun x ω2 => Te ρ ω2 fun y ω3 => ∃ (p : Addr) (ns : List Int) (kds : List (List Int × D)), x = .raw (.ref p) ∧ y = .tup (ns.map D.int) ∧ ω3 p = some (.dT kds) ∧ (kds.map (·.1)).Nodup ∧ kds.length < sizeLine ∧ E.nx ρ (oset ω3 p (.dT (setT kds ns v)))) : dDSetT Ta Te Tv E ρ ω := h
end
end DL

/-! TO: dict(xs) of a list of pairs, the keys tuples, all different. -/
namespace L2
open PySem PySem.Spec PyProof.Rows
section
variable {prog : Program} {w : World} {A : Around} {E : Value → Shared → Prop} {K : Type} [DecidableEq K] {knd : HeapKind prog w K}
/-- all but two places stand -/
abbrev Kep (S I : Addr) (h h' : Heap) : Prop := ∀ (c : Addr) (o : Obj), c ≠ S → c ≠ I → h.get? c = some o → h'.get? c = some o
def Stay (knd : HeapKind prog w K) (S I : Addr) (h : Heap) (k : K) (b : Addr) : Prop := ∀ h', Kep S I h h' → knd.is h' k b
theorem Stay.go {S I : Addr} {h h' : Heap} {k : K} {b : Addr} (x : Stay knd S I h k b) (y : Kep S I h h') : Stay knd S I h' k b := fun h2 z => x h2 fun c o a d e => z c o a d (y c o a d e)
theorem dictH_keep {S I : Addr} {h h' : Heap} {xs : List (K × Addr × Value)} (hm : h.DictOfH knd S xs) (st : ∀ q ∈ xs, Stay knd S I h q.1 q.2.1) (y : Kep S I h h') (e : ∀ o, h.get? S = some o → h'.get? S = some o) : h'.DictOfH knd S xs := by
  obtain ⟨o, es, ep, ho, hc, hd, he, his, hn⟩ := hm
  exact ⟨o, es, ep, e o ho, hc, hd, he, fun x hx => st x hx h' y, hn⟩
theorem atKey_new {xs : List (K × Addr × Value)} {k : K} (h : k ∉ xs.map (·.1)) : atKey xs k = none :=
  atKey_none_of_get fun j p e => h (List.mem_map.mpr ⟨(k, p), List.mem_of_getElem? e, rfl⟩)
/-- the walk over the pairs -/
theorem upd_loopH (hu : knd.room A.in1) {R : Result → Shared → Prop} {S I l : Addr} {items : Array Value} {res : Value} (hh : A.handled = none) (hlI : l ≠ I) (hSI : S ≠ I) (hSl : S ≠ l) :
    ∀ (rest : List (K × Addr × Value)) (i : Nat) (acc : List (K × Addr × Value)) (ix : Int) (t : Tok) (s : Shared), items.size = i + rest.length → acc.length + rest.length ≤ sizeLine →
      (∀ (j : Nat) (q : K × Addr × Value), rest[j]? = some q → ∃ (b : Addr), items[i + j]? = some (.ref b) ∧ b ≠ S ∧ b ≠ I ∧ IsTup s.heap b #[.ref q.2.1, q.2.2]) →
      (∀ q ∈ acc ++ rest, Stay knd S I s.heap q.1 q.2.1) → ((acc ++ rest).map (·.1)).Nodup →
      s.heap.IsListIter I l i → s.heap.IsList l items → s.heap.DictOfH knd S acc →
      (∀ h' tk, h'.DictOfH knd S (acc ++ rest) → Kep S I s.heap h' → R (.ok (.ret res)) { s with heap := h', toks := tk }) →
      codeAny (model prog w) A (.builtin "dict.update.loop" ⟨[.ref S, .ref I, .int ix t, res], []⟩) R s
  | [], i, acc, ix, t, s, hsz, hln, ht, hst, hnd, hit, hl, hm, hR => by
    refine codeAny_builtin ud_entry ?_
    rw [Around.under_plainId ud_plain _]
    show wpAny _ A.in1 (pyNext (.ref I) >>= _) _ _ s
    refine wpAny_bind (wpAny_pyNext_list_end (A := A.in1) hh hit hl (by first | exact Array.getElem?_eq_none (Nat.le_of_eq hsz) | (simp at hsz; simp; omega)) fun h' he => ?_)
    show wpAny _ A.in1 (Builtin.Dict.addKeywords S [] >>= _) _ _ _
    refine wpAny_bind (wpAny_pure (wpAny_pure ?_))
    have kp : Kep S I s.heap h' := fun b o _ hb e => he b o hb e
    rw [List.append_nil] at hst hR
    exact hR h' s.toks (dictH_keep hm hst kp fun o e => he S o hSI e) kp
  | q :: rest, i, acc, ix, t, s, hsz, hln, ht, hst, hnd, hit, hl, hm, hR => by
    obtain ⟨b, hb, hbS, hbI, htup⟩ := ht 0 q rfl
    rw [List.length_cons] at hsz hln
    refine codeAny_builtin ud_entry ?_
    rw [Around.under_plainId ud_plain _]
    show wpAny _ A.in1 (pyNext (.ref I) >>= _) _ _ s
    refine wpAny_bind (wpAny_pyNext_list_item (x := .ref b) hit hl (by simpa using hb) fun h1 hit1 hs1 => ?_)
    have k1 : Kep S I s.heap h1 := fun c o _ hc e => hs1.extBut c o hc e
    have ht1 : IsTup h1 b #[.ref q.2.1, q.2.2] := htup.extBut hs1.extBut hbI
    have hl1 : h1.IsList l items := hl.extBut hs1.extBut hlI
    have hm1 : h1.DictOfH knd S acc := dictH_keep hm (fun x hx => hst x (List.mem_append_left _ hx)) k1 fun o e => hs1.extBut S o hSI e
    obtain ⟨o, ho, hc, n, hd⟩ := id ht1
    show wpAny _ A.in1 (holding [Value.ref b] _ >>= _) _ _ _
    refine wpAny_bind (wpAny_holding ?_)
    refine wpAny_bind (wpAny_tryCatch ?_)
    unfold Builtin.Dict.pairItems
    refine wpAny_bind (wpAny_typeOf (T := "tuple") ⟨o, ho, hc⟩ ?_)
    rw [if_pos (by first | decide | rfl | simp)]
    refine wpAny_bind (wpAny_seqItems ho hd (wpAny_pure ?_))
    show wpAny _ A.in1 (holding [.ref q.2.1, q.2.2] (dictSet S (.ref q.2.1) q.2.2)) _ _ _
    have hq : q ∈ acc ++ q :: rest := List.mem_append_right _ List.mem_cons_self
    have nq : q.1 ∉ acc.map (·.1) := fun z => by
      rw [List.map_append, List.map_cons] at hnd
      exact (List.nodup_append.mp hnd).2.2 _ z _ List.mem_cons_self rfl
    refine wpAny_holding (wpAny_dictSet_heap (knd := knd) (k := q.1) hu (hst q hq h1 k1) hm1 (fun h2 hm2 hs2 => ?_) (by omega))
    rw [storedH_new (atKey_new nq)] at hm2
    have k2 : Kep S I s.heap h2 := fun c o a d e => hs2.extBut c o a (k1 c o a d e)
    refine wpAny_pure ⟨plainId_quiet ud_plain _, upd_loopH hu (items := items) hh hlI hSI hSl rest (i + 1) (acc ++ [(q.1, q.2.1, q.2.2)]) (ix + 1) 0 _ (show items.size = i + 1 + rest.length by omega) ?_ (fun j q' e => ?_) ?_ ?_ ?_ ?_ hm2 fun h' tk hd' k => ?_⟩
    · rw [List.length_append]
      show acc.length + 1 + rest.length ≤ _
      omega
    · obtain ⟨b', hb', hbS', hbI', htup'⟩ := ht (j + 1) q' (by simpa using e)
      refine ⟨b', ?_, hbS', hbI', (htup'.extBut hs1.extBut hbI').extBut hs2.extBut hbS'⟩
      rw [show i + 1 + j = i + (j + 1) by omega]
      exact hb'
    · intro x hx
      rw [List.append_assoc] at hx
      exact (hst x hx).go k2
    · rw [List.append_assoc]
      exact hnd
    · exact hit1.at fun o' e => hs2.extBut I o' (Ne.symm hSI) e
    · exact hl1.extBut hs2.extBut (Ne.symm hSl)
    · rw [List.append_assoc] at hd'
      exact hR h' tk hd' fun c oc a d e => k c oc a d (k2 c oc a d e)
/-- dict(l) of a list of pairs -/
theorem call_dict_pairsH (hu : knd.room A.in1.in1) {s : Shared} {l : Addr} {ol : Obj} {items : Array Value} {n : Nat} {prs : List (K × Addr × Value)} {Q : Value → Shared → Prop} (hh : A.handled = none) (hl : s.heap.get? l = some ol) (hc : ol.cls = .type "list") (hd : ol.dict = none)
    (hdat : ol.data = .seq items n) (hsz : items.size = prs.length) (hln : prs.length ≤ sizeLine)
    (ht : ∀ (j : Nat) (q : K × Addr × Value), prs[j]? = some q → ∃ (b : Addr), items[j]? = some (.ref b) ∧ IsTup s.heap b #[.ref q.2.1, q.2.2])
    (hst : ∀ q ∈ prs, ∀ h', (∀ b o, s.heap.get? b = some o → h'.get? b = some o) → knd.is h' q.1 q.2.1) (hnd : (prs.map (·.1)).Nodup)
    (h : ∀ h' tk, h'.DictOfH knd s.heap.objs.size prs → (∀ b o, s.heap.get? b = some o → h'.get? b = some o) → Q (.ref s.heap.objs.size) { s with heap := h', toks := tk }) :
    wpAny (model prog w) A (call (.type "dict") [.ref l]) Q E s := by
  refine callType_codes (Q₁ := fun obj s₁ => obj = .ref s.heap.objs.size ∧ s₁ = { s with heap := s.heap.push { cls := .type "dict", data := .dict #[] } }) PySem.F.kt_called_dict (PySem.F.kt_typeCall_dict_1 _) PySem.F.entry_dict_init (kt_code_dict_new _ ⟨rfl, rfl⟩) ?_
  rintro obj s₁ ⟨rfl, rfl⟩
  have hnew : (s.heap.push { cls := .type "dict", data := .dict #[] }).DictOfH knd s.heap.objs.size [] := Heap.DictOfH.new s.heap
  have k0 : ∀ b o, s.heap.get? b = some o → (s.heap.push { cls := .type "dict", data := .dict #[] }).get? b = some o := fun b o e => Heap.get?_push_of_some _ e
  have tyS : ∀ s' : Shared, s'.heap = s.heap.push { cls := .type "dict", data := .dict #[] } → s'.TypeIs (.ref s.heap.objs.size) "dict" := fun s' e => ⟨_, by rw [e]; exact Heap.get?_push_size _ rfl, rfl⟩
  refine ⟨tyS _ rfl, PySem.F.args_dict_init_2 _ _, ?_⟩
  unfold Builtin.«dict.__init__»
  refine wpAny_bind ?_
  unfold Builtin.Dict.selfAndRest
  refine wpAny_bind (wpAny_notOrdered_dict (tyS _ rfl) ?_)
  show wpAny _ _ (pure (s.heap.objs.size, [Value.ref l])) _ _ _
  refine wpAny_pure ?_
  show wpAny _ _ (Builtin.Dict.updateFrom "dict.__init__" s.heap.objs.size (.ref l) [] .none) _ _ _
  unfold Builtin.Dict.updateFrom
  refine wpAny_bind (wpAny_typeOf (T := "list") ⟨ol, k0 _ _ hl, hc⟩ ?_)
  rw [if_pos (by first | decide | rfl | simp)]
  refine wpAny_bind (miss_list (k0 _ _ hl) hc hdat hd hh fun h1 tk1 hk1 => ?_)
  rw [if_pos (show (none : Option Value).isNone = true from rfl)]
  refine wpAny_bind (wpAny_rule ?_)
  have hl1 : h1.IsList l items := ⟨ol, hk1 _ _ (k0 _ _ hl), hc, n, hdat⟩
  have hS1 : s.heap.objs.size < h1.objs.size := by
    have e : (s.heap.push { cls := .type "dict", data := .dict #[] }).get? s.heap.objs.size = some { cls := .type "dict", data := .dict #[] } := Heap.get?_push_size _ rfl
    exact Heap.lt_size (hk1 _ _ e)
  refine wpAny_bind (wpAny_pyIter_list hl1 ?_)
  have k2 : ∀ b o, h1.get? b = some o → (h1.push { cls := .type "list_iterator", data := .fields #[.ref l, .int 0 0] }).get? b = some o := fun b o e => Heap.get?_push_of_some _ e
  have hlt : l < s.heap.objs.size := Heap.lt_size hl
  have nI : ∀ {b o}, s.heap.get? b = some o → b ≠ h1.objs.size := fun e => Nat.ne_of_lt (Nat.lt_trans (Heap.lt_size e) hS1)
  have nS : ∀ {b o}, s.heap.get? b = some o → b ≠ s.heap.objs.size := fun e => Nat.ne_of_lt (Heap.lt_size e)
  have hnew2 : (h1.push { cls := .type "list_iterator", data := .fields #[.ref l, .int 0 0] }).DictOfH knd s.heap.objs.size [] :=
    dictH_keep (S := s.heap.objs.size) (I := h1.objs.size) hnew (fun q hq => nomatch hq) (fun c o _ _ e => k2 _ _ (hk1 _ _ e)) fun o e => k2 _ _ (hk1 _ _ e)
  have key := upd_loopH (prog := prog) (w := w) (A := A.in1) (knd := knd) hu (R := wants (fun r s₂ => r = .none ∧ Q (.ref s.heap.objs.size) s₂) E) (S := s.heap.objs.size) (I := h1.objs.size) (l := l) (items := items) (res := Value.none) hh
    (Nat.ne_of_lt (Nat.lt_trans hlt hS1)) (Nat.ne_of_lt hS1) (Nat.ne_of_gt hlt) prs 0 [] 0 0
    { s with heap := h1.push { cls := .type "list_iterator", data := .fields #[.ref l, .int 0 0] }, toks := tk1 } (by rw [hsz, Nat.zero_add]) (by rw [List.length_nil, Nat.zero_add]; exact hln)
    (fun j q e => by
      obtain ⟨b, e1, e2⟩ := ht j q e
      have hb : b < s.heap.objs.size := e2.lt
      exact ⟨b, by rw [Nat.zero_add]; exact e1, Nat.ne_of_lt hb, Nat.ne_of_lt (Nat.lt_trans hb hS1), e2.keeps fun c o z => k2 _ _ (hk1 _ _ (k0 _ _ z))⟩)
    (fun q hq h' kp => hst q (by simpa using hq) h' fun b o e => kp b o (nS e) (nI e) (k2 _ _ (hk1 _ _ (k0 _ _ e))))
    (by simpa using hnd)
    ⟨_, Heap.get?_push_size _ rfl, rfl, rfl⟩ (hl1.at fun o e => k2 _ _ e) hnew2
    (fun h' tk hd' k => ⟨rfl, h h' tk (by simpa using hd') fun b o e => k b o (nS e) (nI e) (k2 _ _ (hk1 _ _ (k0 _ _ e)))⟩)
  first
    | exact wpAny_pure ⟨plainId_quiet ud_plain _, key⟩
    | exact wpAny_bind (wpAny_pure (wpAny_pure ⟨plainId_quiet ud_plain _, key⟩))
end
end L2
namespace L2
open PySem PySem.Spec PyProof.Rows
section
variable {X : Cx}
/-- dict(xs) of a list of pairs (tuple, value), the tuples all different -/
def rDictPT (K : PySem.W.Frag) : List V → Hp → VK → Prop := fun xs H Q => ∃ (a : Addr) (ps : List Addr) (qs : List (List Key × Addr × V)), xs = [.ref a] ∧ SqL K H a (ps.map V.ref) ∧ Paired (fun p q => SqT K H p [V.ref q.2.1, q.2.2] ∧ H q.2.1 = some (.tup (q.1.map kV))) ps qs ∧ (qs.map (·.1)).Nodup ∧
    ∀ p, H p = none → Q (.ref p) (upd H p (.dT (qs.map fun q => (q.1, q.2.2))))
end
end L2
namespace DL
open PySem PySem.Spec L2 PyProof.Rows
section
variable {K : PySem.W.Frag} {h : Fp} {H : Hp} {ω : Om}
/-- dict(xs) of a list of pairs, keyed by tuples that are all different; owned -/
def dDictP : DOn := fun xs ω Q => ∃ (x : D) (kds : List (List Int × D)), xs = [x] ∧ lstOf ω x = some (kds.map fun q => .tup [.tup (q.1.map D.int), q.2]) ∧ (kds.map (·.1)).Nodup ∧ ∀ p, ω p = none → Q (.raw (.ref p)) (oset ω p (.dT kds))
end
end DL
namespace DL
open PySem PySem.Spec L2 PyProof.Rows
section
variable {K : PySem.W.Frag}
/-- a comprehension with two names, over lists of two -/
theorem gok_twoL [Amb] {i j : Nat} {vs : List Nat} (hi : i ∈ vs) (hj : j ∈ vs) : GOk K (gLst K 2 (gCons (gName i) (gCons (gName j) gNil))) (dgLst 2 (dgCons (dgName i) (dgCons (dgName j) dgNil))) vs := ⟨fun h σ ρ ω d v H R Q sl w r t k => by
  obtain ⟨xs, e, l, x, xs', rfl, y, ys', e2, e3, t⟩ := t
  cases e2
  cases e3
  obtain ⟨a, us, rfl, sx, ra⟩ := lstOf_sq w e r
  obtain ⟨v1, v2, rfl, r1, r2⟩ := ra.two
  refine ⟨_, _, rfl, sx, rfl, _, _, rfl, _, _, rfl, rfl, ?_⟩
  refine k _ _ ?_ t ((sl.set r1 i).set r2 j)
  rw [wipe_set hj, wipe_set hi, wipe_wipe σ vs vs fun _ z => z]⟩
end
end DL

/-! TN: the least number of moves level by level, over groups. -/
namespace DL
open PySem PySem.Spec L2
/-- a move leads from one group to another -/
def Stp (x : Int) (ws o h : List Int) : Prop := 1 ≤ wt ws h - wt ws o ∧ wt ws h - wt ws o ≤ x
theorem fewN_zero {x : Int} {ws g h : List Int} : fewN x ws g h = some 0 ↔ g = h := by
  unfold fewN
  constructor
  · intro e
    split at e
    · assumption
    · split at e
      · cases e
      · unfold fewW at e
        split at e
        · cases e
        · cases e
  · intro e
    rw [if_pos e]
theorem fewN_way {x : Int} {ws g h : List Int} {k : Nat} (x0 : 0 ≤ x) (h1 : ∀ w ∈ ws, 1 ≤ w) (hg : GrpI ws.length g) (hh : GrpI ws.length h) (e : fewN x ws g h = some k) : Way (· ∈ sumsL ws) x k (wt ws g) (wt ws h) := by
  unfold fewN at e
  split at e
  · rename_i c
    cases e
    rw [c]
    rfl
  · split at e
    · cases e
    · rename_i c
      exact (fewW_some ((mem_sumsL h1).mpr ⟨g, hg, rfl⟩) ((mem_sumsL h1).mpr ⟨h, hh, rfl⟩) (by omega) x0 e).1
/-- a way to a heavier group: the least number is there, and at most this -/
theorem fewN_most {x : Int} {ws g h : List Int} {k : Nat} (x0 : 0 ≤ x) (h1 : ∀ w ∈ ws, 1 ≤ w) (hg : GrpI ws.length g) (hh : GrpI ws.length h) (w : Way (· ∈ sumsL ws) x (k + 1) (wt ws g) (wt ws h)) : ∃ j, fewN x ws g h = some j ∧ j ≤ k + 1 := by
  have lt := w.le
  rw [fewN_lt (by omega)]
  have sg := (mem_sumsL h1).mpr ⟨g, hg, rfl⟩
  have sh := (mem_sumsL h1).mpr ⟨h, hh, rfl⟩
  cases z : fewW x ws (wt ws g) (wt ws h) with
  | none => exact (fewW_none z _ w).elim
  | some j => exact ⟨j, rfl, (fewW_some sg sh (by omega) x0 z).2 _ w⟩
theorem few_level {x : Int} {ws g h : List Int} {k : Nat} (x0 : 0 ≤ x) (h1 : ∀ w ∈ ws, 1 ≤ w) (hg : GrpI ws.length g) (hh : GrpI ws.length h) :
    fewN x ws g h = some (k + 1) ↔ (∃ o, GrpI ws.length o ∧ fewN x ws g o = some k ∧ Stp x ws o h) ∧ ∀ j, j ≤ k → fewN x ws g h ≠ some j := by
  constructor
  · intro e
    refine ⟨?_, fun j hj z => by rw [e] at z; cases z; omega⟩
    have w := fewN_way x0 h1 hg hh e
    have least : ∀ j, Way (· ∈ sumsL ws) x (j + 1) (wt ws g) (wt ws h) → k ≤ j := fun j w => by
      obtain ⟨i, ei, hi⟩ := fewN_most x0 h1 hg hh w
      rw [e] at ei
      cases ei
      omega
    obtain ⟨r, hr, w2, a, b, st⟩ := way_last w
    have rle := w2.le
    by_cases c : r = wt ws g
    · subst c
      have k0 : k = 0 := by omega
      subst k0
      exact ⟨g, hg, fewN_zero.mpr rfl, a, b⟩
    · obtain ⟨o, ho, rfl⟩ := (mem_sumsL h1).mp (hr.elim (fun z => absurd z c) id)
      cases k with
      | zero => exact absurd (show wt ws g = wt ws o from w2).symm c
      | succ k =>
        obtain ⟨j, ej, hj⟩ := fewN_most x0 h1 hg ho w2
        have wj := fewN_way x0 h1 hg ho ej
        have := least j (wj.trans (j := 1) ⟨wt ws h, st, a, b, rfl⟩)
        exact ⟨o, ho, by rw [ej, show j = k + 1 by omega], a, b⟩
  · rintro ⟨⟨o, ho, eo, a, b⟩, no⟩
    have w := (fewN_way x0 h1 hg ho eo).trans (j := 1) ⟨wt ws h, (mem_sumsL h1).mpr ⟨h, hh, rfl⟩, a, b, rfl⟩
    obtain ⟨j, ej, hj⟩ := fewN_most x0 h1 hg hh w
    by_cases c : j ≤ k
    · exact absurd ej (no j c)
    · rw [ej, show j = k + 1 by omega]
/-- where a level is empty nothing lies beyond -/
theorem few_none {x : Int} {ws g : List Int} {k : Nat} (x0 : 0 ≤ x) (h1 : ∀ w ∈ ws, 1 ≤ w) (hg : GrpI ws.length g) (e : ∀ o, GrpI ws.length o → fewN x ws g o ≠ some k) : ∀ (d : Nat) (h : List Int), GrpI ws.length h → fewN x ws g h ≠ some (k + d)
  | 0, h, hh => e h hh
  | d + 1, h, hh => fun z => by
    obtain ⟨⟨o, ho, eo, _⟩, _⟩ := (few_level x0 h1 hg hh (k := k + d)).mp z
    exact few_none x0 h1 hg e d o ho eo
/-- what is found after k rounds -/
def fndN (x : Int) (ws g : List Int) (k : Nat) (h : List Int) : Option D := match fewN x ws g h with
  | some j => if j ≤ k then some (.int j) else none
  | none => none
end DL

/-! XO: instances of the program's own classes: made, their fields, properties, methods; as data or owned. -/
namespace DL
open PySem PySem.Spec L2 PyProof.Rows PySem.W
variable [Ers]
/-! ### fields -/
def dput (f : Str) (d : D) : List (Str × D) → List (Str × D)
  | [] => [(f, d)]
  | (g, x) :: r => if g = f then (g, d) :: r else (g, x) :: dput f d r
theorem RpFs.put {K : PySem.W.Frag} {p : Fp} {H : Hp} {f : Str} {d : D} {v : V} (r : Rp K p H d v) : ∀ {ds : List (Str × D)} {vs : List (Str × V)}, RpFs K p H ds vs → RpFs K p H (dput f d ds) (putF f v vs)
  | _, _, .nil => .cons r .nil
  | (g, x) :: ds, (_, y) :: vs, .cons q t => by
    show RpFs K p H (if g = f then (g, d) :: ds else (g, x) :: dput f d ds) (if g = f then (g, v) :: vs else (g, y) :: putF f v vs)
    by_cases c : g = f
    · rw [if_pos c, if_pos c]; exact .cons r t
    · rw [if_neg c, if_neg c]; exact .cons q (RpFs.put r t)
theorem RpFs.len {K : PySem.W.Frag} {p : Fp} {H : Hp} : ∀ {ds : List (Str × D)} {vs : List (Str × V)}, RpFs K p H ds vs → ds.length = vs.length
  | _, _, .nil => rfl
  | _, _, .cons _ t => by rw [List.length_cons, List.length_cons, RpFs.len t]
/-- the fields of an instance, as data or owned -/
def FsOf (c : Str) (x : D) (ω : Om) (fds : List (Str × D)) : Prop := x = .obj (Ers.ad c) fds ∨ ∃ a dx, x = .raw (.ref a) ∧ ω a = some (.ins (Ers.ad c) dx fds)
theorem FsOf.at_ [Amb] {K : PySem.W.Frag} {h : Fp} {H : Hp} {ω : Om} {c : Str} {x : D} {v : V} {fds : List (Str × D)} (F : FsOf c x ω fds) (w : Wd K h H ω) (r : Rp K (fre ω h) H x v) : ∃ a dx fvs, v = .ref a ∧ H a = some (.ins (Ers.ad c) dx fvs) ∧ RpFs K (fre ω h) H fds fvs := by
  rcases F with rfl | ⟨a, dx, rfl, e⟩
  · cases r with
    | obj fa ha rf => exact ⟨_, _, _, rfl, ha, rf⟩
  · cases r
    obtain ⟨fvs, z1, z2⟩ := w.cell a _ e
    exact ⟨a, dx, fvs, rfl, z1, z2⟩
section
variable {X : Cx} {c f m : Str} {e o value a b : Expr} {pos pos' apos p : Pos} {Te To Tv Ta Tb : TD}
/-- o.f = e, o owned -/
def dFldS (c f : Str) (To Tv : TD) : TSD := fun E ρ ω => Tv ρ ω fun d ω1 => To ρ ω1 fun o ω2 => ∃ x dx fds, o = .raw (.ref x) ∧ ω2 x = some (.ins (Ers.ad c) dx fds) ∧ fds.length < 1000 ∧ E.nx ρ (oset ω2 x (.ins (Ers.ad c) dx (dput f d fds)))
theorem ds_fldS [Amb] (hC : Cls X.K (Ers.ad c)) (n : NoAttr X.K (Ers.ad c) f) (ho : DE X o To) (hv : DE X value Tv) (hs : swapsWith value (some (.Attribute o f pos')) pos.line X.env = pure false := by rfl) : DS X (.Assign [.Attribute o f pos'] value pos) (dFldS c f To Tv) := by
  refine PS.weak (ps_fld ho hv hs) fun E σ H ⟨h, ρ, ω, e, sl, w, t, k1, k2, k3, k4⟩ => ?_
  refine ⟨h, ρ, ω, _, sl, w, t, fun d ω1 v H1 t1 f1 w1 r1 => ?_⟩
  refine ⟨h, ρ, ω1, _, sl.keep f1.kp, w1, t1, fun o ω2 ov H2 t2 f2 w2 r2 => ?_⟩
  obtain ⟨x, dx, fds, e1, e2, e3, q⟩ := t2
  subst e1
  cases r2
  obtain ⟨fvs, z1, z2⟩ := w2.cell x _ e2
  exact ⟨x, _, dx, fvs, rfl, z1, hC, n, by rw [← z2.len]; exact e3, k1 _ _ _ _ q (f1.trans (f2.trans (Fr.put e2))) (w2.put e2 fun H' f' kp hp => ⟨_, hp, (z2.put (r1.keep f2.kp)).keep kp⟩) (sl.keep (f1.trans (f2.trans (Fr.put e2))).kp)⟩
/-- e.f -/
def dFld (c f : Str) (Te : TD) : TD := fun ρ ω Q => Te ρ ω fun x ω1 => ∃ fds v, FsOf c x ω1 fds ∧ fds.lookup f = some v ∧ Q v ω1
theorem de_fld [Amb] (hC : Cls X.K (Ers.ad c)) (n : NoAttr X.K (Ers.ad c) f) (he : DE X e Te) (hb : attributeBase e f X.env (eval e X.env) = eval e X.env := by rfl) : DE X (.Attribute e f pos) (dFld c f Te) := by
  refine PE.weak (pe_fld he hb) fun σ H Q ⟨h, ρ, ω, R, sl, w, t, k⟩ => ?_
  refine ⟨h, ρ, ω, _, sl, w, t, fun x ω1 v1 H1 ⟨fds, v, e1, e2, q⟩ f1 w1 r1 => ?_⟩
  obtain ⟨a, dx, fvs, rfl, ha, rf⟩ := e1.at_ w1 r1
  obtain ⟨u, l, ru⟩ := rf.look e2
  exact ⟨_, _, _, _, u, rfl, ha, hC, n, l, k _ _ _ _ q f1 w1 ru⟩
/-- a property whose getter hands a field back -/
def GetP (P : Program) (w : World) (K : PySem.W.Frag) (mg : Str → Option Value) (base : Heap) (c p f : Str) : Prop := ∃ pa g fd, PropOf K (Ers.ad c) p pa g ∧ FnOk P w K mg base CX0 1 g fd ["self"] (getSp (Ers.ad c) f) ∧ Binds K fd ["self"] []
theorem de_propF [Amb] {pn : Str} (hC : Cls X.K (Ers.ad c)) (G : GetP X.prog X.w X.K X.mg X.base c pn f) (hr : Room 2 X.A) (he : DE X e Te) (hb : attributeBase e pn X.env (eval e X.env) = eval e X.env := by rfl) : DE X (.Attribute e pn pos) (dFld c f Te) := by
  obtain ⟨pa, g, fd, hp, F, bi⟩ := G
  refine PE.weak (pe_prop (E := fun _ _ _ => True) he hC hp F hr bi .nil (fun _ _ _ _ _ _ _ z => z.elim) hb) fun σ H Q ⟨h, ρ, ω, R, sl, w, t, k⟩ => ?_
  refine ⟨h, ρ, ω, _, sl, w, t, fun x ω1 v1 H1 ⟨fds, v, e1, e2, q⟩ f1 w1 r1 => ?_⟩
  obtain ⟨a, dx, fvs, rfl, ha, rf⟩ := e1.at_ w1 r1
  obtain ⟨u, l, ru⟩ := rf.look e2
  exact ⟨_, _, _, rfl, ha, _, _, _, u, rfl, ha, l, k _ _ _ _ q f1 w1 ru⟩
end
/-! ### methods -/
/-- a method, as the text has it -/
def MethAt (K : PySem.W.Frag) (c m q : Str) (st : Stmt) : Prop := ∃ f fd, findIn K (.ref (Ers.ad c)) m = some (some (.ref f)) ∧ isFn K (.ref f) = true ∧ fnIn K f = true ∧ Fun K m q st f fd
/-- a method's promise -/
def CalM (P : Program) (w : World) (K : PySem.W.Frag) (mg : Str → Option Value) (base : Heap) (k : Nat) (c m : Str) (ps : List Str) (S : SpDX) : Prop :=
  ∃ f fd, FnG P w K mg base (L2.CX P w) k f fd ps (spUX K S) ∧ findIn K (.ref (Ers.ad c)) m = some (some (.ref f)) ∧ isFn K (.ref f) = true ∧ fnIn K f = true ∧ keepIn K (.ref f) = true ∧ Binds K fd ps []
theorem CalM.mk {P : Program} {w : World} {K : PySem.W.Frag} {mg : Str → Option Value} {base : Heap} {k : Nat} {c m q : Str} {st : Stmt} {N ps : List Str} {S : SpDX} {T : DXS → TSD} (D : MethAt K c m q st) (sc : FnScope N ps (defScope st))
    (bi : ∀ (kV doc pm : Value) (an : Option Addr) (cdv ct : Value) (us : List Value), us.length = ps.length → bindArgs (PySem.W.fnOf m q (defArgs st) (defBody st) (defScope st) .none kV doc pm an cdv ct) ⟨us, []⟩ = pure (ps.zip us))
    (ar : ∀ ds ω R RX, S ds ω R RX → ds.length = ps.length)
    (b : ∀ (f : Addr) (cdv : Value) (A : Around) (fs : List Env) (s : Shared) (hp : Hp) (e : XK) (RX : DXS) [AmbX K (noW e) RX], Room k (A.deeper (PyProof.Rows.envOfC q (defScope st) s.heap.objs.size f cdv)) → A.guards = some [] →
      DSs (cxOf (L2.CX P w) P w K mg base N q (defScope st) f cdv A fs s hp e) (defBody st) (T RX))
    (rd : ∀ ds ω R RX, S ds ω R RX → T (noS RX) { nx := fun _ ω' => R .non ω', rt := R } (startD N ds) ω) : CalM P w K mg base (k + 1) c m ps S := by
  obtain ⟨f, fd, hf, hi, hn, F⟩ := D
  exact ⟨f, fd, FnG.ofX F sc ar (fun cdv A fs s hp e RX I => @b f cdv A fs s hp e RX I) rd, hf, hi, hn, F.kp, F.binds bi⟩
section
variable {X : Cx} {W : WX} {RX : DXS} {k : Nat} {f : Addr} {fd : FuncData} {ps : List Str} {sp : Sp} {S : SpDX}
/-- a function of the text runs, somewhere below the body -/
theorem runM {A' : Around} {pins σ H s} {Q : VK} {us : List Value} {vs : List V} (F : FnG X.prog X.w X.K X.mg X.base (L2.CX X.prog X.w) k f fd ps sp) (hr : Room k A') (gd : A'.guards = some []) (en : Env0 X.prog X.w X.K X.mg X.base A' X.stack s H)
    (hb : Binds X.K fd ps []) (tk : Takes X W) (I : Inv X pins σ H s) (r : Vals vs us) (h : sp vs H Q fun c d H2 => W c d σ H2) : wpAny (model X.prog X.w) A' (PySem.call (.ref f) us) (EP X pins σ Q) X.xe s := by
  have ll : (us ++ []).length = ps.length := by rw [List.append_nil, ← r.length]; exact F.arity _ _ _ _ h
  have bb := hb s us I.kIn ll
  rw [List.append_nil] at bb
  refine wpAny_call (codeAny_mono (F.goes A' X.stack s H ⟨us, []⟩ us vs Q _ hr gd en bb r h) fun res s' y => ?_)
  match res, y with
  | .error er, y => exact tk er s' (XE.of_call I (fun _ _ _ y => y) y)
  | .ok (.ret u), y => exact I.after y
/-- a method's promise at data, as what is asked at the heap -/
theorem spM [I0 : AmbX X.K W RX] {h : Fp} {ρ : Rho} {ω ω1 : Om} {σ : L2.St} {H H1 : Hp} {Q : VK} {R : DQ} {xs : List D} {vs : List V} (sl : Sl X.K (fre ω h) H σ ρ) (w : Wd X.K h H ω) (f1 : Fr H ω H1 ω1) (w1 : Wd X.K h H1 ω1) (t1 : RpAll X.K (fre ω1 h) H1 xs vs)
    (rs : S xs ω1 R fun y fs ω2 => RX y fs ρ ω2) (k : Cnt X.K h H1 ω1 R Q) : spUX X.K S vs H1 Q fun c d H2 => W c d σ H2 :=
  ⟨h, xs, ω1, R, _, t1, w1.drop, rs, k.drop w1, fun y fs ω' H' d H2 r fr w' z => AmbX.out (Amb.mono w1.amb fr) r w' (sl.keep (f1.trans fr).kp) z⟩
end
/-! ### an instance is made -/
theorem oset2 {ω : Om} {a : Addr} {c d : Cell} : oset (oset ω a c) a d = oset ω a d := by
  funext b
  unfold oset
  by_cases e : b = a
  · rw [if_pos e, if_pos e]
  · rw [if_neg e, if_neg e, if_neg e]
/-- what is owned becomes data -/
theorem Wd.give {K : PySem.W.Frag} {h : Fp} {H : Hp} {ω : Om} (w : @Wd amb0 K h H ω) {x C dx : Addr} {fds : List (Str × D)} (e : ω x = some (.ins C dx fds)) (hx : h x) : @Wd amb0 K h H (oera ω x) ∧ Rp K (fre (oera ω x) h) H (.obj C fds) (.ref x) := by
  have kp : Kp H (fre ω h) H (fre (oera ω x) h) := fun b o y z => ⟨z, by
    by_cases c : b = x
    · rw [c]; exact oera_same
    · rw [oera_ne c]; exact y.1, y.2⟩
  obtain ⟨fvs, z1, z2⟩ := @Wd.cell amb0 _ _ _ _ w x _ e
  refine ⟨@Wd.mk amb0 _ _ _ _ (fun a c y => ?_) (fun b y => @Wd.open_ amb0 _ _ _ _ w b y) (fun b vs n y => ?_) trivial, .obj ⟨oera_same, hx⟩ z1 (z2.keep kp)⟩
  · by_cases q : a = x
    · rw [q, oera_same] at y; cases y
    · rw [oera_ne q] at y
      exact (@Wd.cell amb0 _ _ _ _ w a c y).keep rfl kp
  · by_cases q : b = x
    · rw [q, z1] at y; cases y
    · rw [oera_ne q] at n
      exact @Wd.tup_ amb0 _ _ _ _ w b vs n y
section
variable {X : Cx} {W : WX} {RX : DXS} {c x : Str} {p pos : Pos} {e : Expr} {es : List Expr} {T : TAD} {S : SpDX} {ps : List Str} {k : Nat}
/-- what the text's class has that is made -/
structure ClsM (K : PySem.W.Frag) (mg : Str → Option Value) (c : Str) : Prop where
  gm : mg c = some (.ref (Ers.ad c))
  makes : makesIn K (Ers.ad c) = true
  kp : keepIn K (.ref (Ers.ad c)) = true
/-- C(..), the instance stays owned -/
def dMakeO (c : Str) (S : SpDX) (RX : DXS) (T : TAD) : TD := fun ρ ω Q => T ρ ω fun xs ω1 => ∀ x dx, ω1 x = none → ω1 dx = none → dx ≠ x →
  S (.raw (.ref x) :: xs) (oset ω1 x (.ins (Ers.ad c) dx [])) (fun v ω2 => v = .non ∧ Q (.raw (.ref x)) ω2) fun y fs ω2 => RX y fs ρ ω2
/-- C(..), the instance becomes data -/
def dMake (c : Str) (S : SpDX) (RX : DXS) (T : TAD) : TD := fun ρ ω Q => T ρ ω fun xs ω1 => ∀ x dx, ω1 x = none → ω1 dx = none → dx ≠ x →
  S (.raw (.ref x) :: xs) (oset ω1 x (.ins (Ers.ad c) dx [])) (fun v ω2 => v = .non ∧ ∃ dx' fds, ω2 x = some (.ins (Ers.ad c) dx' fds) ∧ Q (.obj (Ers.ad c) fds) (oera ω2 x)) fun y fs ω2 => RX y fs ρ ω2
/-- C(e, ..), the errors taken with the very slots -/
theorem pe_makeGS {C f : Addr} {fd : FuncData} {sp : Sp} {t : TA} (M : Mk X.K C f) (F : FnG X.prog X.w X.K X.mg X.base (L2.CX X.prog X.w) k f fd ps sp) (hr : Room (k + 1) X.A) (gd : X.A.guards = some []) (hg : Gl X x) (hm : X.mg x = some (.ref C)) (hb : Binds X.K fd ps []) (tk : Takes X W)
    (ha : PA X (e :: es) t) (hdb : (x == ("__debug__" : Str)) = false := by decide) (he : starEach (e :: es) X.env = (false, eval e X.env) :: starEach es X.env := by rfl) (hpl : (backTo pos (starEach es X.env)).any (·.1) = false := by rfl) :
    PE X (.Call (.Name x p) (e :: es) [] pos) (fun σ H Q => t σ H fun vs H1 => ∀ x dx, H1 x = none → H1 dx = none → dx ≠ x → sp (.ref x :: vs) (upd (upd H1 dx (.own x)) x (.ins C dx [])) (fun v H2 => v = .non ∧ Q (.ref x) H2) fun c d H2 => W c d σ H2) := by
  refine ⟨fun pins s σ H Q I h => ?_⟩
  refine wpAny_Call_Name_kw (ld_glob I hg hm ?_ hdb)
  refine PySem.W.callWith_K (h₀ := X.base) I.ok.mod.kin M.kp (thn (ha.run pos pins s σ H _ I h) fun us s1 ⟨vs, H1, I1, r, q⟩ => ⟨I1.kIn, ?_⟩) he hpl
  have hq := q (s1.heap.objs.size + 1) s1.heap.objs.size (I1.hok.fresh (Nat.le_succ _)) (I1.hok.fresh (Nat.le_refl _)) (Nat.ne_of_lt (Nat.lt_succ_self _))
  have I2 := Inv.made (C := C) I1
  have r2 : Vals (V.ref (s1.heap.objs.size + 1) :: vs) (Value.ref (s1.heap.objs.size + 1) :: us) := .cons rfl r
  have hl : ((Value.ref (s1.heap.objs.size + 1) :: us) ++ []).length = ps.length := by
    rw [List.append_nil, ← r2.length]; exact F.arity _ _ _ _ hq
  have bb := hb { s1 with heap := (s1.heap.push PySem.W.emptyDict).push (PySem.W.instObj C s1.heap.objs.size) } _ I2.kIn hl
  rw [List.append_nil] at bb
  refine wpAny_call (make_map (f := f) I1.kIn M.makes M.init (beq_iff_eq.mp M.fn) (codeAny_mono (F.goes _ X.stack _ _ ⟨Value.ref (s1.heap.objs.size + 1) :: us, []⟩ _ _ _ _ (hr.make C us [])
    gd (I2.env0.make C us []) bb r2 hq) fun r s' hq' => ?_))
  match r, hq' with
  | .error er, y => exact tk er s' (XE.of_call I2 (fun _ _ _ y => y) y)
  | .ok (.ret u), y =>
    obtain ⟨v, H', I3, rv, ev, q3⟩ := I2.after y
    subst ev
    exact ⟨rv, ⟨V.ref (s1.heap.objs.size + 1), H', I3, rfl, q3⟩⟩
theorem make_wd [Amb] {K : PySem.W.Frag} {h : Fp} {H : Hp} {ω : Om} (w : Wd K h H ω) {x dx C : Addr} (hx : H x = none) (hd : H dx = none) (ne : dx ≠ x) :
    Fr H ω (upd (upd H dx (.own x)) x (.ins C dx [])) (oset ω x (.ins C dx [])) ∧ Wd K h (upd (upd H dx (.own x)) x (.ins C dx [])) (oset ω x (.ins C dx [])) := by
  have w1 := w.new (o := .own x) hd
  have e : upd H dx (.own x) x = none := by rw [upd_ne (Ne.symm ne)]; exact hx
  exact ⟨(Fr.new hd).trans (Fr.own e), w1.own e fun H' f' _ hp => ⟨[], hp, .nil⟩⟩
theorem de_makeO [I0 : AmbX X.K W RX] (M : ClsM X.K X.mg c) (C : CalM X.prog X.w X.K X.mg X.base k c "__init__" ps S) (hr : Room (k + 1) X.A) (gd : X.A.guards = some []) (tk : Takes X W) (hg : Gl X c) (ha : DA X (e :: es) T) (hdb : (c == ("__debug__" : Str)) = false := by decide)
    (e1 : starEach (e :: es) X.env = (false, eval e X.env) :: starEach es X.env := by rfl) (e2 : (backTo pos (starEach es X.env)).any (·.1) = false := by rfl) : DE X (.Call (.Name c p) (e :: es) [] pos) (dMakeO c S RX T) := by
  obtain ⟨f, fd, F, hi, hf, _, _, hb⟩ := C
  refine PE.weak (pe_makeGS ⟨M.makes, hi, hf, M.kp⟩ F hr gd hg M.gm hb tk ha hdb e1 e2) fun σ H Q ⟨h, ρ, ω, R, sl, w, t, k⟩ => ?_
  refine ⟨h, ρ, ω, _, sl, w, t, fun xs ω1 vs H1 t1 f1 w1 rs x dx hx hd ne => ?_⟩
  obtain ⟨f2, w2⟩ := make_wd (C := Ers.ad c) w1 hx hd ne
  refine spM sl w (f1.trans f2) w2 (.cons (.raw _) (rs.keep f2.kp)) (t1 x dx (w1.fresh hx) (w1.fresh hd) ne) fun d ω' v H' ⟨e, r⟩ f' w' rp => ?_
  subst e
  cases rp
  exact ⟨rfl, k _ _ _ _ r (f1.trans (f2.trans f')) w' (.raw _)⟩
theorem de_make [I0 : AmbX X.K W RX] (M : ClsM X.K X.mg c) (C : CalM X.prog X.w X.K X.mg X.base k c "__init__" ps S) (hr : Room (k + 1) X.A) (gd : X.A.guards = some []) (tk : Takes X W) (hg : Gl X c) (ha : DA X (e :: es) T) (hdb : (c == ("__debug__" : Str)) = false := by decide)
    (e1 : starEach (e :: es) X.env = (false, eval e X.env) :: starEach es X.env := by rfl) (e2 : (backTo pos (starEach es X.env)).any (·.1) = false := by rfl) : DE X (.Call (.Name c p) (e :: es) [] pos) (dMake c S RX T) := by
  obtain ⟨f, fd, F, hi, hf, _, _, hb⟩ := C
  refine PE.weak (pe_makeGS ⟨M.makes, hi, hf, M.kp⟩ F hr gd hg M.gm hb tk ha hdb e1 e2) fun σ H Q ⟨h, ρ, ω, R, sl, w, t, k⟩ => ?_
  refine ⟨h, ρ, ω, _, sl, w, t, fun xs ω1 vs H1 t1 f1 w1 rs x dx hx hd ne => ?_⟩
  obtain ⟨f2, w2⟩ := make_wd (C := Ers.ad c) w1 hx hd ne
  refine spM sl w (f1.trans f2) w2 (.cons (.raw _) (rs.keep f2.kp)) (t1 x dx (w1.fresh hx) (w1.fresh hd) ne) fun d ω' v H' ⟨e, dx', fds, e3, r⟩ f' w' rp => ?_
  subst e
  cases rp
  obtain ⟨w3, r3⟩ := w'.drop.give e3 (w1.open_ x hx)
  have f3 : Fr H1 ω1 H' (oera ω' x) := fun b o y z => by
    have nb : b ≠ x := ne_of_none z hx
    obtain ⟨q1, q2⟩ := (f2.trans f') b o y z
    exact ⟨q1, by rw [oera_ne nb]; exact q2⟩
  exact ⟨rfl, k _ _ _ _ r (f1.trans f3) (Wd.lift w3 (Amb.mono w1.amb f3)) r3⟩
end
end DL

/-! XP: own instances under len, [..], + and -, as callables, asked by isinstance. -/
namespace DL
open PySem PySem.Spec L2 PyProof.Rows PySem.W
variable [Ers]
/-- nothing is let out, over whatever is asked of the state -/
@[reducible] def ambC [i : Amb] {K : PySem.W.Frag} : AmbX K (fun _ _ _ _ => False) noX := { i with out := fun _ z => z.elim }
section
variable {X : Cx} {W : WX} {RX : DXS} {c m : Str} {p pos : Pos} {a b e fe : Expr} {es : List Expr} {Ta Tb Te : TD} {T : TAD} {S : SpDX} {ps : List Str} {k : Nat}
/-! ### a[b] -/
def dSubM (c : Str) (S : SpDX) (RX : DXS) (Ta Tb : TD) : TD := fun ρ ω Q => Ta ρ ω fun x ω1 => Tb ρ ω1 fun y ω2 => ∃ fds, FsOf c x ω2 fds ∧ S [x, y] ω2 Q fun y fs ω3 => RX y fs ρ ω3
/-! ### a + b, a - b of two instances of one class -/
theorem pe_binM {C f : Addr} {fd : FuncData} {sp : Sp} {ta tb : TE} {op : Operator} (hc : selfFirst X.K C = true) (hs : findIn X.K (.ref C) (PySem.dunder op.info.2) = some (some (.ref f))) (hfn : isFn X.K (.ref f) = true) (F : FnG X.prog X.w X.K X.mg X.base (L2.CX X.prog X.w) k f fd ps sp) (hr : Room k X.A) (gd : X.A.guards = some []) (hb : Binds X.K fd ps []) (tk : Takes X W)
    (ha : PE X a ta) (hbb : PE X b tb) :
    PE X (.BinOp a op b pos) (fun σ H Q => ta σ H fun x H1 => tb σ H1 fun y H2 => ∃ q dx fs q2 dx2 fs2, x = .ref q ∧ H2 q = some (.ins C dx fs) ∧ y = .ref q2 ∧ H2 q2 = some (.ins C dx2 fs2) ∧ sp [.ref q, .ref q2] H2 Q fun c d H3 => W c d σ H3) := by
  refine ⟨fun pins s σ H Q I h => ?_⟩
  refine wpAny_BinOp (binT ha hbb I h fun v u s2 x y H2 I2 rx ry ⟨q, dx, fs, q2, dx2, fs2, e1, e2, e3, e4, z⟩ => ?_)
  subst e1 e3
  obtain rfl : v = Value.ref q := rx
  obtain rfl : u = Value.ref q2 := ry
  obtain ⟨mA, O, _⟩ := ins_get I2.hok e2
  obtain ⟨od, J, _⟩ := O.look
  obtain ⟨mB, O2, _⟩ := ins_get I2.hok e4
  obtain ⟨od2, J2, _⟩ := O2.look
  obtain ⟨m, hF⟩ := I2.fr
  refine binop_K hF I2.ok.mod.kin J J2.type hc hs hfn (wpAny_mono (runM (vs := [.ref q, .ref q2]) F hr gd I2.env0 hb tk I2 (.cons rfl (.cons rfl .nil)) z) (fun u' s' q => ?_) fun _ _ y => y)
  obtain ⟨v', H', I', r', q'⟩ := q
  cases u' with
  | notImplemented => cases v' <;> simp [L2.RelV] at r'
  | _ => exact ⟨v', H', I', r', q'⟩
def dBinM (c : Str) (S : SpDX) (RX : DXS) (Ta Tb : TD) : TD := fun ρ ω Q => Ta ρ ω fun x ω1 => Tb ρ ω1 fun y ω2 => ∃ fds gds, FsOf c x ω2 fds ∧ FsOf c y ω2 gds ∧ S [x, y] ω2 Q fun y fs ω3 => RX y fs ρ ω3
theorem de_binM [I0 : AmbX X.K W RX] {op : Operator} (hc : selfFirst X.K (Ers.ad c) = true) (C : CalM X.prog X.w X.K X.mg X.base k c (PySem.dunder op.info.2) ps S) (hr : Room k X.A) (gd : X.A.guards = some []) (tk : Takes X W) (ha : DE X a Ta) (hb : DE X b Tb) :
    DE X (.BinOp a op b pos) (dBinM c S RX Ta Tb) := by
  obtain ⟨f, fd, F, hi, hf, _, _, hbb⟩ := C
  refine PE.weak (pe_binM hc hi hf F hr gd hbb tk ha hb) fun σ H Q ⟨h, ρ, ω, R, sl, w, t, k⟩ => ?_
  refine ⟨h, ρ, ω, _, sl, w, t, fun x ω1 vx H1 t1 f1 w1 rx => ?_⟩
  refine ⟨h, ρ, ω1, _, sl.keep f1.kp, w1, t1, fun y ω2 vy H2 ⟨fds, gds, e1, e2, t2⟩ f2 w2 ry => ?_⟩
  have rx2 := rx.keep f2.kp
  obtain ⟨q, dx, fvs, rfl, hq, _⟩ := e1.at_ w2 rx2
  obtain ⟨q2, dx2, gvs, rfl, hq2, _⟩ := e2.at_ w2 ry
  exact ⟨q, dx, fvs, q2, dx2, gvs, rfl, hq, rfl, hq2, spM sl w (f1.trans f2) w2 (.cons rx2 (.cons ry .nil)) t2 (k.go (f1.trans f2))⟩
/-! ### len(a) -/
def rLenM (sp : Sp) (C : Addr) : List V → Hp → VK → Prop := fun xs H Q => ∃ q dx fs, xs = [.ref q] ∧ H q = some (.ins C dx fs) ∧ sp [.ref q] H (fun v H' => ∃ n : Int, v = .int n ∧ 0 ≤ n ∧ n < 2 ^ 63 ∧ Q (.int n) H') fun _ _ _ => False
theorem call_lenM {C f : Addr} {fd : FuncData} {sp : Sp} (hs : findIn X.K (.ref C) "__len__" = some (some (.ref f))) (hfn : isFn X.K (.ref f) = true) (F : FnG X.prog X.w X.K X.mg X.base (L2.CX X.prog X.w) k f fd ps sp) (hr : Room (k + 1) X.A) (gd : X.A.guards = some []) (hb : Binds X.K fd ps []) : CallR X (.builtin "len") (rLenM sp C) := by
  rintro pins s σ H xs us Q I r ⟨q, dx, fs, rfl, e2, z⟩
  match us, r with
  | [_], .cons ru .nil =>
    cases ru
    obtain ⟨mA, O, _⟩ := ins_get I.hok e2
    obtain ⟨od, J, _⟩ := O.look
    obtain ⟨m, hF⟩ := I.fr
    refine PySem.W.len_K hF I.ok.mod.kin J hs hfn (wpAny_mono (runM (W := fun _ _ _ _ => False) (vs := [.ref q]) F hr.in1 gd I.env0.in1 hb L2.takes0 I (.cons rfl .nil) z) (fun u' s' q => ?_) fun _ _ y => y)
    obtain ⟨v', H', I', r', n, e, h0, h1, q'⟩ := q
    subst e
    obtain ⟨t, rfl⟩ := r'
    exact ⟨⟨h0, h1⟩, .int n, H', I'.tok _, ⟨_, rfl⟩, q'⟩
def dLenM (c : Str) (S : SpDX) : DOn := fun xs ω R => ∃ x fds, xs = [x] ∧ FsOf c x ω fds ∧ S [x] ω (fun d ω' => ∃ n : Int, d = .int n ∧ 0 ≤ n ∧ n < 2 ^ 63 ∧ R (.int n) ω') fun _ _ _ => False
theorem spM0 [Amb] {h : Fp} {ω1 : Om} {H1 : Hp} {Q : VK} {R : DQ} {xs : List D} {vs : List V} {K : PySem.W.Frag} (w1 : Wd K h H1 ω1) (t1 : RpAll K (fre ω1 h) H1 xs vs) (rs : S xs ω1 R fun _ _ _ => False) (k : Cnt K h H1 ω1 R Q) : spUX K S vs H1 Q fun _ _ _ => False :=
  ⟨h, xs, ω1, R, _, t1, w1.drop, rs, k.drop w1, fun _ _ _ _ _ _ r => r.elim⟩
theorem ok_lenM [Amb] {K : PySem.W.Frag} : CallD K (dLenM c S) (rLenM (spUX K S) (Ers.ad c)) := by
  rintro h xs ω R vs H Q ⟨x, fds, rfl, e1, rs⟩ w rp k
  cases rp with
  | cons rx rp =>
    cases rp
    obtain ⟨q, dx, fvs, rfl, hq, _⟩ := e1.at_ w rx
    refine ⟨q, dx, fvs, rfl, hq, spM0 w (.cons rx .nil) rs fun d ω' v H' ⟨n, e, h0, h1, r⟩ f' w' rp => ?_⟩
    subst e
    cases rp
    exact ⟨n, rfl, h0, h1, k _ _ _ _ r f' w' (.int n)⟩
theorem call_lenMC [Amb] (C : CalM X.prog X.w X.K X.mg X.base k c "__len__" ps S) (hr : Room (k + 1) X.A) (gd : X.A.guards = some []) : CallR X (.builtin "len") (rLenM (spUX X.K S) (Ers.ad c)) := by
  obtain ⟨f, fd, F, hi, hf, _, _, hb⟩ := C
  exact call_lenM hi hf F hr gd hb
/-! ### an instance called: a(b, ..) -/
theorem pe_callM {C g : Addr} {fd : FuncData} {sp : Sp} {tf : TE} {t : TA} (hs : findIn X.K (.ref C) "__call__" = some (some (.ref g))) (hfn : isFn X.K (.ref g) = true) (hfi : fnIn X.K g = true) (F : FnG X.prog X.w X.K X.mg X.base (L2.CX X.prog X.w) k g fd ps sp) (hr : Room k X.A) (gd : X.A.guards = some []) (hb : Binds X.K fd ps []) (tk : Takes X W) (hf : PE X fe tf) (ha : PA X (e :: es) t)
    (ht : eval (.Call fe (e :: es) [] pos) X.env = (do callWith pos (← eval fe X.env) [] (backTo pos (starEach (e :: es) X.env)) (backToKw pos (keywordEach [] X.env))) := by rfl)
    (he : starEach (e :: es) X.env = (false, eval e X.env) :: starEach es X.env := by rfl) (hpl : (backTo pos (starEach es X.env)).any (·.1) = false := by rfl) :
    PE X (.Call fe (e :: es) [] pos) (fun σ H Q => tf σ H fun y H1 => ∃ a, y = V.ref a ∧ t σ H1 fun vs H2 => (∃ dx fs, H2 a = some (.ins C dx fs)) ∧ sp (V.ref a :: vs) H2 Q fun c d H3 => W c d σ H3) := by
  refine ⟨fun pins s σ H Q I h => ?_⟩
  refine Call_ (thn (hf.run pins s σ H _ I h) fun u s1 ⟨y, H1, I1, ry, a, ey, q⟩ => ?_) ht
  subst ey
  obtain rfl : u = Value.ref a := ry
  refine StX.callO_with (thn (ha.run pos pins s1 σ H1 _ I1 q) fun us s2 ⟨vs, H2, I2, r, ⟨dx, fs, hi⟩, q2⟩ => ?_) he hpl
  obtain ⟨mA, O, _⟩ := ins_get I2.hok hi
  obtain ⟨od, J, _⟩ := O.look
  refine ⟨⟨C, _, od, J, rfl⟩, ?_⟩
  have ll : ((Value.ref a :: us) ++ []).length = ps.length := by
    rw [List.append_nil, List.length_cons, ← r.length, ← List.length_cons (a := V.ref a)]; exact F.arity _ _ _ _ q2
  have bb := hb s2 (.ref a :: us) I2.kIn ll
  rw [List.append_nil] at bb
  refine wpAny_call (PySem.W.kco_code I2.kIn J rfl hs hfn hfi (codeAny_mono (F.goes X.A X.stack s2 H2 ⟨.ref a :: us, []⟩ (.ref a :: us) (.ref a :: vs) _ _ hr gd I2.env0 bb (.cons rfl r) q2) fun res s' y => ?_))
  match res, y with
  | .error er, y => exact tk er s' (XE.of_call I2 (fun _ _ _ y => y) y)
  | .ok (.ret u), y => exact I2.after y
def dCallM (c : Str) (S : SpDX) (RX : DXS) (Tf : TD) (T : TAD) : TD := fun ρ ω Q => Tf ρ ω fun x ω1 => (∃ fds, FsOf c x ω1 fds) ∧ T ρ ω1 fun xs ω2 => ∃ fds, FsOf c x ω2 fds ∧ S (x :: xs) ω2 Q fun y fs ω3 => RX y fs ρ ω3
theorem de_callM [I0 : AmbX X.K W RX] {Tf : TD} (C : CalM X.prog X.w X.K X.mg X.base k c "__call__" ps S) (hr : Room k X.A) (gd : X.A.guards = some []) (tk : Takes X W) (hf : DE X fe Tf) (ha : DA X (e :: es) T)
    (ht : eval (.Call fe (e :: es) [] pos) X.env = (do callWith pos (← eval fe X.env) [] (backTo pos (starEach (e :: es) X.env)) (backToKw pos (keywordEach [] X.env))) := by rfl)
    (he : starEach (e :: es) X.env = (false, eval e X.env) :: starEach es X.env := by rfl) (hpl : (backTo pos (starEach es X.env)).any (·.1) = false := by rfl) : DE X (.Call fe (e :: es) [] pos) (dCallM c S RX Tf T) := by
  obtain ⟨f, fd, F, hi, hfn, hn, _, hbb⟩ := C
  refine PE.weak (pe_callM hi hfn hn F hr gd hbb tk hf ha ht he hpl) fun σ H Q ⟨h, ρ, ω, R, sl, w, t, k⟩ => ?_
  refine ⟨h, ρ, ω, _, sl, w, t, fun x ω1 vx H1 ⟨⟨fds0, e0⟩, t1⟩ f1 w1 rx => ?_⟩
  obtain ⟨a, _, _, rfl, _, _⟩ := e0.at_ w1 rx
  refine ⟨a, rfl, h, ρ, ω1, _, sl.keep f1.kp, w1, t1, fun xs ω2 vs H2 ⟨fds, e1, t2⟩ f2 w2 rs => ?_⟩
  have rx2 := rx.keep f2.kp
  obtain ⟨q, dx, fvs, eq, hq, _⟩ := e1.at_ w2 rx2
  cases eq
  exact ⟨⟨dx, fvs, hq⟩, spM sl w (f1.trans f2) w2 (.cons rx2 rs) t2 (k.go (f1.trans f2))⟩
/-! ### o.f += e, numbers -/
def dFldAug (c f : Str) (To Tv : TD) : TSD := fun E ρ ω => To ρ ω fun o ω1 => ∃ x dx fds i, o = .raw (.ref x) ∧ ω1 x = some (.ins (Ers.ad c) dx fds) ∧ fds.lookup f = some (.int i) ∧ Tv ρ ω1 fun y ω2 => ∃ j dx' fds', y = .int j ∧ ω2 x = some (.ins (Ers.ad c) dx' fds') ∧ fds'.length < 1000 ∧
  E.nx ρ (oset ω2 x (.ins (Ers.ad c) dx' (dput f (.int (i + j)) fds')))
theorem ds_fldAug [Amb] {o value : Expr} {f : Str} {tpos : Pos} {To Tv : TD} (hC : Cls X.K (Ers.ad c)) (n : NoAttr X.K (Ers.ad c) f) (ho : DE X o To) (hv : DE X value Tv) : DS X (.AugAssign (.Attribute o f tpos) .Add value pos) (dFldAug c f To Tv) := by
  refine PS.weak (ps_fldaug ho hv in_add) fun E σ H ⟨h, ρ, ω, e, sl, w, t, k1, k2, k3, k4⟩ => ?_
  refine ⟨h, ρ, ω, _, sl, w, t, fun o ω1 ov H1 ⟨x, dx, fds, i, e1, e2, e3, t1⟩ f1 w1 r1 => ?_⟩
  subst e1
  cases r1
  obtain ⟨fvs, z1, z2⟩ := w1.cell x _ e2
  obtain ⟨u, l, ru⟩ := z2.look e3
  cases ru
  refine ⟨x, _, dx, fvs, _, rfl, z1, hC, n, l, h, ρ, ω1, _, sl.keep f1.kp, w1, t1, fun y ω2 vy H2 ⟨j, dx', fds', e4, e5, e6, q⟩ f2 w2 r2 => ?_⟩
  subst e4
  cases r2
  obtain ⟨gvs, y1, y2⟩ := w2.cell x _ e5
  refine ⟨_, _, rfl, rfl, dx', gvs, y1, by rw [← y2.len]; exact e6, ?_⟩
  exact k1 _ _ _ _ q (f1.trans (f2.trans (Fr.put e5))) (w2.put e5 fun H' f' kp hp => ⟨_, hp, (y2.put (.int _)).keep kp⟩) (sl.keep (f1.trans (f2.trans (Fr.put e5))).kp)
/-! ### isinstance(x, C) -/
structure ClsI (K : PySem.W.Frag) (C : Addr) : Prop where
  cl : Cls K C
  ha : findIn K (.ref C) "__class__" = some (some (.builtin "object.__class__"))
  hn : specialIn K (.builtin "object.__class__") "__get__" = some (some (.builtin "getset_descriptor.__get__"))
  htk : takesIn K (.builtin "object.__class__") = some true
  hm : mroIn K C (.type "object") = some true
  ic : isClsIn K C = true
  ty : typeIn K (.ref C) = some (.type "type")
theorem sub_ty {K : PySem.W.Frag} {t : String} (ht : t ∈ knownT) (C : Addr) : subIn K (.type t) (.ref C) = some false := by
  unfold knownT at ht
  simp only [List.mem_cons, List.not_mem_nil, or_false] at ht
  rcases ht with rfl | rfl | rfl | rfl | rfl | rfl | rfl <;> first | rfl | kernel_rfl
theorem kit_ty2 {K : PySem.W.Frag} {t : String} {C : Addr} (I : ClsI K C) (ht : t ∈ knownT) : kitOne K (.type t) (.ref C) = some false := by
  unfold kitOne kitCls
  have h2 := I.ic
  unfold isClsIn at h2
  rw [if_neg (by intro z; cases (eq_of_beq z))]
  dsimp only
  rw [if_pos (by rw [I.ty]; simp [h2])]
  exact sub_ty ht C
def IsOv (c : Str) (x : D) (ω : Om) (b : Bool) : Prop := (b = true ∧ ∃ fds, FsOf c x ω fds) ∨ (b = false ∧ ∃ t, tyN x = some t)
def dIsO (c : Str) : DOn := fun xs ω R => ∃ x b, xs = [x, clsD c] ∧ IsOv c x ω b ∧ R (.bl b) ω
theorem ok_isO [Amb] {K : PySem.W.Frag} (I : ClsI K (Ers.ad c)) (hb : blt c = false) : CallD K (dIsO c) (rIsi K) := by
  rintro h xs ω R vs H Q ⟨x, b, rfl, hx, r⟩ w rp k
  obtain ⟨v, u, rfl, r1, r2⟩ := rp.two
  have ec : clsD c = .raw (.ref (Ers.ad c)) := by unfold clsD clsV; rw [hb] <;> rfl
  rw [ec] at r2
  cases r2
  rcases hx with ⟨rfl, fds, F⟩ | ⟨rfl, t, et⟩
  · obtain ⟨a, dx, fvs, rfl, ha, _⟩ := F.at_ w r1
    refine ⟨_, _, .ref (Ers.ad c), .ref (Ers.ad c), true, rfl, .own _, .base (.ins ha I.cl I.ha I.hn I.htk I.hm), ?_, k.self w r (.bl _)⟩
    unfold kitOne
    rw [if_pos (by simp)]
  · obtain ⟨kt, ty⟩ := ty_ok et r1
    exact ⟨_, _, _, .ref (Ers.ad c), false, rfl, .own _, ty, kit_ty2 I kt, k.self w r (.bl _)⟩
end
/-! ### with the ambient named -/
section
variable {X : Cx} {K : PySem.W.Frag} {W : WX} {RX : DXS} (I0 : AmbX K W RX) {c : Str} {p pos : Pos} {a b e fe : Expr} {es : List Expr} {Ta Tb Te Tf : TD} {T : TAD} {S : SpDX} {ps : List Str} {k : Nat}
theorem de_makeK (M : ClsM X.K X.mg c) (C : CalM X.prog X.w X.K X.mg X.base k c "__init__" ps S) (hr : Room (k + 1) X.A) (gd : X.A.guards = some []) (tk : Takes X W) (hg : Gl X c) (ha : @DA I0.toAmb X (e :: es) T) (hdb : (c == ("__debug__" : Str)) = false := by decide)
    (e1 : starEach (e :: es) X.env = (false, eval e X.env) :: starEach es X.env := by rfl) (e2 : (backTo pos (starEach es X.env)).any (·.1) = false := by rfl) (hK : X.K = K := by rfl) : @DE I0.toAmb X (.Call (.Name c p) (e :: es) [] pos) (dMake c S RX T) := by
  subst hK
  exact de_make (I0 := I0) M C hr gd tk hg ha hdb e1 e2
theorem de_makeOK (M : ClsM X.K X.mg c) (C : CalM X.prog X.w X.K X.mg X.base k c "__init__" ps S) (hr : Room (k + 1) X.A) (gd : X.A.guards = some []) (tk : Takes X W) (hg : Gl X c) (ha : @DA I0.toAmb X (e :: es) T) (hdb : (c == ("__debug__" : Str)) = false := by decide)
    (e1 : starEach (e :: es) X.env = (false, eval e X.env) :: starEach es X.env := by rfl) (e2 : (backTo pos (starEach es X.env)).any (·.1) = false := by rfl) (hK : X.K = K := by rfl) : @DE I0.toAmb X (.Call (.Name c p) (e :: es) [] pos) (dMakeO c S RX T) := by
  subst hK
  exact de_makeO (I0 := I0) M C hr gd tk hg ha hdb e1 e2
theorem de_binMK {op : Operator} (hc : selfFirst X.K (Ers.ad c) = true) (C : CalM X.prog X.w X.K X.mg X.base k c (PySem.dunder op.info.2) ps S) (hr : Room k X.A) (gd : X.A.guards = some []) (tk : Takes X W) (ha : @DE I0.toAmb X a Ta) (hb : @DE I0.toAmb X b Tb) (hK : X.K = K := by rfl) :
    @DE I0.toAmb X (.BinOp a op b pos) (dBinM c S RX Ta Tb) := by
  subst hK
  exact de_binM (I0 := I0) hc C hr gd tk ha hb
theorem de_callMK (C : CalM X.prog X.w X.K X.mg X.base k c "__call__" ps S) (hr : Room k X.A) (gd : X.A.guards = some []) (tk : Takes X W) (hf : @DE I0.toAmb X fe Tf) (ha : @DA I0.toAmb X (e :: es) T)
    (ht : eval (.Call fe (e :: es) [] pos) X.env = (do callWith pos (← eval fe X.env) [] (backTo pos (starEach (e :: es) X.env)) (backToKw pos (keywordEach [] X.env))) := by rfl)
    (he : starEach (e :: es) X.env = (false, eval e X.env) :: starEach es X.env := by rfl) (hpl : (backTo pos (starEach es X.env)).any (·.1) = false := by rfl) (hK : X.K = K := by rfl) : @DE I0.toAmb X (.Call fe (e :: es) [] pos) (dCallM c S RX Tf T) := by
  subst hK
  exact de_callM (I0 := I0) C hr gd tk hf ha ht he hpl
end
/-! ### the steps of a reading -/
section
variable {ρ : Rho} {ω : Om} {Q : DQ} {E : DEnds} {c f : Str} {Te To Tv Ta Tb Tf : TD} {T : TAD} {S : SpDX} {RX : DXS} {x y : D}
theorem st_fldS (h : Tv ρ ω fun d ω1 => To ρ ω1 fun o ω2 => ∃ x dx fds, o = .raw (.ref x) ∧ ω2 x = some (.ins (Ers.ad c) dx fds) ∧ fds.length < 1000 ∧ E.nx ρ (oset ω2 x (.ins (Ers.ad c) dx (dput f d fds)))) : dFldS c f To Tv E ρ ω := h
theorem st_fld (h : Te ρ ω fun x ω1 => ∃ fds v, FsOf c x ω1 fds ∧ fds.lookup f = some v ∧ Q v ω1) : dFld c f Te ρ ω Q := h
theorem st_make (h : T ρ ω fun xs ω1 => ∀ x dx, ω1 x = none → ω1 dx = none → dx ≠ x →
  S (.raw (.ref x) :: xs) (oset ω1 x (.ins (Ers.ad c) dx [])) (fun v ω2 => v = .non ∧ ∃ dx' fds, ω2 x = some (.ins (Ers.ad c) dx' fds) ∧ Q (.obj (Ers.ad c) fds) (oera ω2 x)) fun y fs ω2 => RX y fs ρ ω2) : dMake c S RX T ρ ω Q := h
theorem st_makeO (h : T ρ ω fun xs ω1 => ∀ x dx, ω1 x = none → ω1 dx = none → dx ≠ x →
  S (.raw (.ref x) :: xs) (oset ω1 x (.ins (Ers.ad c) dx [])) (fun v ω2 => v = .non ∧ Q (.raw (.ref x)) ω2) fun y fs ω2 => RX y fs ρ ω2) : dMakeO c S RX T ρ ω Q := h
theorem st_subM (h : Ta ρ ω fun x ω1 => Tb ρ ω1 fun y ω2 => ∃ fds, FsOf c x ω2 fds ∧ S [x, y] ω2 Q fun y fs ω3 => RX y fs ρ ω3) : dSubM c S RX Ta Tb ρ ω Q := h
theorem st_binM (h : Ta ρ ω fun x ω1 => Tb ρ ω1 fun y ω2 => ∃ fds gds, FsOf c x ω2 fds ∧ FsOf c y ω2 gds ∧ S [x, y] ω2 Q fun y fs ω3 => RX y fs ρ ω3) : dBinM c S RX Ta Tb ρ ω Q := h
theorem st_callM (h : Tf ρ ω fun x ω1 => (∃ fds, FsOf c x ω1 fds) ∧ T ρ ω1 fun xs ω2 => ∃ fds, FsOf c x ω2 fds ∧ S (x :: xs) ω2 Q fun y fs ω3 => RX y fs ρ ω3) : dCallM c S RX Tf T ρ ω Q := h
theorem st_fldAug (h : To ρ ω fun o ω1 => ∃ x dx fds i, o = .raw (.ref x) ∧ ω1 x = some (.ins (Ers.ad c) dx fds) ∧ fds.lookup f = some (.int i) ∧ Tv ρ ω1 fun y ω2 => ∃ j dx' fds', y = .int j ∧ ω2 x = some (.ins (Ers.ad c) dx' fds') ∧ fds'.length < 1000 ∧
  E.nx ρ (oset ω2 x (.ins (Ers.ad c) dx' (dput f (.int (i + j)) fds')))) : dFldAug c f To Tv E ρ ω := h
theorem st_isO (b : Bool) (hx : IsOv c x ω b) (h : Q (.bl b) ω) : dIsO c [x, clsD c] ω Q := ⟨x, b, rfl, hx, h⟩
theorem st_lenM {fds : List (Str × D)} (F : FsOf c x ω fds) (h : S [x] ω (fun d ω' => ∃ n : Int, d = .int n ∧ 0 ≤ n ∧ n < 2 ^ 63 ∧ Q (.int n) ω') fun _ _ _ => False) : dLenM c S [x] ω Q := ⟨x, fds, rfl, F, h⟩
end
end DL

/-! XQ: xs.count(e), xs.index(e) of lists and tuples of numbers or truth values. -/
namespace DL
open PySem PySem.Spec L2 PyProof.Rows
section
variable {X : Cx} {a e : Expr} {pos : Pos} {Ta Te : TD}
theorem countP_eqU {y : V} (fy : flatV y = true) : ∀ {ys : List V} {us : List Value}, Vals ys us → ys.all flatV = true → us.countP (eqU y) = ys.countP (fun z => eqV z y)
  | _, _, .nil, _ => rfl
  | z :: ys, u :: us, .cons r t, f => by
    rw [List.all_cons, Bool.and_eq_true] at f
    rw [List.countP_cons, List.countP_cons, countP_eqU fy t f.2, eqU_of r f.1]
def rCntF (K : PySem.W.Frag) : V → List V → Hp → VK → Prop := fun x xs H Q => ∃ (p : Addr) (ys : List V) (y : V), x = .ref p ∧ xs = [y] ∧ SqL K H p ys ∧ flatV y = true ∧ ys.all flatV = true ∧ Q (.int (ys.countP (fun z => eqV z y) : Nat)) H
def rCntT (K : PySem.W.Frag) : V → List V → Hp → VK → Prop := fun x xs H Q => ∃ (p : Addr) (ys : List V) (y : V), x = .ref p ∧ xs = [y] ∧ SqT K H p ys ∧ flatV y = true ∧ ys.all flatV = true ∧ Q (.int (ys.countP (fun z => eqV z y) : Nat)) H
theorem mt_cntT : MtR X "tuple.count" (rCntT X.K) := by
  intro pins s σ H x xs v us Q I rx rxs h
  obtain ⟨p, ys, y, rfl, rfl, hs, fy, fys, q⟩ := h
  cases rx
  obtain ⟨u, rfl, ru⟩ := rxs.one
  obtain ⟨its, rv, ⟨⟨cls, dd, data, sl⟩, ho, hc, n, hd⟩, hlen⟩ := I.tuple hs
  simp only at hc hd
  subst hc hd
  refine call_meets PySem.F.slot_tuple_count ⟨_, ho, rfl⟩ PySem.F.entry_tuple_count (PySem.F.args_tuple_count_2 _ _)
    (SeqAt.tuple_countAt p its.toArray n dd sl u (eqU y)) ⟨ho, fun z hz => mem_eqAt ru fy rv fys z (by simpa using hz), ?_⟩
  refine ⟨.int (ys.countP (fun z => eqV z y) : Nat), H, I.tok _, ⟨s.toks, ?_⟩, q⟩
  rw [← countP_eqU fy rv fys]
/-- xs.count(e), xs a list of truth values -/
def dCntB (Ta Te : TD) : TD := fun ρ ω Q => Ta ρ ω fun x ω1 => ∃ bs : List Bool, x = .lst (bs.map D.bl) ∧ Te ρ ω1 fun y ω2 => ∃ b, y = .bl b ∧ Q (.int (bs.count b : Nat)) ω2
/-- xs.index(e), xs a list of truth values -/
def dIdxB (Ta Te : TD) : TD := fun ρ ω Q => Ta ρ ω fun x ω1 => ∃ bs : List Bool, x = .lst (bs.map D.bl) ∧ Te ρ ω1 fun y ω2 => ∃ b, y = .bl b ∧ b ∈ bs ∧ Q (.int (bs.idxOf b : Nat)) ω2
theorem flatV_ints : ∀ ns : List Int, (ns.map V.int).all flatV = true
  | [] => rfl
  | _ :: ns => by rw [List.map_cons, List.all_cons, flatV_ints ns]; rfl
theorem cnt_ints (k : Int) : ∀ ns : List Int, (ns.map V.int).countP (fun z => eqV z (.int k)) = ns.count k
  | [] => rfl
  | c :: ns => by
    rw [List.map_cons, List.countP_cons, List.count_cons, cnt_ints k ns]
    rfl
variable {ρ : Rho} {ω : Om} {Q : DQ}
theorem st_cntB (h : Ta ρ ω fun x ω1 => ∃ bs : List Bool, x = .lst (bs.map D.bl) ∧ Te ρ ω1 fun y ω2 => ∃ b, y = .bl b ∧ Q (.int (bs.count b : Nat)) ω2) : dCntB Ta Te ρ ω Q := h
theorem st_idxB (h : Ta ρ ω fun x ω1 => ∃ bs : List Bool, x = .lst (bs.map D.bl) ∧ Te ρ ω1 fun y ω2 => ∃ b, y = .bl b ∧ b ∈ bs ∧ Q (.int (bs.idxOf b : Nat)) ω2) : dIdxB Ta Te ρ ω Q := h
end
/-! ### o.m(e, ..) -/
section
variable [Ers] {X : Cx} {W : WX} {RX : DXS} {c m : Str} {o e : Expr} {es : List Expr} {To : TD} {T : TAD} {S : SpDX} {ps : List Str} {k : Nat} {apos pos : Pos}
theorem pe_methGS {C f : Addr} {fd : FuncData} {sp : Sp} {ta : TE} {t : TA} {pl : Sem Bool} (he : PE X o ta) (cl : Cls X.K C) (hm : Meth X.K C m f) (F : FnG X.prog X.w X.K X.mg X.base (L2.CX X.prog X.w) k f fd ps sp) (hr : Room k X.A) (gd : X.A.guards = some []) (hb : Binds X.K fd ps []) (tk : Takes X W) (ha : PA X (e :: es) t)
    (hst : starEach (e :: es) X.env = (false, eval e X.env) :: starEach es X.env := by rfl) (hpl : (backTo pos (starEach es X.env)).any (·.1) = false := by rfl)
    (ht : eval (.Call (.Attribute o m apos) (e :: es) [] pos) X.env = (do
      let ov ← eval o X.env
      standAt apos.atName
      let (f, first) ← holding [ov] (getMethod ov m pl)
      callWith pos f first (backTo pos (starEach (e :: es) X.env)) (backToKw pos (keywordEach [] X.env))) := by rfl) :
    PE X (.Call (.Attribute o m apos) (e :: es) [] pos) (fun σ H Q => ta σ H fun x H1 => ∃ a dx fs, x = .ref a ∧ H1 a = some (.ins C dx fs) ∧ fs.lookup m = none ∧ t σ H1 fun vs H2 => sp (.ref a :: vs) H2 Q fun c d H3 => W c d σ H3) := by
  refine ⟨fun pins s σ H Q I h => ?_⟩
  refine PySem.W.methodCall_KW (pl := pl) (thn (he.run pins s σ H _ I h) fun u s1 ⟨x, H1, I1, rx, a, dx, fs, ex, ea, l, q⟩ => ?_) ht
  subst ex
  obtain rfl : u = Value.ref a := rx
  refine getmeth_ok I1 ea cl hm l ?_
  refine PySem.W.callWith_K (first := [.ref a]) (h₀ := X.base) I.ok.mod.kin hm.kp (thn (ha.run pos pins s1 σ H1 _ I1 q) fun us s2 ⟨vs, H2, I2, r, q2⟩ => ⟨I2.kIn, ?_⟩) hst hpl
  exact runM (us := .ref a :: us) (vs := .ref a :: vs) F hr gd I2.env0 hb tk I2 (.cons rfl r) q2
theorem pe_methGS0 {C f : Addr} {fd : FuncData} {sp : Sp} {ta : TE} {pl : Sem Bool} (he : PE X o ta) (cl : Cls X.K C) (hm : Meth X.K C m f) (F : FnG X.prog X.w X.K X.mg X.base (L2.CX X.prog X.w) k f fd ps sp) (hr : Room k X.A) (gd : X.A.guards = some []) (hb : Binds X.K fd ps []) (tk : Takes X W)
    (ht : eval (.Call (.Attribute o m apos) [] [] pos) X.env = (do
      let ov ← eval o X.env
      standAt apos.atName
      let (f, first) ← holding [ov] (getMethod ov m pl)
      callWith pos f first (backTo pos (starEach [] X.env)) (backToKw pos (keywordEach [] X.env))) := by rfl) :
    PE X (.Call (.Attribute o m apos) [] [] pos) (fun σ H Q => ta σ H fun x H1 => ∃ a dx fs, x = .ref a ∧ H1 a = some (.ins C dx fs) ∧ fs.lookup m = none ∧ sp [.ref a] H1 Q fun c d H3 => W c d σ H3) := by
  refine ⟨fun pins s σ H Q I h => ?_⟩
  refine PySem.W.methodCall_KW (pl := pl) (thn (he.run pins s σ H _ I h) fun u s1 ⟨x, H1, I1, rx, a, dx, fs, ex, ea, l, q⟩ => ?_) ht
  subst ex
  obtain rfl : u = Value.ref a := rx
  refine getmeth_ok I1 ea cl hm l ?_
  exact PySem.W.callWith_K0 (first := [.ref a]) I1.kIn hm.kp (runM (us := [.ref a]) (vs := [.ref a]) F hr gd I1.env0 hb tk I1 (.cons rfl .nil) q)
/-- o.m(e, ..) -/
def dMeth (c m : Str) (S : SpDX) (RX : DXS) (To : TD) (T : TAD) : TD := fun ρ ω Q => To ρ ω fun x ω1 => (∃ fds, FsOf c x ω1 fds ∧ fds.lookup m = none) ∧ T ρ ω1 fun xs ω2 => S (x :: xs) ω2 Q fun y fs ω3 => RX y fs ρ ω3
theorem RpFs.none {K : PySem.W.Frag} {p : Fp} {H : Hp} {f : Str} : ∀ {ds : List (Str × D)} {vs : List (Str × V)}, RpFs K p H ds vs → ds.lookup f = none → vs.lookup f = none
  | _, _, .nil, _ => rfl
  | (g, _) :: _, _, .cons r t, e => by
    rw [List.lookup_cons] at e ⊢
    cases y : f == g with
    | true => rw [y] at e; cases e
    | false => rw [y] at e; exact RpFs.none t e
theorem de_methK {K : PySem.W.Frag} (I0 : AmbX K W RX) {pl : Sem Bool} (cl : Cls X.K (Ers.ad c)) (C : CalM X.prog X.w X.K X.mg X.base k c m ps S) (hr : Room k X.A) (gd : X.A.guards = some []) (tk : Takes X W) (ho : @DE I0.toAmb X o To) (ha : @DA I0.toAmb X (e :: es) T)
    (hst : starEach (e :: es) X.env = (false, eval e X.env) :: starEach es X.env := by rfl) (hpl : (backTo pos (starEach es X.env)).any (·.1) = false := by rfl)
    (ht : eval (.Call (.Attribute o m apos) (e :: es) [] pos) X.env = (do
      let ov ← eval o X.env
      standAt apos.atName
      let (f, first) ← holding [ov] (getMethod ov m pl)
      callWith pos f first (backTo pos (starEach (e :: es) X.env)) (backToKw pos (keywordEach [] X.env))) := by rfl) (hK : X.K = K := by rfl) :
    @DE I0.toAmb X (.Call (.Attribute o m apos) (e :: es) [] pos) (dMeth c m S RX To T) := by
  subst hK
  obtain ⟨f, fd, F, hi, hfn, hn, hk, hbb⟩ := C
  refine PE.weak (pe_methGS ho cl ⟨hi, hfn, hk⟩ F hr gd hbb tk ha hst hpl ht) fun σ H Q ⟨h, ρ, ω, R, sl, w, t, k⟩ => ?_
  refine ⟨h, ρ, ω, _, sl, w, t, fun x ω1 vx H1 ⟨⟨fds0, e0, l0⟩, t1⟩ f1 w1 rx => ?_⟩
  obtain ⟨a, dx, fvs, rfl, ha1, rf⟩ := e0.at_ w1 rx
  refine ⟨a, dx, fvs, rfl, ha1, rf.none l0, h, ρ, ω1, _, sl.keep f1.kp, w1, t1, fun xs ω2 vs H2 t2 f2 w2 rs => ?_⟩
  exact spM sl w (f1.trans f2) w2 (.cons (rx.keep f2.kp) rs) t2 (k.go (f1.trans f2))
theorem de_meth0K {K : PySem.W.Frag} (I0 : AmbX K W RX) {pl : Sem Bool} (cl : Cls X.K (Ers.ad c)) (C : CalM X.prog X.w X.K X.mg X.base k c m ps S) (hr : Room k X.A) (gd : X.A.guards = some []) (tk : Takes X W) (ho : @DE I0.toAmb X o To)
    (ht : eval (.Call (.Attribute o m apos) [] [] pos) X.env = (do
      let ov ← eval o X.env
      standAt apos.atName
      let (f, first) ← holding [ov] (getMethod ov m pl)
      callWith pos f first (backTo pos (starEach [] X.env)) (backToKw pos (keywordEach [] X.env))) := by rfl) (hK : X.K = K := by rfl) :
    @DE I0.toAmb X (.Call (.Attribute o m apos) [] [] pos) (dMeth c m S RX To dNil) := by
  subst hK
  obtain ⟨f, fd, F, hi, hfn, hn, hk, hbb⟩ := C
  refine PE.weak (pe_methGS0 ho cl ⟨hi, hfn, hk⟩ F hr gd hbb tk ht) fun σ H Q ⟨h, ρ, ω, R, sl, w, t, k⟩ => ?_
  refine ⟨h, ρ, ω, _, sl, w, t, fun x ω1 vx H1 ⟨⟨fds0, e0, l0⟩, t1⟩ f1 w1 rx => ?_⟩
  obtain ⟨a, dx, fvs, rfl, ha1, rf⟩ := e0.at_ w1 rx
  exact ⟨a, dx, fvs, rfl, ha1, rf.none l0, spM sl w f1 w1 (.cons rx .nil) t1 (k.go f1)⟩
/-! ### isinstance(x, list) where x may be an instance -/
/-- the classes of instances that are asked, and that they are no such built-in type -/
structure ClsN (K : PySem.W.Frag) (c : Str) (n : String) : Prop where
  is : ClsI K (Ers.ad c)
  no : PySem.W.kitOne K (.ref (Ers.ad c)) (.type n) = some false
def dIsiO (c : Str) (n : String) : DOn := fun xs ω R => (∃ x fds, xs = [x, .raw (.ty n)] ∧ FsOf c x ω fds ∧ R (.bl false) ω) ∨ dIsi xs ω R
variable {ρ : Rho} {ω : Om} {Q : DQ}
theorem st_meth (h : To ρ ω fun x ω1 => (∃ fds, FsOf c x ω1 fds ∧ fds.lookup m = none) ∧ T ρ ω1 fun xs ω2 => S (x :: xs) ω2 Q fun y fs ω3 => RX y fs ρ ω3) : dMeth c m S RX To T ρ ω Q := h
end
end DL

/-! XS: steps of readings: try, what a suite asks of its error, instances that become data. -/
namespace DL
open PySem PySem.Spec L2
section
variable [Ers] {prs : List (Str × Str)} {c x f : Str} {i : Nat} {Tb : DXS → TSD} {Ts : Str → Addr → Option Addr → TSD} {RXo : DXS} {E : DEnds} {ρ : Rho} {ω ω' : Om} {l : List (Str × D)} {Q : DQ}
theorem Ext.xd {dd : Addr} {k : Cell} (n : ω dd = none) : Ext ω (oset ω dd k) := fun b hb => oset_ne fun z => hb (by rw [z]; exact n)
/-- an error with fields is caught -/
theorem st_catch (m : (x, c) ∈ prs) (hb : subB x c = true) (h : ∀ a dd ω2, Ext ω ω2 → ω2 dd = some (.xd l) → Ts x a (some dd) (dGone i E) (ρ.set i (some (.raw (.ref a)))) ω2) : dCatch prs c i Ts RXo E x (some l) ρ ω := by
  refine ⟨m, fun _ a d ω2 xp => ?_, fun z => by rw [hb] at z; cases z⟩
  rcases xp with ⟨e, _⟩ | ⟨l', dd, e1, e2, n, e3⟩
  · cases e
  · cases e1
    subst e2 e3
    exact h a dd _ (Ext.xd n) oset_same
/-- an error without fields is caught -/
theorem st_catch0 (m : (x, c) ∈ prs) (hb : subB x c = true) (h : ∀ a, Ts x a none (dGone i E) (ρ.set i (some (.raw (.ref a)))) ω) : dCatch prs c i Ts RXo E x none ρ ω := by
  refine ⟨m, fun _ a d ω2 xp => ?_, fun z => by rw [hb] at z; cases z⟩
  rcases xp with ⟨_, e2, e3⟩ | ⟨l', dd, e1, _⟩
  · subst e2 e3
    exact h a
  · cases e1
theorem oera_oset {p : Addr} {k : Cell} (h : ω p = none) : oera (oset ω p k) p = ω := by
  funext b
  by_cases e : b = p
  · rw [e, oera_same, h]
  · rw [oera_ne e, oset_ne e]
theorem FsOf.obj {fds : List (Str × D)} : FsOf c (.obj (Ers.ad c) fds) ω fds := .inl rfl
theorem FsOf.own {a dx : Addr} {fds : List (Str × D)} (h : ω a = some (.ins (Ers.ad c) dx fds)) : FsOf c (.raw (.ref a)) ω fds := .inr ⟨a, dx, rfl, h⟩
theorem st_p8 (h : Q (.int 100000000) ω) : dPow (.int 10) (.int 8) ω Q := st_pow ⟨by decide, by decide, by decide⟩ h
/-- a text of signs, as written -/
theorem nice_shown {s : Str} {n m : Nat} (ok : PyData.strOk s = true) (l : s.length ≤ n) (h : 10 * n + 2 ≤ m) : Nice 0 m (.str s) := nice_str (by
  have hx : ∀ c ∈ s.cps.toList, c < 16 ^ 8 := fun c hc => by
    unfold PyData.strOk at ok
    have := Array.all_eq_true_iff_forall_mem.mp ok c (by simpa using hc)
    have : c < 0x110000 := by simpa using this
    omega
  have := StrLaws.reprText_len s hx
  omega)
/-- a list of two texts beside a list of two texts, both the same -/
theorem st_neStr2' {s t : Str} (ok : PyData.strOk s = true) (ok2 : PyData.strOk t = true) (h : Q (.bl false) ω) : dEq true (.lst [.str s, .str t]) (.lst [.str s, .str t]) ω Q := by
  show eqD _ _ ∧ Q _ ω
  refine ⟨⟨rfl, rfl, ?_, ?_⟩, ?_⟩
  · simp [SeqAt.shaped, D.py, pyAll, PyData.canLay0, PyData.canLayAll0, PyData.depth, PyData.depthAll, ok, ok2]
  · simp [SeqAt.shaped, D.py, pyAll, PyData.canLay0, PyData.canLayAll0, PyData.depth, PyData.depthAll, ok, ok2]
  · have e : PyData.eqv (D.lst [.str s, .str t]).py (D.lst [.str s, .str t]).py = true := by simp [D.py, pyAll, PyData.eqv, PyData.eqvAll]
    rw [e]
    exact h
end
end DL

/-! XW: an error that a suite hands to a def: what that def asks of it. -/
namespace DL
open PySem PySem.Spec L2 PyProof.Rows PySem.W
variable [Ers]
abbrev SpDE := Str → Addr → Option Addr → SpD
def spE (K : PySem.W.Frag) (prs : List (Str × Str)) (S : SpDE) (p : Addr × Obj) : List V → Hp → VK → Prop := fun vs H Q => ∃ x d h ω R, vs = [.ref p.1] ∧ Zc (.ref (Ers.ad x)) d p.2 ∧ (∃ vs, p.2.data = .fields vs) ∧ (∃ y, (x, y) ∈ prs) ∧ @Wd amb0 K h H ω ∧ S x p.1 d [.raw (.ref p.1)] ω R ∧ @Cnt K amb0 h H ω R Q
/-- a def that is handed the error that its caller's suite holds -/
structure FnE (P : Program) (w : World) (K : PySem.W.Frag) (mg : Str → Option Value) (base : Heap) (prs : List (Str × Str)) (k : Nat) (f : Addr) (fd : FuncData) (ps : List Str) (S : SpDE) : Prop where
  one : ps.length = 1
  goes : ∀ (A : Around) (fs : List Env) (s : Shared) (hp : Hp) (ar : Args) (us : List Value) (as : List V) (q : VK) (p : Addr × Obj),
    L2H.RoomH k A → A.guards = some [] → L2H.PinOk fs hp s p → Env0 P w K mg base A fs s hp → BindsTo s fd ar (ps.zip us) → Vals as us → spE K prs S p as hp q →
    codeAny (model P w) A (.call (.ref f) ar) (CR CX0 fs P w hp s q fun _ _ _ => False) s
theorem FnE.of {P : Program} {w : World} {K : PySem.W.Frag} {mg : Str → Option Value} {base : Heap} {prs : List (Str × Str)} {k : Nat} {x qual : Str} {st : Stmt} {f : Addr} {fd : FuncData} {N ps : List Str} {S : SpDE} {T : Str → Addr → Option Addr → TSD}
    (F : Fun K x qual st f fd) (sc : FnScope N ps (defScope st)) (lp : ps.length = 1)
    (b : ∀ (cdv : Value) (A : Around) (fs : List Env) (s : Shared) (hp : Hp) (p : Addr × Obj) (y : Str) (d : Option Addr), Zc (.ref (Ers.ad y)) d p.2 → (∃ vs, p.2.data = .fields vs) → (∃ z, (y, z) ∈ prs) → L2H.RoomH k (A.deeper (PyProof.Rows.envOfC qual (defScope st) s.heap.objs.size f cdv)) → A.guards = some [] →
      DSs (L2H.cxH CX0 P w K mg base N qual (defScope st) f cdv A fs s hp (fun _ _ _ => False) p) (defBody st) (T y p.1 d))
    (rd : ∀ y a d ω R, S y a d [.raw (.ref a)] ω R → T y a d { nx := fun _ ω' => R .non ω', rt := R } (startD N [.raw (.ref a)]) ω) : FnE P w K mg base prs (k + 1) f fd ps S := by
  obtain ⟨oc, od, kV, doc, pm, an, cdv, ct, osl, rfl, lk, hcd⟩ := F.ex
  refine ⟨lp, fun A fs s hp args us vs q p room gd pin en hb rv ⟨y, d, h, ω, R, ev, hz, hf, hm, w, sp, kk⟩ => ?_⟩
  subst ev
  have la : [V.ref p.1].length = ps.length := lp.symm
  have inn : K.In s.heap := en.mod.kin.keeps fun b o z => (en.bs b o z).1
  have nol : s.heap.NoLimit := en.mod.nolimit.keeps fun b o z => (en.bs b o z).1
  have kinds : ∀ y ∈ ps.zip us, (defScope st).names.lookup y.1 = some .local ∨
      ((defScope st).names.lookup y.1 = some .cell ∧ ((cellsFrom (s.heap.objs.size + 1) (defScope st).names []).lookup y.1).isSome = true) := fun ⟨n, v⟩ hy => (sc.par n (List.of_mem_zip hy).1).imp id fun z => ⟨z, PySem.W.cellsFrom_some _ _ _ (.inl z)⟩
  refine codeAny_call_function room.depth (inn _ _ lk) rfl sc.co sc.gen rfl
    (PySem.W.codeRec_of inn hcd) (hb _ _ _ _ ?_)
  refine wpAny_newFunctionEnv_cells sc.kind kinds fun en1 he t1 x1 => ?_
  subst he
  refine ⟨nol.keeps x1.toInCall.keep, codeAny_func ?_⟩
  have J := L2H.inv_startH (CX := CX0) (E := fun _ _ _ => False) (f := f) sc pin en la rv x1
  have ht := b cdv A fs s hp p y d hz hf hm (room.deeper _) gd
  refine wpAny_mono (ht.run [] t1 (L2.start N [.ref p.1]) hp { nx := fun _ hp' => q .non hp', rt := q } J ⟨h, startD N [.raw (.ref p.1)], ω, _, Sl.start (.cons (.raw _) .nil), w, rd y p.1 d ω R sp, fun ρ' ω' σ' H' z f' w' _ => kk .non ω' .non H' z f' w' .non, kk, fun _ _ _ _ z => z.elim, fun _ _ _ _ z => z.elim⟩) (fun fl s' z => ?_) fun _ _ z => z
  match fl, z with
  | .ret u, ⟨v, σ', hp', J', rv', z'⟩ => exact ⟨v, hp', J'.os, J'.bare, J'.base, J'.hok, rv', z'⟩
  | .next, ⟨σ', hp', J', z'⟩ => exact ⟨.non, hp', J'.os, J'.bare, J'.base, J'.hok, rfl, z'⟩
  | .brk, ⟨_, _, _, z'⟩ => exact z'.elim
  | .cont, ⟨_, _, _, z'⟩ => exact z'.elim
def CalE (P : Program) (w : World) (K : PySem.W.Frag) (mg : Str → Option Value) (base : Heap) (prs : List (Str × Str)) (k : Nat) (x : Str) (ps : List Str) (S : SpDE) : Prop :=
  ∃ f fd, FnE P w K mg base prs k f fd ps S ∧ mg x = some (.ref f) ∧ keepIn K (.ref f) = true ∧ Binds K fd ps []
theorem CalE.mk {P : Program} {w : World} {K : PySem.W.Frag} {mg : Str → Option Value} {base : Heap} {prs : List (Str × Str)} {k : Nat} {x : Str} {st : Stmt} {N ps : List Str} {S : SpDE} {T : Str → Addr → Option Addr → TSD} (D : DefAt K mg x st) (sc : FnScope N ps (defScope st)) (lp : ps.length = 1)
    (bi : ∀ (kV doc pm : Value) (an : Option Addr) (cdv ct : Value) (us : List Value), us.length = ps.length → bindArgs (PySem.W.fnOf x x (defArgs st) (defBody st) (defScope st) .none kV doc pm an cdv ct) ⟨us, []⟩ = pure (ps.zip us))
    (b : ∀ (f : Addr) (cdv : Value) (A : Around) (fs : List Env) (s : Shared) (hp : Hp) (a : Addr) (oe : Obj) (y : Str) (d : Option Addr), Zc (.ref (Ers.ad y)) d oe → (∃ vs, oe.data = .fields vs) → (∃ z, (y, z) ∈ prs) → L2H.RoomH k (A.deeper (PyProof.Rows.envOfC x (defScope st) s.heap.objs.size f cdv)) → A.guards = some [] →
      DSs (L2H.cxH CX0 P w K mg base N x (defScope st) f cdv A fs s hp (fun _ _ _ => False) (a, oe)) (defBody st) (T y a d))
    (rd : ∀ y a d ω R, S y a d [.raw (.ref a)] ω R → T y a d { nx := fun _ ω' => R .non ω', rt := R } (startD N [.raw (.ref a)]) ω) : CalE P w K mg base prs (k + 1) x ps S := by
  obtain ⟨f, fd, hm, F⟩ := D
  exact ⟨f, fd, FnE.of F sc lp (fun cdv A fs s hp p y d => b f cdv A fs s hp p.1 p.2 y d) rd, hm, F.kp, F.binds bi⟩
/-! ### what such a def asks -/
/-! ### the suite hands its error over -/
section
variable {X : Cx} {a : Addr} {oe : Obj} {pn : List (Addr × Obj)} {k : Nat} {f : Addr} {fd : FuncData} {ps : List Str} {prs : List (Str × Str)} {S : SpDE} {x y c : Str} {d : Option Addr} {p pos : Pos} {e : Expr} {te : TE} {Te : TD}
/-- f(e), e the error that the suite holds -/
def dCallE (x : Str) (a : Addr) (d : Option Addr) (S : SpDE) (Te : TD) : TD := fun ρ ω Q => Te ρ ω fun v ω1 => v = .raw (.ref a) ∧ S x a d [.raw (.ref a)] ω1 Q
variable {ρ : Rho} {ω : Om} {Q : DQ}
theorem st_callE (h : Te ρ ω fun v ω1 => v = .raw (.ref a) ∧ S x a d [.raw (.ref a)] ω1 Q) : dCallE x a d S Te ρ ω Q := h
end
end DL

/-! XV: loads and baskets as data and as owned instances. -/
namespace DL
open PySem PySem.Spec L2
variable [Ers]
/-- the fields of a load -/
def loadF (ws : List Int) : List (Str × D) := [("_weights", .tup ((srt ws).map D.int)), ("_total", .int ws.sum)]
def loadD (ws : List Int) : D := .obj (Ers.ad "Load") (loadF ws)
/-- weights of a load -/
def LoadW (ws : List Int) : Prop := ws.length ≤ 100 ∧ ∀ w ∈ ws, 1 ≤ w ∧ w ≤ 1000000
def isLoadV (v : D) : Prop := ∃ ws, v = .tup (ws.map D.int) ∧ LoadW ws
theorem dput_ne {f g : Str} {d x : D} {r : List (Str × D)} (h : g ≠ f) : dput f d ((g, x) :: r) = (g, x) :: dput f d r := if_neg h
theorem dput_eq {f : Str} {d x : D} {r : List (Str × D)} : dput f d ((f, x) :: r) = (f, d) :: r := if_pos rfl
/-- a number from lo to hi -/
def numV : D → Int → Int → Bool
  | .int i, lo, hi => decide (lo ≤ i ∧ i ≤ hi)
  | _, _, _ => false
theorem ok_items : ∀ {xs : List D}, okAll xs = true → ∀ x ∈ xs, x.ok = true
  | [], _, _, h => nomatch h
  | y :: xs, h, x, hx => by
    rw [okAll, Bool.and_eq_true] at h
    rcases List.mem_cons.mp hx with rfl | hx
    · exact h.1
    · exact ok_items h.2 x hx
def baskF (e r : Int) : List (Str × D) := [("_excess", .int e), ("_rides", .int r)]
/-- what a basket's call gives, and what it counts then -/
def rideB (e : Int) (ws vs : List Int) : Bool := decide (1 ≤ ws.sum - vs.sum ∧ ws.sum - vs.sum ≤ e)
def rideD (e : Int) (ws vs : List Int) : D := if rideB e ws vs = true then .int (ws.sum - vs.sum) else .non
/-! ### repr of an owned list -/
section
variable {X : Cx}
def dReprO : DOn := fun xs ω Q => ∃ p ds, xs = [.raw (.ref p)] ∧ ω p = some (.lst ds) ∧ Shows (.lst ds) ∧ Q (.str (D.lst ds).py.shown) ω
end
end DL

/-! XG: errors of classes over LookupError whose __init__ keeps one field. -/
namespace DL
open PySem PySem.Spec L2 PyProof.Rows PySem.W PySem.HandSPX Builtin Builtin.ObjectAttr
/-! ### the first store into such an error -/
section
variable {prog : Program} {w : World} {A : Around} {R : Result → Shared → Prop} {gx : Heap} {gs : Array GenState} {dr : PySem.Drawn} {tq : Nat} {os : OsState}
theorem osaG {K : W.Frag} {f : Str} {tk : Tok} {v : Value} {x C : Addr} {fw : Array Value} {ce : ClassData} (KI : K.In gx) (at_x : gx.get? x = some { cls := .ref C, data := .fields fw }) (ccd : W.clsIn K C = some ce)
    (pass : refuseLoop (.ref x) "__setattr__" ce.mro = pure ()) (ob : ce.mro.contains (.type "object") = true) (ne : ce.mro.isEmpty = false) (hasD : ce.hasDict = true) (hno : W.findIn K (.ref C) f = some none)
    (fin : ∀ g2 tk2 dx, (∀ b o, b ≠ x → gx.get? b = some o → g2.get? b = some o) → gx.objs.size ≤ dx → dx ≠ x → g2.get? x = some { cls := .ref C, dict := some dx, data := .fields fw } →
      g2.Ns1 dx (fun y => if y = f then some v else none) → R (.ok (.ret .none)) ⟨g2, gs, dr, tk2, os⟩) :
    codeAny (model prog w) A (.call (.builtin "object.__setattr__") ⟨[.ref x, .str f tk, v], []⟩) R ⟨gx, gs, dr, tq, os⟩ := by
  have J : W.InstAt gx x { cls := .ref C, data := .fields fw } C none := ⟨at_x, rfl, rfl, trivial⟩
  have S0 := F.store_object
  have below : x ≠ gx.objs.size := Nat.ne_of_lt (Heap.lt_size at_x)
  have isO : W.Looks (model prog w) gx (isInstance (.ref x) (.type "object")) true := by
    refine J.type.andThen (W.looks_mroIn KI ?_)
    unfold W.mroIn
    rw [ccd, Option.bind_some, if_neg (by rw [ne]; decide), ob]
  refine codeAny_call_builtin S0.slot.plain S0.entry ?_
  refine @W.check_slot (model prog w) _ _ ⟨gx, gs, dr, tq, os⟩ "object.__setattr__" "object" "__setattr__" (.ref x) [.str f tk, v] [] _ S0.kind S0.split isO (S0.args (.ref x) (.str f tk) v) ?_
  have own : W.Looks (model prog w) gx (classData C) ce := W.looks_clsIn KI ccd
  have mros : W.Looks (model prog w) gx (mroOf (.ref C)) ce.mro := own.andThen .now
  have noT : W.Looks (model prog w) gx (storeTaker? none) none := .now
  rw [W.osa_eq, refuse_eq]
  refine wpAny_bind (wpAny_bind (J.type.at ?_))
  refine wpAny_bind (mros.at ?_)
  rw [pass]
  refine wpAny_pure (wpAny_bind (J.type.at ?_))
  refine wpAny_bind ((W.looks_findIn KI hno).at ?_)
  refine wpAny_bind (noT.at ?_)
  show wpAny _ _ (storeInOwnDict (.ref x) (.ref C) (.str f tk) f v false) _ _ _
  obtain ⟨c1, c2, c3, c4, c5, c6, c7, c8, c9, c10, c11⟩ := ce
  dsimp only at hasD
  subst hasD
  unfold storeInOwnDict
  unfold ownDictForStores
  repeat (first | with_reducible refine store_in_new ?_ ?_ | with_reducible refine wpAny_loadPart_at at_x ?_ | with_reducible refine own.at ?_ | wp_step)
  · refine ⟨_, #[], _, (Heap.get?_update_ne _ _ _ _ below.symm).trans (Heap.get?_push_at rfl rfl), rfl, ?_, fun _ => rfl⟩
    intro e he
    simp at he
  · intro g2 tk2 hn2 sb
    have up : (gx.push { cls := .type "dict", data := .dict #[] }).get? x = some { cls := .ref C, data := .fields fw } := Heap.get?_push_of_some _ at_x
    exact fin g2 tk2 gx.objs.size (fun b o nb e => (sb.2 b (Nat.ne_of_lt (Heap.lt_size e))).trans ((Heap.get?_update_ne _ _ _ _ nb).trans (Heap.get?_push_of_some _ e))) (Nat.le_refl _) below.symm ((sb.2 x below).trans (Heap.get?_update_self _ up rfl)) hn2
end
/-! ### own classes, then LookupError's line -/
theorem refsLE_cases {l : List Value} (h : refsLE l = true) : l = leTail ∨ ∃ c r, l = .ref c :: r ∧ refsLE r = true := by
  cases l with
  | nil => cases h
  | cons v r =>
    unfold refsLE at h
    rw [Bool.or_eq_true] at h
    rcases h with h | h
    · cases v <;> first | exact .inr ⟨_, _, rfl, h⟩ | cases h
    · exact .inl (beq_iff_eq.mp h)
theorem refsLE_pass (self : Value) : ∀ l : List Value, refsLE l = true → refuseLoop self "__setattr__" l = pure ()
  | [], h => by cases h
  | v :: r, h => by
    rcases refsLE_cases h with e | ⟨c, r', e, h'⟩
    · rw [e]; exact F.store_LookupError.passes self
    · cases e
      rw [refuseLoop_ref]
      exact refsLE_pass self r h'
theorem refsLE_contains (T : String) : ∀ l : List Value, refsLE l = true → l.contains (.type T) = leTail.contains (.type T)
  | [], h => by cases h
  | v :: r, h => by
    rcases refsLE_cases h with e | ⟨c, r', e, h'⟩
    · rw [e]
    · cases e
      rw [List.contains_cons, refsLE_contains T r h']
      rfl
/-- what the written part says of such a class -/
structure OexL (K : PySem.W.Frag) (C : Addr) : Prop where
  cls : ∃ nm q N bs bm sn sub ab col dd k0 k1 k2 k3 k5, K.lookup C = some (excClassObj nm q C N bs bm true sn sub ab col dd k0 k1 k2 k3 k5 "LookupError.__new__") ∧ refsLE bm = true
  sa : findIn K (.ref C) "__setattr__" = some (some (.builtin "object.__setattr__"))
  exC : subIn K (.ref C) (.type "BaseException") = some true
  tyC : typeIn K (.ref C) = some (.type "type")
  kC : keepIn K (.ref C) = true
/-! ### its __init__, made, raised -/
section
variable {X : Cx} {pins : List (Addr × Obj)} {σ : L2.St} {H : Hp} {a C : Addr} {f : Str}
/-- the state behind the first store -/
theorem exo_filled {gx g2 : Heap} {gs : Array GenState} {dr : PySem.Drawn} {tq tk2 : Nat} {os : OsState} {dx : Addr} {y : V} {u : Value} {t1 : Addr} (I : Inv X pins σ H ⟨gx, gs, dr, tq, os⟩) (e : H a = some (exo a C none)) (ry : L2.RelV y u)
    (kp : ∀ b o, b ≠ a → gx.get? b = some o → g2.get? b = some o) (up : gx.objs.size ≤ dx) (ne : dx ≠ a) (at_a : g2.get? a = some { cls := .ref C, dict := some dx, data := .fields #[.ref t1, .none, .none, .none, .bool false, .none] }) (hns : g2.Ns1 dx (fun z => if z = f then some u else none)) :
    H dx = none ∧ Inv X pins σ (upd (upd H dx (exd dx [(f, y)])) a (exo a C (some dx))) ⟨g2, gs, dr, tk2, os⟩ := by
  have nd : H dx = none := I.hok.fresh up
  have apart : ∀ {b : Addr} {o : Obj}, gx.get? b = some o → b ≠ dx := fun z => Nat.ne_of_lt (Nat.lt_of_lt_of_le (Heap.lt_size z) up)
  have noa : ∀ {b : Addr}, H b = none → b ≠ a := fun n z => by rw [z, e] at n; cases n
  refine ⟨nd, I.un (t' := tk2) ⟨fun b o z n _ _ => kp b o (noa n) z, fun b o z n _ _ => ⟨o.slots, kp b o (noa n) z⟩, fun b o z n _ => ?_, fun b o z _ => ?_, fun b xs z => ?_, fun b o v z => ?_, fun b ps z => ⟨#[], ?_⟩⟩ fun b o z => ?_⟩
  · rw [upd_ne (noa n), upd_ne (apart z)]; exact n
  · by_cases q : b = a
    · exact ⟨_, by rw [q]; exact at_a⟩
    · exact ⟨o, kp b o q z⟩
  · rw [upd_ne (at_ne e z exo_tup), upd_ne (ne_of_none z nd)]; exact z
  · rw [upd_ne (at_ne e z exo_frz), upd_ne (ne_of_none z nd)]; exact z
  · rw [upd_ne (at_ne e z exo_tbl), upd_ne (ne_of_none z nd), z]; simp
  · by_cases q : b = a
    · subst q
      rw [upd_same] at z
      cases z
      exact exo_ok at_a
    rw [upd_ne q] at z
    by_cases q2 : b = dx
    · subst q2
      rw [upd_same] at z
      cases z
      exact exd_ok hns (relO_put (fs := []) ry fun g => True.intro)
    rw [upd_ne q2] at z
    refine (I.hok b o z).stay (fun c v hc w => kp c v ?_ w) (fun c hc => ?_) fun c xs hc => ?_
    · rcases hc with rfl | hc
      · exact q
      · exact at_ne e hc exo_own
    · rw [upd_ne (at_ne e hc exo_own), upd_ne (ne_of_none hc nd)]; exact hc
    · rw [upd_ne (at_ne e hc exo_tup), upd_ne (ne_of_none hc nd)]; exact hc
theorem store_L {s : Shared} {y : V} {u : Value} {Q : Unit → Shared → Prop} {A : Around} {E : Value → Shared → Prop} (T : OexL X.K C) (I : Inv X pins σ H s) (e : H a = some (exo a C none)) (hno : findIn X.K (.ref C) f = some none) (ry : L2.RelV y u)
    (fin : ∀ dx s2, H dx = none → dx ≠ a → Inv X pins σ (upd (upd H dx (exd dx [(f, y)])) a (exo a C (some dx))) s2 → Q () s2) : wpAny (model X.prog X.w) A (setAttr (.ref a) f u) Q E s := by
  obtain ⟨nm, q, N, bs, bm, sn, sub, ab, col, dd, k0, k1, k2, k3, k5, lk, lb⟩ := T.cls
  have ccd : W.clsIn X.K C = some { name := nm, bases := bs, mro := .ref C :: bm, ns := N, qualname := q, hasDict := true, slotNames := sn, subclasses := sub, abstract := ab, collection := col, hasDel := false } := by
    unfold PySem.W.clsIn
    rw [lk] <;> rfl
  obtain ⟨t1, at_a⟩ := exo_at I.hok e
  obtain ⟨gx, gs, dr, tq, os⟩ := s
  have lb2 : refsLE (.ref C :: bm) = true := by rw [refsLE, Bool.or_eq_true]; exact .inl lb
  refine PySem.W.set_plain I.kIn (ox := { cls := .ref C, dict := none, data := .fields #[.ref t1, .none, .none, .none, .bool false, .none] }) (od := none) ⟨at_a, rfl, rfl, trivial⟩ T.sa (osaG I.kIn at_a ccd (refsLE_pass _ _ lb2) ((refsLE_contains "object" _ lb2).trans (by decide +kernel)) rfl rfl hno fun g2 tk2 dx kp up ne at2 hns => ?_)
  obtain ⟨nd, J⟩ := exo_filled (tk2 := tk2) I e ry kp up ne at2 hns
  exact fin dx _ nd ne J
/-- self.f = e, the first store -/
theorem ps_ostL {o e : Expr} {to te : TE} {p' pos : Pos} (ho : PE X o to) (he : PE X e te) (hs : swapsWith e (some (.Attribute o f p')) pos.line X.env = pure false) :
    PS X (.Assign [.Attribute o f p'] e pos) (fun D σ H => te σ H fun y H1 => to σ H1 fun x H2 => ∃ a C : Addr, x = .ref a ∧ OexL X.K C ∧ findIn X.K (.ref C) f = some none ∧ H2 a = some (exo a C none) ∧ ∀ dx, H2 dx = none → dx ≠ a → D.nx σ (upd (upd H2 dx (exd dx [(f, y)])) a (exo a C (some dx)))) := by
  refine ⟨fun pins s σ H D I h => plainObj_wpAny_Assign_Attribute (thn (he.run pins s σ H _ I h) fun v s1 ⟨y, H1, I1, r1, q1⟩ => thn (ho.run pins s1 σ H1 _ I1 q1) fun u s2 ⟨x, H2, I2, r2, a, C, ex, T, hno, ea, q⟩ => ?_) hs⟩
  subst ex
  cases r2
  exact store_L T I2 ea hno r1 fun dx s' n ne J => ⟨σ, _, J, q dx n ne⟩
end
section
variable {X : Cx} {e : Expr} {es : List Expr} {ta : TA} {p pos : Pos}
/-- C(e, ..), to be raised -/
theorem pmk_L {x : Str} {C fI : Addr} {k : Nat} {fd : FuncData} {ps : List Str} {sp : Sp} (T : OexL X.K C) (iC : findIn X.K (.ref C) "__init__" = some (some (.ref fI))) (tI : typeIn X.K (.ref fI) = some (.type "function"))
    (F1 : FnOk X.prog X.w X.K X.mg X.base (L2.CX X.prog X.w) k fI fd ps sp) (hr : Room (k + 1) X.A) (hb : Binds X.K fd ps []) (hg : Gl X x) (hm : X.mg x = some (.ref C)) (ha : PA X (e :: es) ta)
    (hdb : (x == ("__debug__" : Str)) = false) (he : starEach (e :: es) X.env = (false, eval e X.env) :: starEach es X.env) (hpl : (backTo pos (starEach es X.env)).any (·.1) = false) :
    PMk X (.Call (.Name x p) (e :: es) [] pos) (tMkO C sp [] ta) := by
  intro pins s σ H Q I h
  obtain ⟨nm, q, N, bs, bm, sn, sub, ab, col, dd, k0, k1, k2, k3, k5, lk, lb⟩ := T.cls
  refine wpAny_Call_Name_kw (ld_glob I hg hm (PySem.W.callWith_K (h₀ := X.base) I.ok.mod.kin T.kC (thn (ha.run pos pins s σ H _ I h) fun us s1 ⟨vs, H1, I1, r1, few, q1⟩ => ⟨I1.kIn, ?_⟩) he hpl) hdb)
  show wpAny _ _ (PySem.call (.ref C) us) _ _ _
  obtain ⟨gx, gs, dr, tq, os⟩ := s1
  obtain ⟨b, hbq⟩ : ∃ b, b = gx.objs.size + 1 := ⟨_, rfl⟩
  have lb1 : gx.objs.size ≤ b := by omega
  have nb : H1 b = none := I1.hok.fresh lb1
  have want := q1 b nb
  subst hbq
  have kk : ∀ c o, gx.get? c = some o → ((gx.push (PySem.W.kdv_tup us)).push (excO C gx.objs.size)).get? c = some o := fun c o z => Heap.get?_push_of_some _ (Heap.get?_push_of_some _ z)
  have lies : ((gx.push (PySem.W.kdv_tup us)).push (excO C gx.objs.size)).get? (gx.objs.size + 1) = some (excO C gx.objs.size) := by heap_get
  have I2 := I1.laid (t' := tq) (a := gx.objs.size + 1) (o := exo (gx.objs.size + 1) C none) (h' := (gx.push (PySem.W.kdv_tup us)).push (excO C gx.objs.size)) kk lb1 (exo_ok lies)
  have r2 : Vals (V.ref (gx.objs.size + 1) :: (vs ++ [])) (Value.ref (gx.objs.size + 1) :: (us ++ [])) := .cons rfl (r1.append .nil)
  have ll : (Value.ref (gx.objs.size + 1) :: us ++ []).length = ps.length := r2.length.symm.trans (F1.len _ _ _ _ want)
  have ul : us.length ≤ sizeLine := by
    have := Paired.length r1
    have := sizeLine_eq
    omega
  have bb : BindsTo _ fd _ (ps.zip (Value.ref (gx.objs.size + 1) :: (us ++ []))) := hb _ (Value.ref (gx.objs.size + 1) :: us) I2.kIn ll
  have goes := F1.run _ X.stack _ _ ⟨Value.ref (gx.objs.size + 1) :: us, []⟩ (Value.ref (gx.objs.size + 1) :: (us ++ [])) _ _ (fun _ _ _ => False) (hr.make C us []) (I2.env0.make C us []) bb r2 want
  refine wpAny_call (call_own F.excBase_LookupError (fun Y => refsLE_contains Y bm lb) (I1.kIn _ _ lk) (looks_findIn I1.kIn iC) (fun self => bind_fn I1.kIn self tI) ul (codeAny_mono goes fun r s' y => ?_))
  match r, y with
  | .error er, y => exact passL _ _ _ _ er s' I2 y
  | .ok (.ret u), ⟨v, H2, os2, bare2, un2, hok2, rv, ev, d, fs, ea, ed, hd1, q2⟩ =>
    subst ev
    obtain ⟨hh2, gs2, dr2, tq2, os3⟩ := s'
    exact ⟨rv, mk_end (raises_own T.exC T.tyC) I1 lb1 kk un2 hok2 os2 bare2 ea ed hd1 q2⟩
end
variable [Ers]
/-- what a raise of x(e) leans on -/
structure ErrL (P : Program) (w : World) (K : PySem.W.Frag) (mg : Str → Option Value) (base : Heap) (k : Nat) (x f : Str) : Prop where
  oc : OexL K (Ers.ad x)
  gm : mg x = some (.ref (Ers.ad x))
  ini : ∃ fI fd v, findIn K (.ref (Ers.ad x)) "__init__" = some (some (.ref fI)) ∧ typeIn K (.ref fI) = some (.type "function") ∧ FnOk P w K mg base (L2.CX P w) k fI fd ["self", v] (sp1 (Ers.ad x) f) ∧ Binds K fd ["self", v] []
section
variable {P : Program} {w : World} {K : PySem.W.Frag} {mg : Str → Option Value} {base : Heap} {x : Str}
end
end DL

/-! XH: properties with a getter of any form, str(o), o.m() where a keyword has a default. -/
namespace DL
open PySem PySem.Spec L2 PyProof.Rows PySem.W
variable [Ers]
/-! ### properties -/
def CalP (P : Program) (w : World) (K : PySem.W.Frag) (mg : Str → Option Value) (base : Heap) (k : Nat) (c m : Str) (S : SpDX) : Prop :=
  ∃ pa g fd, PropOf K (Ers.ad c) m pa g ∧ FnG P w K mg base (L2.CX P w) k g fd ["self"] (spUX K S) ∧ Binds K fd ["self"] []
def PropAt (K : PySem.W.Frag) (c m q : Str) (st : Stmt) : Prop := ∃ pa g fd, PropOf K (Ers.ad c) m pa g ∧ Fun K m q st g fd
theorem CalP.mk {P : Program} {w : World} {K : PySem.W.Frag} {mg : Str → Option Value} {base : Heap} {k : Nat} {c m q : Str} {st : Stmt} {N : List Str} {S : SpDX} {T : DXS → TSD} (D : PropAt K c m q st) (sc : FnScope N ["self"] (defScope st))
    (bi : ∀ (kV doc pm : Value) (an : Option Addr) (cdv ct : Value) (us : List Value), us.length = (["self"] : List Str).length → bindArgs (PySem.W.fnOf m q (defArgs st) (defBody st) (defScope st) .none kV doc pm an cdv ct) ⟨us, []⟩ = pure ((["self"] : List Str).zip us))
    (ar : ∀ ds ω R RX, S ds ω R RX → ds.length = (["self"] : List Str).length)
    (b : ∀ (f : Addr) (cdv : Value) (A : Around) (fs : List Env) (s : Shared) (hp : Hp) (e : XK) (RX : DXS) [AmbX K (noW e) RX], Room k (A.deeper (PyProof.Rows.envOfC q (defScope st) s.heap.objs.size f cdv)) → A.guards = some [] →
      DSs (cxOf (L2.CX P w) P w K mg base N q (defScope st) f cdv A fs s hp e) (defBody st) (T RX))
    (rd : ∀ ds ω R RX, S ds ω R RX → T (noS RX) { nx := fun _ ω' => R .non ω', rt := R } (startD N ds) ω) : CalP P w K mg base (k + 1) c m S := by
  obtain ⟨pa, g, fd, hp, F⟩ := D
  exact ⟨pa, g, fd, hp, FnG.ofX F sc ar (fun cdv A fs s hp e RX I => @b g cdv A fs s hp e RX I) rd, F.binds bi⟩
section
variable {X : Cx} {W : WX} {RX : DXS} {c m : Str} {p pos apos : Pos} {a e o : Expr} {Te To : TD} {S : SpDX} {ps : List Str} {k : Nat}
theorem pe_propGS {C pa g : Addr} {fd : FuncData} {sp : Sp} {te : TE} (he : PE X e te) (cl : Cls X.K C) (hp : PropOf X.K C m pa g) (F : FnG X.prog X.w X.K X.mg X.base (L2.CX X.prog X.w) k g fd ps sp) (hr : Room (k + 1) X.A) (gd : X.A.guards = some []) (hb : Binds X.K fd ps [])
    (hab : attributeBase e m X.env (eval e X.env) = eval e X.env) :
    PE X (.Attribute e m pos) (fun σ H Q => te σ H fun x H1 => ∃ a dx fs, x = .ref a ∧ H1 a = some (.ins C dx fs) ∧ sp [.ref a] H1 Q fun _ _ _ => False) := by
  refine ⟨fun pins s σ H Q I0 h => attr_of hab (thn (he.run pins s σ H _ I0 h) fun u s1 ⟨x, H1, I, rx, a, dx, fs, ex, ea, q⟩ => ?_)⟩
  subst ex
  cases rx
  obtain ⟨mA, O, _⟩ := ins_get I.hok ea
  obtain ⟨od, J, _⟩ := O.look
  obtain ⟨rest, hrec⟩ := hp.rec_
  have I1 := I.tok (s1.toks + 1)
  obtain ⟨cd, hcd, _⟩ := PySem.W.any_some cl.hd
  have isC : (PySem.W.clsIn X.K C).isSome = true := by rw [hcd] <;> rfl
  have plain := PySem.W.plainGet_of (cl.get m)
  have ll : ([Value.ref a] ++ []).length = ps.length := (F.arity _ _ _ _ q)
  have bb := hb { s1 with toks := s1.toks + 1 } [.ref a] I1.kIn ll
  have goes := F.goes X.A.in1 X.stack { s1 with toks := s1.toks + 1 } H1 ⟨[.ref a], []⟩ [.ref a] [.ref a] Q _ hr.in1 gd I1.env0.in1 bb (.cons rfl .nil) q
  refine PySem.W.get_bind I.kIn J plain.1 (PySem.W.findObj_data isC hp.at_ hp.get hp.tak) plain.2 (wpAny_call (PySem.W.prop_get (s := { s1 with toks := s1.toks + 1 }) I.kIn hrec (codeAny_mono goes fun r s' y => ?_)))
  match r, y with
  | .error er, y =>
    obtain ⟨_, _, _, _, _, _, _, _, _, _, _, _, _, _, _, _, z⟩ := XE.of_call I1 (W := fun _ _ _ _ => False) (fun _ _ _ z => z) y
    exact z.elim
  | .ok (.ret u), y =>
    obtain ⟨v, H', I3, rv, q3⟩ := I1.after y
    show wpAny _ _ (handedOut u) _ _ _
    rw [PySem.W.handedOut_of (handed_of rv)]
    exact wpAny_pure ⟨v, H', I3, rv, q3⟩
def dProp (c : Str) (S : SpDX) (Te : TD) : TD := fun ρ ω Q => Te ρ ω fun x ω1 => (∃ fds, FsOf c x ω1 fds) ∧ S [x] ω1 Q fun _ _ _ => False
theorem de_propK {K : PySem.W.Frag} (I0 : AmbX K W RX) (cl : Cls X.K (Ers.ad c)) (C : CalP X.prog X.w X.K X.mg X.base k c m S) (hr : Room (k + 1) X.A) (gd : X.A.guards = some []) (he : @DE I0.toAmb X e Te)
    (hab : attributeBase e m X.env (eval e X.env) = eval e X.env := by rfl) (hK : X.K = K := by rfl) : @DE I0.toAmb X (.Attribute e m pos) (dProp c S Te) := by
  subst hK
  obtain ⟨pa, g, fd, hp, F, hb⟩ := C
  refine PE.weak (pe_propGS he cl hp F hr gd hb hab) fun σ H Q ⟨h, ρ, ω, R, sl, w, t, k⟩ => ?_
  refine ⟨h, ρ, ω, _, sl, w, t, fun x ω1 vx H1 ⟨⟨fds, e0⟩, t1⟩ f1 w1 rx => ?_⟩
  obtain ⟨a, dx, fvs, rfl, ha, _⟩ := e0.at_ w1 rx
  exact ⟨a, dx, fvs, rfl, ha, spM0 w1 (.cons rx .nil) t1 (k.go f1)⟩
/-! ### str(o) -/
def rStrM (sp : Sp) (C : Addr) : List V → Hp → VK → Prop := fun xs H Q => ∃ q dx fs, xs = [.ref q] ∧ H q = some (.ins C dx fs) ∧ sp [.ref q] H (fun v H' => ∃ z : Str, v = .str z ∧ Q (.str z) H') fun _ _ _ => False
def dStrM (c : Str) (S : SpDX) : DOn := fun xs ω R => ∃ x fds, xs = [x] ∧ FsOf c x ω fds ∧ S [x] ω (fun d ω' => ∃ z : Str, d = .str z ∧ R (.str z) ω') fun _ _ _ => False
/-! ### o.m() where the one other parameter is a keyword that is None if it isn't given -/
def CalN (P : Program) (w : World) (K : PySem.W.Frag) (mg : Str → Option Value) (base : Heap) (k : Nat) (c m : Str) (ps : List Str) (S : SpDX) : Prop :=
  ∃ f fd ds, FnG P w K mg base (L2.CX P w) k f fd ps (spUX K S) ∧ findIn K (.ref (Ers.ad c)) m = some (some (.ref f)) ∧ isFn K (.ref f) = true ∧ keepIn K (.ref f) = true ∧ Vals [V.non] ds ∧ Binds K fd ps ds
def MethN (K : PySem.W.Frag) (c m q : Str) (st : Stmt) (x : Str) : Prop := ∃ f fd, findIn K (.ref (Ers.ad c)) m = some (some (.ref f)) ∧ isFn K (.ref f) = true ∧ Fun K m q st f fd ∧ FunD K m q (defArgs st) (defBody st) (defScope st) [] [(x, .non)] f fd
theorem CalN.mk {P : Program} {w : World} {K : PySem.W.Frag} {mg : Str → Option Value} {base : Heap} {k : Nat} {c m q x : Str} {st : Stmt} {N : List Str} {S : SpDX} {T : DXS → TSD} (D : MethN K c m q st x) (sc : FnScope N ["self", x] (defScope st))
    (bi : ∀ (D : Addr) (doc pm : Value) (an : Option Addr) (cdv ct : Value) (us ks : List Value), us.length = 1 → ks.length = 1 →
      KwChain D (([x] : List Str).zip ks) (bindArgs (PySem.W.fnOf m q (defArgs st) (defBody st) (defScope st) .none (.ref D) doc pm an cdv ct) ⟨us, []⟩) ((["self", x] : List Str).zip (us ++ ks)))
    (ar : ∀ ds ω R RX, S ds ω R RX → ds.length = (["self", x] : List Str).length)
    (b : ∀ (f : Addr) (cdv : Value) (A : Around) (fs : List Env) (s : Shared) (hp : Hp) (e : XK) (RX : DXS) [AmbX K (noW e) RX], Room k (A.deeper (PyProof.Rows.envOfC q (defScope st) s.heap.objs.size f cdv)) → A.guards = some [] →
      DSs (cxOf (L2.CX P w) P w K mg base N q (defScope st) f cdv A fs s hp e) (defBody st) (T RX))
    (rd : ∀ ds ω R RX, S ds ω R RX → T (noS RX) { nx := fun _ ω' => R .non ω', rt := R } (startD N ds) ω) : CalN P w K mg base (k + 1) c m ["self", x] S := by
  obtain ⟨f, fd, hf, hi, F, FD⟩ := D
  obtain ⟨ds, rv, hb⟩ := FD.binds0 (ps := ["self", x]) 1 (by simp) rfl fun D doc pm an cdv ct us ks h1 h2 => bi D doc pm an cdv ct us ks h1 h2
  exact ⟨f, fd, ds, FnG.ofX F sc ar (fun cdv A fs s hp e RX I => @b f cdv A fs s hp e RX I) rd, hf, hi, F.kp, rv, hb⟩
theorem methN_of {K : PySem.W.Frag} {c m q x : Str} {st : Stmt} {A f D : Addr} {od an : Option Addr} {sl : Array (Option Value)} {oc dc pm cd ct : Value} (ad : Ers.ad c = A) (a : PySem.W.findIn K (.ref A) m = some (some (.ref f))) (v : PySem.W.isFn K (.ref f) = true)
    (l : K.lookup f = some ⟨oc, od, .func (PySem.W.fnOf m q (defArgs st) (defBody st) (defScope st) .none (.ref D) dc pm an cd ct), sl⟩) (n : PySem.W.nsIn K D x = some (some .none)) (hc : PySem.W.codeIn K cd q = true) (k : PySem.W.keepIn K (.ref f) = true) : MethN K c m q st x :=
  ⟨f, _, by rw [ad]; exact a, v, fun_mk l hc k, ⟨⟨_, _, _, _, _, _, _, _, _, _, rfl, l, hc, .inl ⟨rfl, rfl⟩, .inr ⟨D, rfl, fun p hp => by
    rcases List.mem_singleton.mp hp with rfl
    exact ⟨_, n, rfl⟩⟩⟩, k⟩⟩
/-- o.m() -/
theorem pe_methN {C f : Addr} {fd : FuncData} {sp : Sp} {ta : TE} {pl : Sem Bool} {ds : List Value} (he : PE X o ta) (cl : Cls X.K C) (hm : Meth X.K C m f) (F : FnG X.prog X.w X.K X.mg X.base (L2.CX X.prog X.w) k f fd ps sp) (hr : Room k X.A) (gd : X.A.guards = some []) (hv : Vals [V.non] ds) (hb : Binds X.K fd ps ds) (tk : Takes X W)
    (ht : eval (.Call (.Attribute o m apos) [] [] pos) X.env = (do
      let ov ← eval o X.env
      standAt apos.atName
      let (f, first) ← holding [ov] (getMethod ov m pl)
      callWith pos f first (backTo pos (starEach [] X.env)) (backToKw pos (keywordEach [] X.env)))) :
    PE X (.Call (.Attribute o m apos) [] [] pos) (fun σ H Q => ta σ H fun x H1 => ∃ a dx fs, x = .ref a ∧ H1 a = some (.ins C dx fs) ∧ fs.lookup m = none ∧ sp [.ref a, .non] H1 Q fun c d H3 => W c d σ H3) := by
  refine ⟨fun pins s σ H Q I h => PySem.W.methodCall_KW (pl := pl) (thn (he.run pins s σ H _ I h) fun u s1 ⟨x, H1, I1, rx, a, dx, fs, ex, ea, l, q⟩ => ?_) ht⟩
  subst ex
  cases rx
  refine getmeth_ok I1 ea cl hm l (PySem.W.callWith_K0 (first := [.ref a]) I1.kIn hm.kp ?_)
  have r2 : Vals [V.ref a, V.non] ([Value.ref a] ++ ds) := .cons rfl hv
  have ll : ([Value.ref a] ++ ds).length = ps.length := by rw [← r2.length]; exact F.arity _ _ _ _ q
  refine wpAny_call (codeAny_mono (F.goes X.A X.stack s1 H1 ⟨[.ref a], []⟩ _ [.ref a, .non] Q _ hr gd I1.env0 (hb s1 [.ref a] I1.kIn ll) r2 q) fun res s' y => ?_)
  match res, y with
  | .error er, y => exact tk er s' (XE.of_call I1 (fun _ _ _ y => y) y)
  | .ok (.ret u), y => exact I1.after y
def dMethN (c m : Str) (S : SpDX) (RX : DXS) (To : TD) : TD := fun ρ ω Q => To ρ ω fun x ω1 => (∃ fds, FsOf c x ω1 fds ∧ fds.lookup m = none) ∧ S [x, .non] ω1 Q fun y fs ω3 => RX y fs ρ ω3
variable {ρ : Rho} {ω : Om} {Q : DQ}
theorem st_prop (h : Te ρ ω fun x ω1 => (∃ fds, FsOf c x ω1 fds) ∧ S [x] ω1 Q fun _ _ _ => False) : dProp c S Te ρ ω Q := h
theorem st_methN (h : To ρ ω fun x ω1 => (∃ fds, FsOf c x ω1 fds ∧ fds.lookup m = none) ∧ S [x, .non] ω1 Q fun y fs ω3 => RX y fs ρ ω3) : dMethN c m S RX To ρ ω Q := h
end
end DL

/-! XI: hoists as data; reach found by the sorted weights. -/
namespace DL
open PySem PySem.Spec L2 PyProof.Rows PySem.W
/-- the reach, and whether nobody is stuck, by the sorted weights -/
def rcL (e : Int) : Int → List Int → Int × Bool
  | t, [] => (t, true)
  | t, w :: l => if w > e + t then (t, false) else rcL e (t + w) l
/-! ### hoists -/
abbrev towD (e : Int) (ws : List Int) : D := .tup [.int e, .tup (ws.map D.int)]
/-- a hoist's fields -/
def hoF (ts es : List D) : List (Str × D) := [("_towers", .tup ts), ("_edits", .tup es), ("_watched", .bl false)]
/-! edits -/
inductive Ed where
  | come (w : Int) | leave (k : Int) | weigh (k w : Int) | loosen (x : Int)
def Ed.d : Ed → D
  | .come w => .tup [.str "come", .int w]
  | .leave k => .tup [.str "leave", .int k]
  | .weigh k w => .tup [.str "weigh", .int k, .int w]
  | .loosen x => .tup [.str "loosen", .int x]
/-- it can be done -/
def Ed.can (ws : List Int) : Ed → Prop
  | .come w => 1 ≤ w ∧ w ≤ 1000000 ∧ ws.length < 24
  | .leave k => 0 ≤ k ∧ k < ws.length
  | .weigh k w => 0 ≤ k ∧ k < ws.length ∧ 1 ≤ w ∧ w ≤ 1000000
  | .loosen x => 1 ≤ x ∧ x ≤ 1000000
def Ed.e (e : Int) : Ed → Int
  | .loosen x => x
  | _ => e
def Ed.ws (ws : List Int) : Ed → List Int
  | .come w => ws ++ [w]
  | .leave k => ws.take k.toNat ++ ws.drop (k + 1).toNat
  | .weigh k w => ws.take k.toNat ++ w :: ws.drop (k + 1).toNat
  | .loosen _ => ws
/-- towers as they are drawn and edited -/
def TowOk (e : Int) (ws : List Int) : Prop := 1 ≤ e ∧ e ≤ 1000000 ∧ ws.length ≤ 24 ∧ ∀ w ∈ ws, 1 ≤ w ∧ w ≤ 1000000
theorem TowOk.go {e : Int} {ws : List Int} (h : TowOk e ws) : ∀ {d : Ed}, d.can ws → TowOk (d.e e) (d.ws ws)
  | .come w, c => ⟨h.1, h.2.1, by show (ws ++ [w]).length ≤ 24; rw [List.length_append]; exact c.2.2, fun u hu => by
    rcases List.mem_append.mp hu with m | m
    · exact h.2.2.2 u m
    · rw [List.mem_singleton] at m
      rw [m]
      exact ⟨c.1, c.2.1⟩⟩
  | .leave k, c => ⟨h.1, h.2.1, by
      have := h.2.2.1
      show (ws.take k.toNat ++ ws.drop (k + 1).toNat).length ≤ 24
      rw [List.length_append, List.length_take, List.length_drop]
      have c0 : 0 ≤ k := c.1
      omega, fun u hu => by
    rcases List.mem_append.mp hu with m | m
    · exact h.2.2.2 u (List.mem_of_mem_take m)
    · exact h.2.2.2 u (List.mem_of_mem_drop m)⟩
  | .weigh k w, c => ⟨h.1, h.2.1, by
      have := h.2.2.1
      show (ws.take k.toNat ++ w :: ws.drop (k + 1).toNat).length ≤ 24
      rw [List.length_append, List.length_take, List.length_cons, List.length_drop]
      have c0 : 0 ≤ k := c.1
      have c1 : k < ws.length := c.2.1
      omega, fun u hu => by
    rcases List.mem_append.mp hu with m | m
    · exact h.2.2.2 u (List.mem_of_mem_take m)
    · rcases List.mem_cons.mp m with m | m
      · rw [m]
        exact c.2.2
      · exact h.2.2.2 u (List.mem_of_mem_drop m)⟩
  | .loosen x, c => ⟨c.1, c.2, h.2.2⟩
/-- a hoist's text -/
def hoS (n : Nat) (e r : Int) (m : Nat) : Str := Str.empty ++ toString (n : Int) ++ " people, excess " ++ toString e ++ ", reach " ++ toString r ++ ", " ++ toString (m : Int) ++ " edits"
variable [Ers]
theorem hoF_t {ts ts' es : List D} : dput "_towers" (.tup ts') (hoF ts es) = hoF ts' es := dput_eq
theorem hoF_e {ts es es' : List D} : dput "_edits" (.tup es') (hoF ts es) = hoF ts es' := by
  unfold hoF
  rw [dput_ne (by decide), dput_eq]
theorem hoF_0 {t : D} : dput "_watched" (.bl false) (dput "_edits" (.tup []) (dput "_towers" (.tup [t]) [])) = hoF [t] [] := by
  show dput "_watched" _ (dput "_edits" _ [("_towers", .tup [t])]) = _
  rw [dput_ne (by decide)]
  show dput "_watched" _ [("_towers", _), ("_edits", .tup [])] = _
  rw [dput_ne (by decide), dput_ne (by decide)]
  rfl
theorem size100 {n : Nat} (h : n ≤ 101) : n ≤ PySem.sizeLine := Nat.le_trans h (by decide)
theorem atI_last' {xs : List D} {x : D} : L2.atI (xs ++ [x]) (-1) = some x := atI_last
end DL

/-! XJ: raise C() without arguments. -/
namespace DL
open PySem PySem.Spec L2 PyProof.Rows PySem.W
section
variable {X : Cx} {p pos : Pos} {x : Str}
end
variable [Ers]
abbrev veT : List Value := [.type "ValueError", .type "Exception", .type "BaseException", .type "object"]
/-- what a raise of x() leans on -/
structure Err0 (K : PySem.W.Frag) (mg : Str → Option Value) (x : Str) : Prop where
  ex : excIn K (Ers.ad x) veT "ValueError.__new__" = true
  gm : mg x = some (.ref (Ers.ad x))
  kp : keepIn K (.ref (Ers.ad x)) = true
  sb : subIn K (.ref (Ers.ad x)) (.type "BaseException") = some true
  ty : typeIn K (.ref (Ers.ad x)) = some (.type "type")
def dRaise0 (x : Str) (RX : DXS) : TSD := fun _ ρ ω => RX x none ρ ω
variable {ρ : Rho} {ω : Om} {D : DEnds} {x : Str} {RX : DXS}
theorem st_raise0 (h : RX x none ρ ω) : dRaise0 x RX D ρ ω := h
end DL

/-! XM: o.m(e, .., x=e), where x is the one keyword-only parameter, None if it isn't given. -/
namespace DL
open PySem PySem.Spec L2 PyProof.Rows PySem.W
variable [Ers]
def KwB (fd : FuncData) (ps : List Str) (x : Str) : Prop := ∀ (s : Shared) (us : List Value) (v : Value), us.length = ps.length → BindsTo s fd ⟨us, [(x, v)]⟩ ((ps ++ [x]).zip (us ++ [v]))
def CalN2 (P : Program) (w : World) (K : PySem.W.Frag) (mg : Str → Option Value) (base : Heap) (k : Nat) (c m : Str) (ps : List Str) (x : Str) (S : SpDX) : Prop :=
  ∃ f fd ds, FnG P w K mg base (L2.CX P w) k f fd (ps ++ [x]) (spUX K S) ∧ findIn K (.ref (Ers.ad c)) m = some (some (.ref f)) ∧ isFn K (.ref f) = true ∧ keepIn K (.ref f) = true ∧ Vals [V.non] ds ∧ Binds K fd (ps ++ [x]) ds ∧ KwB fd ps x
theorem CalN2.n {P : Program} {w : World} {K : PySem.W.Frag} {mg : Str → Option Value} {base : Heap} {k : Nat} {c m : Str} {ps : List Str} {x : Str} {S : SpDX} (C : CalN2 P w K mg base k c m ps x S) : CalN P w K mg base k c m (ps ++ [x]) S := by
  obtain ⟨f, fd, ds, F, hi, hf, hk, hv, hb, _⟩ := C
  exact ⟨f, fd, ds, F, hi, hf, hk, hv, hb⟩
theorem CalN2.mk {P : Program} {w : World} {K : PySem.W.Frag} {mg : Str → Option Value} {base : Heap} {k : Nat} {c m q x : Str} {st : Stmt} {N ps : List Str} {S : SpDX} {T : DXS → TSD} (D : MethN K c m q st x) (sc : FnScope N (ps ++ [x]) (defScope st))
    (bi : ∀ (D : Addr) (doc pm : Value) (an : Option Addr) (cdv ct : Value) (us ks : List Value), us.length = ps.length → ks.length = 1 →
      KwChain D (([x] : List Str).zip ks) (bindArgs (PySem.W.fnOf m q (defArgs st) (defBody st) (defScope st) .none (.ref D) doc pm an cdv ct) ⟨us, []⟩) ((ps ++ [x]).zip (us ++ ks)))
    (bk : ∀ (kV doc pm : Value) (an : Option Addr) (cdv ct : Value) (us : List Value) (v : Value), us.length = ps.length →
      bindArgs (PySem.W.fnOf m q (defArgs st) (defBody st) (defScope st) .none kV doc pm an cdv ct) ⟨us, [(x, v)]⟩ = pure ((ps ++ [x]).zip (us ++ [v])))
    (ar : ∀ ds ω R RX, S ds ω R RX → ds.length = (ps ++ [x]).length)
    (b : ∀ (f : Addr) (cdv : Value) (A : Around) (fs : List Env) (s : Shared) (hp : Hp) (e : XK) (RX : DXS) [AmbX K (noW e) RX], Room k (A.deeper (PyProof.Rows.envOfC q (defScope st) s.heap.objs.size f cdv)) → A.guards = some [] →
      DSs (cxOf (L2.CX P w) P w K mg base N q (defScope st) f cdv A fs s hp e) (defBody st) (T RX))
    (rd : ∀ ds ω R RX, S ds ω R RX → T (noS RX) { nx := fun _ ω' => R .non ω', rt := R } (startD N ds) ω) : CalN2 P w K mg base (k + 1) c m ps x S := by
  obtain ⟨f, fd, hf, hi, F, FD⟩ := D
  obtain ⟨ds, rv, hb⟩ := FD.binds0 (ps := ps ++ [x]) ps.length (by simp) (by simp) fun D doc pm an cdv ct us ks h1 h2 => bi D doc pm an cdv ct us ks h1 h2
  refine ⟨f, fd, ds, FnG.ofX F sc ar (fun cdv A fs s hp e RX I => @b f cdv A fs s hp e RX I) rd, hf, hi, F.kp, rv, hb, fun s us v hl => ?_⟩
  obtain ⟨oc, od, kV, doc, pm, an, cdv, ct, osl, rfl, _⟩ := F.ex
  exact .of_eq (bk kV doc pm an cdv ct us v hl)
section
variable {X : Cx} {W : WX} {RX : DXS} {c m x : Str} {o e ke : Expr} {es : List Expr} {To Te : TD} {T : TAD} {S : SpDX} {ps : List Str} {k : Nat} {apos pos kp : Pos}
theorem runKw {f : Addr} {fd : FuncData} {sp : Sp} {pins : List (Addr × Obj)} {σ : L2.St} {H : Hp} {s : Shared} {Q : VK} {us : List Value} {vs : List V} {u : Value} {v : V} (F : FnG X.prog X.w X.K X.mg X.base (L2.CX X.prog X.w) k f fd (ps ++ [x]) sp) (hr : Room k X.A) (gd : X.A.guards = some []) (kb : KwB fd ps x) (tk : Takes X W)
    (I : Inv X pins σ H s) (r : Vals vs us) (rv : L2.RelV v u) (h : sp (vs ++ [v]) H Q fun c d H2 => W c d σ H2) : wpAny (model X.prog X.w) X.A (PySem.call (.ref f) us [(x, u)]) (EP X pins σ Q) X.xe s := by
  have r2 : Vals (vs ++ [v]) (us ++ [u]) := r.append (.cons rv .nil)
  have ll : (us ++ [u]).length = (ps ++ [x]).length := by rw [← r2.length]; exact F.arity _ _ _ _ h
  have l1 : us.length = ps.length := by simpa using ll
  refine wpAny_call (codeAny_mono (F.goes X.A X.stack s H ⟨us, [(x, u)]⟩ _ (vs ++ [v]) Q _ hr gd I.env0 (kb s us u l1) r2 h) fun res s' y => ?_)
  match res, y with
  | .error er, y => exact tk er s' (XE.of_call I (fun _ _ _ y => y) y)
  | .ok (.ret u), y => exact I.after y
theorem pe_methKw {C f : Addr} {fd : FuncData} {sp : Sp} {ta te : TE} {t : TA} {pl : Sem Bool} (he : PE X o ta) (cl : Cls X.K C) (hm : Meth X.K C m f) (F : FnG X.prog X.w X.K X.mg X.base (L2.CX X.prog X.w) k f fd (ps ++ [x]) sp) (hr : Room k X.A) (gd : X.A.guards = some []) (kb : KwB fd ps x) (tk : Takes X W) (ha : PA X (e :: es) t) (hk : PE X ke te)
    (hst : starEach (e :: es) X.env = (false, eval e X.env) :: starEach es X.env) (hpl : (((backTo pos (starEach (e :: es) X.env)).any (·.1)) || (backToKw pos (keywordEach [⟨some x, ke, kp⟩] X.env)).any (·.1.isNone)) = false)
    (hks : ((backToKw pos (keywordEach [⟨some x, ke, kp⟩] X.env)).all (·.1.isSome)) = true) (hkn : (backToKw pos (keywordEach [⟨some x, ke, kp⟩] X.env)).filterMap (·.1) = [x])
    (ht : eval (.Call (.Attribute o m apos) (e :: es) [⟨some x, ke, kp⟩] pos) X.env = (do
      let ov ← eval o X.env
      standAt apos.atName
      let (f, first) ← holding [ov] (getMethod ov m pl)
      callWith pos f first (backTo pos (starEach (e :: es) X.env)) (backToKw pos (keywordEach [⟨some x, ke, kp⟩] X.env)))) :
    PE X (.Call (.Attribute o m apos) (e :: es) [⟨some x, ke, kp⟩] pos) (fun σ H Q => ta σ H fun ov H1 => ∃ a dx fs, ov = .ref a ∧ H1 a = some (.ins C dx fs) ∧ fs.lookup m = none ∧ t σ H1 fun vs H2 => te σ H2 fun y H3 => sp (.ref a :: vs ++ [y]) H3 Q fun c d H4 => W c d σ H4) := by
  refine ⟨fun pins s σ H Q I h => ?_⟩
  refine PySem.W.methodCall_KW (pl := pl) (thn (he.run pins s σ H _ I h) fun u s1 ⟨x, H1, I1, rx, a, dx, fs, ex, ea, l, q⟩ => ?_) ht
  subst ex
  obtain rfl : u = Value.ref a := rx
  refine getmeth_ok I1 ea cl hm l ?_
  refine PySem.W.callWith_KW (first := [.ref a]) (h₀ := X.base) I.ok.mod.kin hm.kp hks (thn (ha.run pos pins s1 σ H1 _ I1 q) fun us s2 ⟨vs, H2, I2, r, q2⟩ => ?_) hpl hst
  refine PyProof.Rows.kws_cons (thn (hk.run pins s2 σ H2 _ I2 q2) fun u s3 ⟨y, H3, I3, ry, q3⟩ => PyProof.Rows.kws_nil ?_)
  refine ⟨I3.kIn, ?_⟩
  rw [hkn]
  exact runKw (us := .ref a :: us) (vs := .ref a :: vs) F hr gd kb tk I3 (.cons rfl r) ry q3
theorem pe_methKw0 {C f : Addr} {fd : FuncData} {sp : Sp} {ta te : TE} {pl : Sem Bool} (he : PE X o ta) (cl : Cls X.K C) (hm : Meth X.K C m f) (F : FnG X.prog X.w X.K X.mg X.base (L2.CX X.prog X.w) k f fd (ps ++ [x]) sp) (hr : Room k X.A) (gd : X.A.guards = some []) (kb : KwB fd ps x) (tk : Takes X W) (hk : PE X ke te)
    (hpl : (((backTo pos (starEach [] X.env)).any (·.1)) || (backToKw pos (keywordEach [⟨some x, ke, kp⟩] X.env)).any (·.1.isNone)) = false)
    (hks : ((backToKw pos (keywordEach [⟨some x, ke, kp⟩] X.env)).all (·.1.isSome)) = true) (hkn : (backToKw pos (keywordEach [⟨some x, ke, kp⟩] X.env)).filterMap (·.1) = [x])
    (ht : eval (.Call (.Attribute o m apos) [] [⟨some x, ke, kp⟩] pos) X.env = (do
      let ov ← eval o X.env
      standAt apos.atName
      let (f, first) ← holding [ov] (getMethod ov m pl)
      callWith pos f first (backTo pos (starEach [] X.env)) (backToKw pos (keywordEach [⟨some x, ke, kp⟩] X.env)))) :
    PE X (.Call (.Attribute o m apos) [] [⟨some x, ke, kp⟩] pos) (fun σ H Q => ta σ H fun ov H1 => ∃ a dx fs, ov = .ref a ∧ H1 a = some (.ins C dx fs) ∧ fs.lookup m = none ∧ te σ H1 fun y H3 => sp ([.ref a] ++ [y]) H3 Q fun c d H4 => W c d σ H4) := by
  refine ⟨fun pins s σ H Q I h => ?_⟩
  refine PySem.W.methodCall_KW (pl := pl) (thn (he.run pins s σ H _ I h) fun u s1 ⟨x, H1, I1, rx, a, dx, fs, ex, ea, l, q⟩ => ?_) ht
  subst ex
  obtain rfl : u = Value.ref a := rx
  refine getmeth_ok I1 ea cl hm l ?_
  refine PySem.W.callWith_KW0 (first := [.ref a]) (h₀ := X.base) I.ok.mod.kin hm.kp hks ?_ hpl
  refine PyProof.Rows.kws_cons (thn (hk.run pins s1 σ H1 _ I1 q) fun u s3 ⟨y, H3, I3, ry, q3⟩ => PyProof.Rows.kws_nil ?_)
  refine ⟨I3.kIn, ?_⟩
  rw [hkn]
  exact runKw (us := [.ref a]) (vs := [.ref a]) F hr gd kb tk I3 (.cons rfl .nil) ry q3
/-- o.m(e, .., x=ke) -/
def dMethKw (c m : Str) (S : SpDX) (RX : DXS) (To : TD) (T : TAD) (Te : TD) : TD := fun ρ ω Q => To ρ ω fun ov ω1 => (∃ fds, FsOf c ov ω1 fds ∧ fds.lookup m = none) ∧ T ρ ω1 fun xs ω2 => Te ρ ω2 fun y ω3 => S (ov :: xs ++ [y]) ω3 Q fun y fs ω4 => RX y fs ρ ω4
theorem de_methKw0K {K : PySem.W.Frag} (I0 : AmbX K W RX) {pl : Sem Bool} (cl : Cls X.K (Ers.ad c)) (C : CalN2 X.prog X.w X.K X.mg X.base k c m ps x S) (hr : Room k X.A) (gd : X.A.guards = some []) (tk : Takes X W) (ho : @DE I0.toAmb X o To) (hk : @DE I0.toAmb X ke Te)
    (hpl : (((backTo pos (starEach [] X.env)).any (·.1)) || (backToKw pos (keywordEach [⟨some x, ke, kp⟩] X.env)).any (·.1.isNone)) = false := by rfl)
    (hks : ((backToKw pos (keywordEach [⟨some x, ke, kp⟩] X.env)).all (·.1.isSome)) = true := by rfl) (hkn : (backToKw pos (keywordEach [⟨some x, ke, kp⟩] X.env)).filterMap (·.1) = [x] := by rfl)
    (ht : eval (.Call (.Attribute o m apos) [] [⟨some x, ke, kp⟩] pos) X.env = (do
      let ov ← eval o X.env
      standAt apos.atName
      let (f, first) ← holding [ov] (getMethod ov m pl)
      callWith pos f first (backTo pos (starEach [] X.env)) (backToKw pos (keywordEach [⟨some x, ke, kp⟩] X.env))) := by rfl) (hK : X.K = K := by rfl) :
    @DE I0.toAmb X (.Call (.Attribute o m apos) [] [⟨some x, ke, kp⟩] pos) (dMethKw c m S RX To dNil Te) := by
  subst hK
  obtain ⟨f, fd, ds, F, hi, hfn, hkp, hv, hb, kb⟩ := C
  refine PE.weak (pe_methKw0 ho cl ⟨hi, hfn, hkp⟩ F hr gd kb tk hk hpl hks hkn ht) fun σ H Q ⟨h, ρ, ω, R, sl, w, t, k⟩ => ?_
  refine ⟨h, ρ, ω, _, sl, w, t, fun x ω1 vx H1 ⟨⟨fds0, e0, l0⟩, t1⟩ f1 w1 rx => ?_⟩
  obtain ⟨a, dx, fvs, rfl, ha1, rf⟩ := e0.at_ w1 rx
  refine ⟨a, dx, fvs, rfl, ha1, rf.none l0, h, ρ, ω1, _, sl.keep f1.kp, w1, t1, fun y ω3 vy H3 t3 f3 w3 ry => ?_⟩
  exact spM sl w (f1.trans f3) w3 (.cons (rx.keep f3.kp) (.cons ry .nil)) t3 (k.go (f1.trans f3))
variable {ρ : Rho} {ω : Om} {Q : DQ}
theorem st_methKw (h : To ρ ω fun ov ω1 => (∃ fds, FsOf c ov ω1 fds ∧ fds.lookup m = none) ∧ T ρ ω1 fun xs ω2 => Te ρ ω2 fun y ω3 => S (ov :: xs ++ [y]) ω3 Q fun y fs ω4 => RX y fs ρ ω4) : dMethKw c m S RX To T Te ρ ω Q := h
end
end DL

/-! XN: xs.pop(), xs owned. -/
namespace DL
open PySem PySem.Spec L2 PyProof.Rows PySem.W
section
variable [Ers] {X : Cx} {a : Expr} {Ta : TD}
def dPop0 (Ta : TD) : TD := fun ρ ω Q => Ta ρ ω fun x ω1 => ∃ p xs d, x = .raw (.ref p) ∧ ω1 p = some (.lst (xs ++ [d])) ∧ Q d (oset ω1 p (.lst xs))
variable {ρ : Rho} {ω : Om} {Q : DQ}
theorem st_pop0 (h : Ta ρ ω fun x ω1 => ∃ p xs d, x = .raw (.ref p) ∧ ω1 p = some (.lst (xs ++ [d])) ∧ Q d (oset ω1 p (.lst xs))) : dPop0 Ta ρ ω Q := h
theorem st_gone {i : Nat} {E : DEnds} {ρ : Rho} {ω : Om} (h : E.nx (ρ.set i none) ω) : (dGone i E).nx ρ ω := h
/-- what is after a statement is read once, from what holds there -/
theorem st_seqM {A B : TSD} {D : DEnds} {ρ : Rho} {ω : Om} (M : Rho → Om → Prop) (h1 : ∀ N : Rho → Om → Prop, (∀ ρ ω, M ρ ω → N ρ ω) → A { D with nx := N } ρ ω) (h2 : ∀ ρ ω, M ρ ω → B D ρ ω) : dSeq A B D ρ ω := h1 _ h2
end
end DL

/-! XF: several except clauses, each with a name. -/
namespace DL
open PySem PySem.Spec L2 PyProof.Rows PySem.W
abbrev Clause := Value × Nat × (Addr → Value → Option Addr → TS)
def wAsL (K : PySem.W.Frag) (Wout : WX) (D : Ends) (l : List Clause) : WX := l.foldr (fun q W => wAs K q.1 q.2.1 q.2.2 W D) Wout
inductive Clauses (X : Cx) : List ExceptHandler → List Clause → Prop
  | nil : Clauses X [] []
  | cons {x n : Str} {c : Value} {i : Nat} {ts : Addr → Value → Option Addr → TS} {b₀ : Stmt} {su : List Stmt} {p p' : Pos} {hs : List ExceptHandler} {l : List Clause} (nm : Names X x c) (at_ : X.N[i]? = some n) (lo : X.env.kindOf n = some .local)
      (run : ∀ (a : Addr) (oe : Obj) (cls : Value) (d : Option Addr) (pn : List (Addr × Obj)), Zc cls d oe → (∃ vs, oe.data = .fields vs) → PSs (X.suite a ((a, oe) :: pn)) (b₀ :: su) (ts a cls d)) (r : Clauses X hs l) :
      Clauses X (.ExceptHandler (some (.Name x p)) (some n) (b₀ :: su) p' :: hs) ((c, i, ts) :: l)
section
variable {X : Cx} {body : List Stmt} {hd : ExceptHandler} {hds : List ExceptHandler} {l : List Clause} {pos : Pos} {tb : WX → TS} {Wout : WX}
/-- one clause: it holds or the next ones are asked -/
theorem clauses_go {pins : List (Addr × Obj)} {D : Ends} {s' : Shared} {a : Addr} {B : Heap} {sI : Shared} {σ' : L2.St} {H' : Hp} {cls : Value} {d : Option Addr} {h3 : Heap} (hs : X.stack = X.env :: X.outer) (hf : X.env.frame = some X.env.locals) (hN : X.N.Nodup) (ok : Cx.Ok X) (tk : Takes X Wout)
    (J : Inv X pins σ' H' sI) (nb : ∀ b o, sI.heap.get? b = some o → ¬b ∈ frs X.stack → B.get? b = some o) (up : sI.heap.UpToSlots s'.heap) (up3 : s'.heap.UpToSlots h3) (na : H' a = none) (os : s'.os = sI.os) (ag : AllBare s'.gens)
    (nL : a ≠ X.env.locals) (nF : a ∉ X.fs) (fl3 : HandSPX.FlyingZ B (X.env :: X.outer) a (Zc cls d) h3) {hds : List ExceptHandler} {l : List Clause} (hk : Clauses X hds l) : wAsL X.K Wout D l cls d σ' H' →
    wpAny (model X.prog X.w) X.A (handleBy (.ref a) X.env hds) (SP X pins D) X.xe { s' with heap := h3 } := by
  have settled : ∀ {h : Heap}, HandSPX.FlyingZ B (X.env :: X.outer) a (Zc cls d) h → s'.heap.UpToSlots h → Inv X pins σ' H' { s' with heap := h } := fun fl u => J.landed nb fl.1 (up.trans u) os ag
  induction hk with
  | nil =>
    intro w
    refine wpAny_handleBy_nil ?_
    obtain ⟨_, _, _, oe, vs, T, oT, ts', he, hz, hd', h1, hr⟩ := id fl3
    unfold PySem.passOn
    refine wpAny_bind (wpAny_field he hd' h1 ?_)
    rw [if_neg (show ¬ ((Value.ref T == Value.none) = true) from by simp)]
    have leave : wpAny (model X.prog X.w) X.A (setFlight (.ref a) X.env.frame) (fun _ s4 => wpAny (model X.prog X.w) X.A (throw (.ref a) : Sem Flow) (SP X pins D) X.xe s4) X.xe { s' with heap := h3 } := by
      rw [hf]
      exact HandSPX.setFlight_upZ fl3 fun h4 hh4 up4 => wpAny_throw (tk _ _ ⟨a, B, sI, pins, σ', H', cls, d, rfl, J, nb, (up.trans up3).trans up4, .inr (.inr (by rw [hs]; exact hh4)), na, os, ag, w⟩)
    first
      | exact wpAny_bind (wpAny_pure (wpAny_bind leave))
      | exact wpAny_bind leave
  | @cons x n c i ts b₀ su p p' hs2 l2 nm at_ lo run r ih =>
    rintro ⟨b, hb, yes, no⟩
    obtain ⟨oe3, vs3, he3, hz3, hd3⟩ := fl3.there
    have J3 := settled fl3 up3
    have S3 := J3.suite he3 hd3 na nL nF
    refine wpAny_handleBy_cons (codeAny_handlers_test ?_) (by intro q; cases q)
    have ty : PySem.W.Looks (model X.prog X.w) h3 (typeOf (.ref a)) cls := fun A Q E s k q => wpAny_typeOf_ref (k _ _ he3) (by rw [hz3.1]; exact q)
    have asked := PySem.W.exm_one (M := model X.prog X.w) J3.kIn ty hb
    have named : ∀ {Q : Value → Shared → Prop} {E : Value → Shared → Prop}, Q c { s' with heap := h3 } → wpAny (model X.prog X.w) (X.A.mark (some (.ref a))) (eval (.Name x p) X.env) Q E { s' with heap := h3 } := fun {Q E} q => by
      obtain ⟨hg, hdb, hm | ⟨hm, hv, hnn⟩⟩ := nm
      · exact ld_glob (X := X.suite a ((a, oe3) :: (X.pn ++ pins))) S3 hg hm q hdb
      · exact ld_blt (X := X.suite a ((a, oe3) :: (X.pn ++ pins))) S3 hg hm hv q hnn hdb
    refine named (asked.here ?_)
    cases b with
    | false =>
      show wpAny _ X.A (handleBy (.ref a) X.env hs2) _ _ _
      exact ih (no rfl)
    | true =>
      refine codeAny_handlers_suite_as ?_
      refine HandSPX.lands_againZ fl3 fun h4 fl4 up4 => ?_
      obtain ⟨oe4, vs4, he4, hz4, hd4⟩ := fl4.there
      have S4 := (settled fl4 (up3.trans up4)).suite he4 hd4 na nL nF
      refine store_ok (X := X.suite a ((a, oe4) :: (X.pn ++ pins))) (v := .ref a) S4 hN at_ (.inl lo) rfl (fun s5 S5 => ?_) (.inr lo)
      refine wpAny_mono ((run a oe4 cls d (X.pn ++ pins) hz4 ⟨_, hd4⟩).run [] s5 _ H' _ S5 (yes rfl a na)) (fun f s6 o => ?_) (fun _ _ z => False.elim z)
      have gone : ∀ {σ6 : L2.St} {H6 : Hp} {Q : Shared → Prop}, Inv (X.suite a ((a, oe4) :: (X.pn ++ pins))) [] σ6 H6 s6 → (∀ s7, Inv X pins (σ6.set i none) H6 s7 → Q s7) →
          wpAny (model X.prog X.w) X.A (do bindName X.env n .none; unbindBehindTheSuite X.env n p') (fun _ s7 => Q s7) X.xe s6 := fun {σ6 H6 Q} S6 hq => gone_ok (S6.unsuite ok) hN at_ lo hq
      cases f with
      | ret u => obtain ⟨v6, σ6, H6, S6, r6, q6⟩ := o; exact gone S6 fun s7 J7 => ⟨_, _, _, J7, r6, q6⟩
      | _ => obtain ⟨σ6, H6, S6, q6⟩ := o; exact gone S6 fun s7 J7 => ⟨_, _, J7, q6⟩
end
variable [Ers]
abbrev DClause := Str × Nat × (Str → Addr → Option Addr → TSD)
/-- the errors of a try's body, and several clauses -/
def dCatchL (prs : List (Str × Str)) (RXo : DXS) (E : DEnds) (l : List DClause) : DXS := l.foldr (fun q RX => dCatch prs q.1 q.2.1 q.2.2 RX E) RXo
def dTryL (prs : List (Str × Str)) (l : List DClause) (Tb : DXS → TSD) (RXo : DXS) : TSD := fun E ρ ω => Tb (dCatchL prs RXo E l) E ρ ω
inductive DCl [Amb] (X : Cx) (prs : List (Str × Str)) : List ExceptHandler → List DClause → Prop
  | nil : DCl X prs [] []
  | cons {x n c : Str} {i : Nat} {Ts : Str → Addr → Option Addr → TSD} {b₀ : Stmt} {su : List Stmt} {p p' : Pos} {hs : List ExceptHandler} {l : List DClause} (at_ : X.N[i]? = some n) (lo : X.env.kindOf n = some .local) (nm : Names X x (clsU c))
      (run : ∀ (y : Str) (a : Addr) (oe : Obj) (d : Option Addr) (pn : List (Addr × Obj)), (y, c) ∈ prs → Zc (.ref (Ers.ad y)) d oe → (∃ vs, oe.data = .fields vs) → DSs (X.suite a ((a, oe) :: pn)) (b₀ :: su) (Ts y a d)) (r : DCl X prs hs l) :
      DCl X prs (.ExceptHandler (some (.Name x p)) (some n) (b₀ :: su) p' :: hs) ((c, i, Ts) :: l)
abbrev clOf [Amb] (K : PySem.W.Frag) (prs : List (Str × Str)) (q : DClause) : Clause := (clsU q.1, q.2.1, tsOf K prs q.1 q.2.2)
theorem DCl.cl [Amb] {X : Cx} {prs : List (Str × Str)} {hs : List ExceptHandler} {l : List DClause} (k : DCl X prs hs l) : Clauses X hs (l.map (clOf X.K prs)) := by
  induction k with
  | nil => exact .nil
  | cons at_ lo nm run r ih => exact .cons nm at_ lo (fun a oe cls d pn z hf => ⟨fun pins s σ H D J ⟨y, e, m, u⟩ => by subst e; exact (run y a oe d pn m z hf).run pins s σ H D J u⟩) ih
section
variable {K : PySem.W.Frag} {h : Fp} {H : Hp} {ω : Om} {prs : List (Str × Str)} {fls : List Str} {RXo : DXS} {Wout : WX}
end
section
variable {prs : List (Str × Str)} {c x : Str} {i : Nat} {Tb : DXS → TSD} {Ts : Str → Addr → Option Addr → TSD} {RXo : DXS} {E : DEnds} {ρ : Rho} {ω : Om} {l : List DClause} {fs : XF}
/-- it is not this clause's -/
theorem st_else (m : (x, c) ∈ prs) (hb : subB x c = false) (h : dCatchL prs RXo E l x fs ρ ω) : dCatchL prs RXo E ((c, i, Ts) :: l) x fs ρ ω := ⟨m, (fun z => by rw [hb] at z; cases z), fun _ => h⟩
/-- it is this clause's -/
theorem st_this (h : dCatch prs c i Ts (dCatchL prs RXo E l) E x fs ρ ω) : dCatchL prs RXo E ((c, i, Ts) :: l) x fs ρ ω := h
end
end DL

/-! XY: tuple * 1 and tuple * 0 -/
namespace DL
open PySem PySem.Spec L2 PyProof.Rows
def rRep1 (K : PySem.W.Frag) : R2 := fun x y H Q => ∃ l xs, x = .ref l ∧ y = .int 1 ∧ SqT K H l xs ∧ Q (.ref l) H
def rRep0 (K : PySem.W.Frag) : R2 := fun x y H Q => ∃ l xs, x = .ref l ∧ y = .int 0 ∧ SqT K H l xs ∧ xs ≠ [] ∧ ∀ p, H p = none → Q (.ref p) (upd H p (.tup []))
section
variable {X : Cx}
end
/-- tuple * n, n not below 0 -/
def dMulN : DO2 := fun x y ω Q => ∃ (xs : List D) (k : Int), x = .tup xs ∧ y = .int k ∧ xs ≠ [] ∧ 0 ≤ k ∧ k ≤ 1000 ∧ xs.length ≤ 1000 ∧ Q (.tup (List.replicate k.toNat xs).flatten) ω
variable {ω : Om} {Q : DQ} {xs : List D} {k : Int}
end DL

/-! XZ: range(a, b, c). -/
namespace DL
open PySem PySem.Spec L2 PyProof.Rows
section
variable {X : Cx} {tg a b c : Expr} {p pos : Pos} {T : TAD} {K : PySem.W.Frag} {h : Fp} {H : Hp} {ω : Om}
def rngC (lo c : Int) (n : Nat) : List D := (List.range n).map fun i => D.int (lo + (i : Nat) * c)
def dRng3 (T : TAD) : TID := fun ρ ω Q => T ρ ω fun xs ω1 => ∃ (i j c : Int) (n : Nat), xs = [.int i, .int j, .int c] ∧ RgC i j c n ∧ Q (rngC i c n) (fun _ => True) ω1
variable {ρ : Rho} {QI : List D → (Om → Prop) → Om → Prop}
theorem st_rng3 (h : T ρ ω fun xs ω1 => ∃ (i j c : Int) (n : Nat), xs = [.int i, .int j, .int c] ∧ RgC i j c n ∧ QI (rngC i c n) (fun _ => True) ω1) : dRng3 T ρ ω QI := h
end
/-- an edit that can't be done, and its error -/
inductive Bad (ws : List Int) : D → Str → XF → Prop
  | come {v : D} (b : numB v 1 1000000 = false) (ok : v.ok = true) : Bad ws (.tup [.str "come", v]) "BadWeight" (some [("value", v)])
  | full {w : Int} (a : 1 ≤ w) (b : w ≤ 1000000) (c : ws.length = 24) : Bad ws (.tup [.str "come", .int w]) "TooManyPeople" none
  | leave {v : D} (b : numB v 0 ((ws.length : Int) - 1) = false) (ok : v.ok = true) : Bad ws (.tup [.str "leave", v]) "NoPerson" (some [("value", v)])
  | weigh1 {v u : D} (b : numB v 0 ((ws.length : Int) - 1) = false) (ok : v.ok = true) (ok2 : u.ok = true) : Bad ws (.tup [.str "weigh", v, u]) "NoPerson" (some [("value", v)])
  | weigh2 {k : Int} {u : D} (a : 0 ≤ k) (c : k < ws.length) (b : numB u 1 1000000 = false) (ok : u.ok = true) : Bad ws (.tup [.str "weigh", .int k, u]) "BadWeight" (some [("value", u)])
  | loosen {v : D} (b : numB v 1 1000000 = false) (ok : v.ok = true) : Bad ws (.tup [.str "loosen", v]) "BadExcess" (some [("value", v)])
/-- the error that is due, as a list -/
def dueL (c : Str) (fs : XF) : List D := match fs with
  | some [(_, v)] => if c = "NoPerson" then [.str "person", .str v.py.shown] else if c = "BadWeight" then [.int 0, .str v.py.shown] else [.int 1, .str v.py.shown]
  | _ => [.int 2]
/-- a value that can be written, and its text laid -/
def OddV (v : D) : Prop := Nice 3 200 v ∧ PyData.strOk v.py.shown = true
def NiceF (fs : XF) : Prop := ∀ l, fs = some l → ∀ q ∈ l, OddV q.2
/-- an edit by its form, with values of any kind -/
inductive Form : D → Prop
  | come {v : D} (n : OddV v) : Form (.tup [.str "come", v])
  | leave {v : D} (n : OddV v) : Form (.tup [.str "leave", v])
  | weigh {v u : D} (n : OddV v) (m : OddV u) : Form (.tup [.str "weigh", v, u])
  | loosen {v : D} (n : OddV v) : Form (.tup [.str "loosen", v])
/-- what is due -/
def Due (ws : List Int) (d : D) (r : List D) : Prop := (∃ u : Ed, d = u.d ∧ u.can ws ∧ r = []) ∨ ∃ c fs, Bad ws d c fs ∧ NiceF fs ∧ r = dueL c fs
/-- a tower, compared with itself -/
theorem eqD_tow (e : Int) (ws : List Int) : eqD (towD e ws) (towD e ws) ∧ PyData.eqv (towD e ws).py (towD e ws).py = true := by
  obtain ⟨h1, h2⟩ := lay_ints ws
  have f : (towD e ws).flat = true := by have h := flat_ints ws; simpa [D.flat, flatAll] using h
  have s : SeqAt.shaped (towD e ws).py = true := by
    simp only [SeqAt.shaped, D.py, pyAll, PyData.canLay0, PyData.canLayAll0, PyData.depth, PyData.depthAll, h1, Bool.true_and]
    exact decide_eq_true (by omega)
  refine ⟨⟨f, f, s, s⟩, ?_⟩
  have e1 := eqv_tups ws ws
  have e2 : PyData.eqv (D.tup (ws.map D.int)).py (D.tup (ws.map D.int)).py = true := by rw [e1]; exact decide_eq_true rfl
  simp only [D.py, pyAll, PyData.eqv, PyData.eqvAll] at e2 ⊢
  simp [e2]
end DL

/-! YA: a def under a second name; o.m(e, ..) where a keyword has a default; comprehensions with four names. -/
namespace DL
open PySem PySem.Spec L2 PyProof.Rows PySem.W
theorem CalD.al {P : Program} {w : World} {K : PySem.W.Frag} {mg : Str → Option Value} {base : Heap} {k : Nat} {x y : Str} {ps : List Str} {S : SpD} (C : CalD P w K mg base k x ps S) (e : mg y = mg x) : CalD P w K mg base k y ps S := by
  obtain ⟨f, fd, F, hm, r⟩ := C
  exact ⟨f, fd, F, e.trans hm, r⟩
section
variable [Ers]
theorem CalX.al {P : Program} {w : World} {K : PySem.W.Frag} {mg : Str → Option Value} {base : Heap} {k : Nat} {x y : Str} {ps : List Str} {S : SpDX} (C : CalX P w K mg base k x ps S) (e : mg y = mg x) : CalX P w K mg base k y ps S := by
  obtain ⟨f, fd, F, hm, r⟩ := C
  exact ⟨f, fd, F, e.trans hm, r⟩
variable {X : Cx} {W : WX} {RX : DXS} {c m x : Str} {o e : Expr} {es : List Expr} {To : TD} {T : TAD} {S : SpDX} {ps : List Str} {k : Nat} {apos pos : Pos}
theorem pe_methNA {C f : Addr} {fd : FuncData} {sp : Sp} {ta : TE} {t : TA} {pl : Sem Bool} {ds : List Value} (he : PE X o ta) (cl : Cls X.K C) (hm : Meth X.K C m f) (F : FnG X.prog X.w X.K X.mg X.base (L2.CX X.prog X.w) k f fd ps sp) (hr : Room k X.A) (gd : X.A.guards = some []) (hv : Vals [V.non] ds) (hb : Binds X.K fd ps ds) (tk : Takes X W) (ha : PA X (e :: es) t)
    (hst : starEach (e :: es) X.env = (false, eval e X.env) :: starEach es X.env := by rfl) (hpl : (backTo pos (starEach es X.env)).any (·.1) = false := by rfl)
    (ht : eval (.Call (.Attribute o m apos) (e :: es) [] pos) X.env = (do
      let ov ← eval o X.env
      standAt apos.atName
      let (f, first) ← holding [ov] (getMethod ov m pl)
      callWith pos f first (backTo pos (starEach (e :: es) X.env)) (backToKw pos (keywordEach [] X.env))) := by rfl) :
    PE X (.Call (.Attribute o m apos) (e :: es) [] pos) (fun σ H Q => ta σ H fun x H1 => ∃ a dx fs, x = .ref a ∧ H1 a = some (.ins C dx fs) ∧ fs.lookup m = none ∧ t σ H1 fun vs H2 => sp (.ref a :: vs ++ [.non]) H2 Q fun c d H3 => W c d σ H3) := by
  refine ⟨fun pins s σ H Q I h => ?_⟩
  refine PySem.W.methodCall_KW (pl := pl) (thn (he.run pins s σ H _ I h) fun u s1 ⟨x, H1, I1, rx, a, dx, fs, ex, ea, l, q⟩ => ?_) ht
  subst ex
  obtain rfl : u = Value.ref a := rx
  refine getmeth_ok I1 ea cl hm l ?_
  refine PySem.W.callWith_K (first := [.ref a]) (h₀ := X.base) I.ok.mod.kin hm.kp (thn (ha.run pos pins s1 σ H1 _ I1 q) fun us s2 ⟨vs, H2, I2, r, q2⟩ => ⟨I2.kIn, ?_⟩) hst hpl
  have r1 : Vals (V.ref a :: vs) (Value.ref a :: us) := .cons rfl r
  have r2 : Vals (V.ref a :: vs ++ [V.non]) ((Value.ref a :: us) ++ ds) := r1.append hv
  have ll : ((Value.ref a :: us) ++ ds).length = ps.length := by rw [← r2.length]; exact F.arity _ _ _ _ q2
  refine wpAny_call (codeAny_mono (F.goes X.A X.stack s2 H2 ⟨.ref a :: us, []⟩ _ (V.ref a :: vs ++ [V.non]) Q _ hr gd I2.env0 (hb s2 (.ref a :: us) I2.kIn ll) r2 q2) fun res s' y => ?_)
  match res, y with
  | .error er, y => exact tk er s' (XE.of_call I2 (fun _ _ _ y => y) y)
  | .ok (.ret u), y => exact I2.after y
/-- o.m(e, ..), the one keyword left out -/
def dMethNA (c m : Str) (S : SpDX) (RX : DXS) (To : TD) (T : TAD) : TD := fun ρ ω Q => To ρ ω fun x ω1 => (∃ fds, FsOf c x ω1 fds ∧ fds.lookup m = none) ∧ T ρ ω1 fun xs ω2 => S (x :: xs ++ [.non]) ω2 Q fun y fs ω3 => RX y fs ρ ω3
theorem de_methNAK {K : PySem.W.Frag} (I0 : AmbX K W RX) {pl : Sem Bool} (cl : Cls X.K (Ers.ad c)) (C : CalN X.prog X.w X.K X.mg X.base k c m ps S) (hr : Room k X.A) (gd : X.A.guards = some []) (tk : Takes X W) (ho : @DE I0.toAmb X o To) (ha : @DA I0.toAmb X (e :: es) T)
    (hst : starEach (e :: es) X.env = (false, eval e X.env) :: starEach es X.env := by rfl) (hpl : (backTo pos (starEach es X.env)).any (·.1) = false := by rfl)
    (ht : eval (.Call (.Attribute o m apos) (e :: es) [] pos) X.env = (do
      let ov ← eval o X.env
      standAt apos.atName
      let (f, first) ← holding [ov] (getMethod ov m pl)
      callWith pos f first (backTo pos (starEach (e :: es) X.env)) (backToKw pos (keywordEach [] X.env))) := by rfl) (hK : X.K = K := by rfl) :
    @DE I0.toAmb X (.Call (.Attribute o m apos) (e :: es) [] pos) (dMethNA c m S RX To T) := by
  subst hK
  obtain ⟨f, fd, ds, F, hi, hfn, hk, hv, hb⟩ := C
  refine PE.weak (pe_methNA ho cl ⟨hi, hfn, hk⟩ F hr gd hv hb tk ha hst hpl ht) fun σ H Q ⟨h, ρ, ω, R, sl, w, t, k⟩ => ?_
  refine ⟨h, ρ, ω, _, sl, w, t, fun x ω1 vx H1 ⟨⟨fds0, e0, l0⟩, t1⟩ f1 w1 rx => ?_⟩
  obtain ⟨a, dx, fvs, rfl, ha1, rf⟩ := e0.at_ w1 rx
  refine ⟨a, dx, fvs, rfl, ha1, rf.none l0, h, ρ, ω1, _, sl.keep f1.kp, w1, t1, fun xs ω2 vs H2 t2 f2 w2 rs => ?_⟩
  exact spM sl w (f1.trans f2) w2 (.cons (rx.keep f2.kp) (RpAll.app rs (.cons .non .nil))) t2 (k.go (f1.trans f2))
variable {ρ : Rho} {ω : Om} {Q : DQ}
theorem st_methNA (h : To ρ ω fun x ω1 => (∃ fds, FsOf c x ω1 fds ∧ fds.lookup m = none) ∧ T ρ ω1 fun xs ω2 => S (x :: xs ++ [.non]) ω2 Q fun y fs ω3 => RX y fs ρ ω3) : dMethNA c m S RX To T ρ ω Q := h
end
section
variable {K : PySem.W.Frag}
theorem RpAll.four {f : Fp} {H : Hp} {a b c d : D} {vs : List V} (r : RpAll K f H [a, b, c, d] vs) : ∃ v1 v2 v3 v4, vs = [v1, v2, v3, v4] ∧ Rp K f H a v1 ∧ Rp K f H b v2 ∧ Rp K f H c v3 ∧ Rp K f H d v4 := by
  cases r with
  | cons r1 r => cases r with
    | cons r2 r => cases r with
      | cons r3 r => cases r with
        | cons r4 r =>
          cases r
          exact ⟨_, _, _, _, rfl, r1, r2, r3, r4⟩
/-- a comprehension with four names, over lists of four -/
theorem gok_fourL [Amb] {i j l m : Nat} {vs : List Nat} (hi : i ∈ vs) (hj : j ∈ vs) (hl : l ∈ vs) (hm : m ∈ vs) : GOk K (gLst K 4 (gCons (gName i) (gCons (gName j) (gCons (gName l) (gCons (gName m) gNil))))) (dgLst 4 (dgCons (dgName i) (dgCons (dgName j) (dgCons (dgName l) (dgCons (dgName m) dgNil))))) vs := ⟨fun h σ ρ ω d v H R Q sl w r t k => by
  obtain ⟨xs, e, ln, x, xs', rfl, y, ys', e2, z, zs', e3, u, us', e4, e5, t⟩ := t
  cases e2
  cases e3
  cases e4
  cases e5
  obtain ⟨a, us, rfl, sx, ra⟩ := lstOf_sq w e r
  obtain ⟨v1, v2, v3, v4, rfl, r1, r2, r3, r4⟩ := ra.four
  refine ⟨_, _, rfl, sx, rfl, _, _, rfl, _, _, rfl, _, _, rfl, _, _, rfl, rfl, ?_⟩
  refine k _ _ ?_ t ((((sl.set r1 i).set r2 j).set r3 l).set r4 m)
  rw [wipe_set hm, wipe_set hl, wipe_set hj, wipe_set hi, wipe_wipe σ vs vs fun _ z => z]⟩
/-! ### rides along a plan; widest steps -/
theorem intsI_inj {us ws : List Int} (h : us.map D.int = ws.map D.int) : us = ws := by rw [← nums_ints us, ← nums_ints ws, h]
theorem mvD_inj {m k : Mv} (h : mvD m = mvD k) : m = k := by
  obtain ⟨a, b⟩ := m
  obtain ⟨c, d⟩ := k
  have h : D.tup [.tup (a.map D.int), .tup (b.map D.int)] = D.tup [.tup (c.map D.int), .tup (d.map D.int)] := h
  injection h with h
  injection h with h1 h2
  injection h2 with h2 _
  injection h1 with h1
  injection h2 with h2
  rw [intsI_inj h1, intsI_inj h2]
/-- what holds at each move of a plan -/
theorem plan_at {x : Int} {ws : List Int} : ∀ {ms : List Mv} {g : List Int}, GrpI ws.length g → planL x ws g (ms.map mvD) = true → ∀ {k : Nat} {m : Mv}, ms[k]? = some m →
    GrpI ws.length m.1 ∧ GrpI ws.length m.2 ∧ GrpI ws.length (after g (ms.take k)) ∧ wt ws (after g (ms.take (k + 1))) = wt ws (after g (ms.take k)) + (wt ws m.1 - wt ws m.2) ∧ GrpI ws.length (after g (ms.take (k + 1))) ∧ 1 ≤ wt ws m.1 - wt ws m.2 ∧ wt ws m.1 - wt ws m.2 ≤ x
  | [], _, _, _, k, m, e => by simp at e
  | m0 :: ms, g, hg, h, k, m, e => by
    have h : movB x ws g (mvD m0) = true ∧ planL x ws (stepG g (mvD m0)) (ms.map mvD) = true := by simpa [planL] using h
    obtain ⟨dn, un, e0, h1, h2, h3, h4⟩ := mov_get h.1
    obtain rfl : m0 = (dn, un) := mvD_inj e0
    have hb := h.1
    rw [show mvD (dn, un) = .tup [.tup (dn.map D.int), .tup (un.map D.int)] from rfl, mov_some h1 h2 h3 h4, Bool.and_eq_true, decide_eq_true_eq, decide_eq_true_eq] at hb
    have hs : stepG g (mvD (dn, un)) = moved g dn un := stepG_pair
    have hm : GrpI ws.length (moved g dn un) := moved_grp hg (fun k hk => ⟨(h1.1 k hk).1, (h1.1 k hk).2, h3 k hk⟩) h1.2
    cases k with
    | zero =>
      cases e
      exact ⟨h1, h2, hg, wt_moved hg h2 h4, hm, hb.1, hb.2⟩
    | succ k =>
      have e : ms[k]? = some m := e
      have z := plan_at (by rw [hs]; exact hm) h.2 e
      rw [hs] at z
      exact z
theorem route_plan [Amb] {x : Int} {ws g h : List Int} {r : List (List Int)} (rt : Route x ws g h r) : planL x ws g ((mvsOf r).map mvD) = true ∧ ((mvsOf r).map mvD).foldl stepG g = h := by
  have z := route_leads rt
  unfold leadsB at z
  rw [Bool.and_eq_true, decide_eq_true_eq] at z
  exact z
theorem adj_next : ∀ {L : List Int} {r t : Int}, L.Pairwise (· < ·) → r ∈ L → t ∈ L → r < t → ∃ b, (r, b) ∈ adj L
  | [], r, _, _, h, _, _ => nomatch h
  | [a], r, t, _, h1, h2, lt => by
    rw [List.mem_singleton] at h1 h2
    omega
  | a :: b :: l, r, t, p, h1, h2, lt => by
    rw [adj_cons]
    rcases List.mem_cons.mp h1 with rfl | h1
    · exact ⟨b, List.mem_cons_self⟩
    · have ar : a < r := (List.pairwise_cons.mp p).1 r h1
      rcases List.mem_cons.mp h2 with rfl | h2
      · omega
      · obtain ⟨c, hc⟩ := adj_next (List.pairwise_cons.mp p).2 h1 h2 lt
        exact ⟨c, List.mem_cons_of_mem _ hc⟩
/-- a step beyond reach is too far -/
theorem far_step {x : Int} {ws : List Int} (h1 : ∀ w ∈ ws, 1 ≤ w) (x0 : 0 ≤ x) {s : Int} (hs : s ∈ sumsL ws) (lt : rch x ws < s) : x < s - rch x ws := by
  obtain ⟨g, gg, rfl⟩ := (mem_sumsL h1).mp hs
  obtain ⟨g0, gg0, e0⟩ := (mem_sumsL h1).mp (rch_mem (x := x) h1 x0)
  by_cases c : wt ws g - rch x ws ≤ x
  · have := rch_step h1 x0 gg (g := g0) (by omega) (by omega)
    omega
  · omega
/-- the widest step between sums is what is wanted at least -/
theorem wide_free {m : Int} {ws : List Int} (h1 : ∀ w ∈ ws, 1 ≤ w) (m1 : 1 ≤ m) (hm : ∀ e, 1 ≤ e → (m ≤ e ↔ Free e ws)) : (m = 1 ∨ ∃ p ∈ adj (sumsL ws), p.2 - p.1 = m) ∧ ∀ p ∈ adj (sumsL ws), p.2 - p.1 ≤ m := by
  have top : ws.sum ∈ sumsL ws := (mem_sumsL h1).mpr ⟨ups ws.length, grp_ups _, wt_ups ws⟩
  have all : ∀ p ∈ adj (sumsL ws), p.2 - p.1 ≤ m := fun p hp => by
    obtain ⟨c1, c2⟩ := adj_lt (sumsL_lt ws) hp
    have f := (rch_sum (by omega) h1).mpr ((hm m m1).mp (Int.le_refl _))
    have m2 := (adj_mem hp).2
    obtain ⟨g, gg, e2⟩ := (mem_sumsL h1).mp m2
    have := grp_sum h1 gg
    exact near_adj h1 (adj_mem hp).1 (by rw [f]; omega) c1 c2
  refine ⟨?_, all⟩
  by_cases c : m = 1
  · exact .inl c
  · right
    have nf : ¬ Free (m - 1) ws := fun f => by
      have := (hm (m - 1) (by omega)).mpr f
      omega
    have ne : rch (m - 1) ws ≠ ws.sum := fun e => nf ((rch_sum (by omega) h1).mp e)
    have le := rch_le (e := m - 1) h1
    obtain ⟨b, hb⟩ := adj_next (sumsL_lt ws) (rch_mem h1 (by omega)) top (show rch (m - 1) ws < ws.sum by omega)
    have lt := (adj_lt (sumsL_lt ws) hb).1
    have := far_step h1 (show 0 ≤ m - 1 by omega) (adj_mem hb).2 lt
    have := all _ hb
    exact ⟨_, hb, by show b - rch (m - 1) ws = m; have : b - rch (m - 1) ws ≤ m := this; omega⟩
end
end DL

/-! YB: instances of one of several classes; a class's function called with the instance. -/
namespace DL
open PySem PySem.Spec L2 PyProof.Rows PySem.W
/-- one of the classes -/
def dSome (CS : List Str) (T : Str → TD) : TD := fun ρ ω Q => ∃ c, c ∈ CS ∧ T c ρ ω Q
def dSomeS (CS : List Str) (T : Str → TSD) : TSD := fun E ρ ω => ∃ c, c ∈ CS ∧ T c E ρ ω
section
variable {X : Cx} {e : Expr} {st : Stmt} {CS : List Str}
end
section
variable {ρ : Rho} {ω : Om} {Q : DQ} {E : DEnds} {CS : List Str} {c : Str}
theorem st_oneOf {T : Str → TD} (hc : c ∈ CS) (h : T c ρ ω Q) : dSome CS T ρ ω Q := ⟨c, hc, h⟩
theorem st_oneOfS {T : Str → TSD} (hc : c ∈ CS) (h : T c E ρ ω) : dSomeS CS T E ρ ω := ⟨c, hc, h⟩
end
section
variable [Ers]
theorem CalM.more {P : Program} {w : World} {K : PySem.W.Frag} {mg : Str → Option Value} {base : Heap} {k k' : Nat} {c m : Str} {ps : List Str} {S : SpDX} (C : CalM P w K mg base k c m ps S) (le : k ≤ k') : CalM P w K mg base k' c m ps S := by
  obtain ⟨f, fd, F, r⟩ := C
  exact ⟨f, fd, F.mono le, r⟩
variable {X : Cx} {W : WX} {RX : DXS} {c m x : Str} {o e : Expr} {es : List Expr} {To : TD} {T : TAD} {S : SpDX} {ps : List Str} {k : Nat} {apos pos : Pos}
/-- what C.m hands out is the def itself -/
def ClsF (K : PySem.W.Frag) (c m : Str) : Prop := ∃ mc f, ClX.CRead K (Ers.ad c) mc ∧ findIn K (.ref (Ers.ad c)) m = some (some (.ref f)) ∧ findCls K (.ref (Ers.ad c)) mc m = some (.val (.ref f))
/-- C.m(e, ..) -/
def dClsM (c : Str) (S : SpDX) (RX : DXS) (To : TD) (T : TAD) : TD := fun ρ ω Q => To ρ ω fun x ω1 => x = .raw (.ref (Ers.ad c)) ∧ T ρ ω1 fun xs ω2 => S xs ω2 Q fun y fs ω3 => RX y fs ρ ω3
variable {ρ : Rho} {ω : Om} {Q : DQ}
theorem st_clsM (h : To ρ ω fun x ω1 => x = .raw (.ref (Ers.ad c)) ∧ T ρ ω1 fun xs ω2 => S xs ω2 Q fun y fs ω3 => RX y fs ρ ω3) : dClsM c S RX To T ρ ω Q := h
end
end DL

/-! YC: hoists with and without a promise. -/
namespace DL
open PySem PySem.Spec L2 PyProof.Rows PySem.W
/-- the class of a hoist: with a promise or without -/
def hoC : Option Int → Str
  | none => "Hoist"
  | some _ => "PromisedHoist"
abbrev HoCS : List Str := ["Hoist", "PromisedHoist"]
def leastF : Option Int → List (Str × D)
  | none => []
  | some n => [("_least", .int n)]
def hoG (L : Option Int) (ts es : List D) : List (Str × D) := ("_towers", .tup ts) :: ("_edits", .tup es) :: ("_watched", .bl false) :: leastF L
variable [Ers]
/-- the promise holds with such a tower -/
def Fits (L : Option Int) (e : Int) (ws : List Int) : Prop := ∀ n, L = some n → n ≤ rch e ws
instance {L : Option Int} {e : Int} {ws : List Int} : Decidable (Fits L e ws) := match L with
  | none => .isTrue fun _ h => nomatch h
  | some n => if h : n ≤ rch e ws then .isTrue fun m e => by cases e; exact h else .isFalse fun f => h (f n rfl)
/-- what an edit's keeping comes to -/
def KeepS (L : Option Int) (x dx : Addr) (ts es : List D) (e : Int) (ws : List Int) (ed : D) (ω : Om) (R : DQ) (RX : Str → Option (List (Str × D)) → Om → Prop) : Prop :=
  (Fits L e ws → R (.int (es.length + 1 : Nat)) (oset ω x (.ins (Ers.ad (hoC L)) dx (hoG L (ts ++ [towD e ws]) (es ++ [ed]))))) ∧ (¬ Fits L e ws → RX "TooLow" (some [("number", .int (rch e ws))]) ω)
end DL

/-! YD: o.m(*xs); what is never reached. -/
namespace DL
open PySem PySem.Spec L2 PyProof.Rows PySem.W PySem.Calls
/-! ### never -/
def dNoE : TD := fun _ _ _ => False
theorem de_no [Amb] {X : Cx} {e : Expr} : DE X e dNoE := ⟨fun pins s σ H Q I q => by
  obtain ⟨hh, ρ, ω, R, sl, w, t, k⟩ := q
  exact t.elim⟩
/-! ### starred calls -/
section
variable {M : Model} {A : Around} {E : Value → Shared → Prop} {s : Shared}
end
section
variable [Ers] {X : Cx} {W : WX} {RX : DXS} {c m x : Str} {o e : Expr} {To Te : TD} {S : SpDX} {ps : List Str} {k : Nat} {apos pos sp' : Pos}
/-- o.m(*e) -/
def dMethStar (c m : Str) (S : SpDX) (RX : DXS) (To Te : TD) : TD := fun ρ ω Q => To ρ ω fun x ω1 => (∃ fds, FsOf c x ω1 fds ∧ fds.lookup m = none) ∧ Te ρ ω1 fun y ω2 => ∃ xs, y = .lst xs ∧ xs.length ≤ 1000 ∧ S (x :: xs) ω2 Q fun y fs ω3 => RX y fs ρ ω3
variable {ρ : Rho} {ω : Om} {Q : DQ}
theorem st_methStar (h : To ρ ω fun x ω1 => (∃ fds, FsOf c x ω1 fds ∧ fds.lookup m = none) ∧ Te ρ ω1 fun y ω2 => ∃ xs, y = .lst xs ∧ xs.length ≤ 1000 ∧ S (x :: xs) ω2 Q fun y fs ω3 => RX y fs ρ ω3) : dMethStar c m S RX To Te ρ ω Q := h
end
/-! ### try: a body that lets nothing out -/
section
variable {X : Cx} {body fin : List Stmt} {f₀ : Stmt} {h₀ : ExceptHandler} {hs : List ExceptHandler} {pos : Pos}
def tFinC (tb tf : TS) : TS := fun D σ H => tb { nx := fun σ1 H1 => tf D σ1 H1, rt := fun _ _ => False, bk := fun _ _ => False, ct := fun _ _ => False } σ H
end
section
variable [Ers] {X : Cx} {W : WX} {RX : DXS} {K : PySem.W.Frag} {body fin : List Stmt} {f₀ : Stmt} {h₀ : ExceptHandler} {hs : List ExceptHandler} {pos : Pos} {Tb Tf : TSD}
/-- try: body finally: suite, where nothing is let out -/
def dFinC (Tb Tf : TSD) : TSD := fun E ρ ω => Tb { nx := fun ρ1 ω1 => Tf E ρ1 ω1, rt := fun _ _ => False, bk := fun _ _ => False, ct := fun _ _ => False } ρ ω
end
section
variable {E : DEnds} {ρ : Rho} {ω : Om} {Tb Tf : TSD}
theorem st_finC (h : Tb { nx := fun ρ1 ω1 => Tf E ρ1 ω1, rt := fun _ _ => False, bk := fun _ _ => False, ct := fun _ _ => False } ρ ω) : dFinC Tb Tf E ρ ω := h
end
end DL

/-! YE: isinstance(x, (A, B)) of built-in types; a written dict's get; enumerate of a list. -/
namespace DL
open PySem PySem.Spec L2 PyProof.Rows PySem.W PySem.Calls
section
variable {K : PySem.W.Frag}
/-- isinstance(x, (A, B)) -/
def dIsiT : DOn := fun xs ω Q => ∃ x n m t, xs = [x, .tup [.raw (.ty n), .raw (.ty m)]] ∧ n ∈ ["bool", "int", "str", "list", "tuple", "dict"] ∧ m ∈ ["bool", "int", "str", "list", "tuple", "dict"] ∧ tyN x = some t ∧ Q (.bl (isN t n || isN t m)) ω
end
section
variable {X : Cx} {e : Expr} {x : Str} {apos cpos p : Pos} {Te : TD} {es : Array DictEntry} {n : Nat} {d : Addr}
/-- a dict of the text with texts as keys and numbers as values -/
def KGet (K : PySem.W.Frag) (w : World) (mg : Str → Option Value) (x : Str) (ps : List (Str × Int)) : Prop := ∃ d es n, mg x = some (.ref d) ∧ KDict K w d es n ∧ ∀ p ∈ ps, ∃ t, nsIn K d p.1 = some (some (.int p.2 t))
/-- D.get(e) where the key is there -/
def dKGet (ps : List (Str × Int)) (Te : TD) : TD := fun ρ ω Q => Te ρ ω fun y ω1 => ∃ z i, y = .str z ∧ (z, i) ∈ ps ∧ Q (.int i) ω1
end
/-! ### enumerate of a list -/
section
variable {K : PySem.W.Frag} {X : Cx} {h : Fp} {H : Hp} {ω : Om} {a : Expr} {p pos tpos : Pos} {T : TAD} {elts : List Expr} {kk : Nat}
def dEnumL (T : TAD) : TID := fun ρ ω Q => T ρ ω fun ds ω1 => ∃ xs, ds = [.lst xs] ∧ Q (enumD xs) (fun _ => True) ω1
variable {ρ : Rho} {QI : List D → (Om → Prop) → Om → Prop} {Q : DQ} {Te : TD}
theorem st_enumL (h : T ρ ω fun ds ω1 => ∃ xs, ds = [.lst xs] ∧ QI (enumD xs) (fun _ => True) ω1) : dEnumL T ρ ω QI := h
theorem st_enumL' {xs : List D} {Z : List D → Prop} (h : Z xs) : ∃ ys, [D.lst xs] = [.lst ys] ∧ Z ys := ⟨xs, rfl, h⟩
theorem st_kget {ps : List (Str × Int)} (h : Te ρ ω fun y ω1 => ∃ z i, y = .str z ∧ (z, i) ∈ ps ∧ Q (.int i) ω1) : dKGet ps Te ρ ω Q := h
end
end DL

/-! YF: rows of edits. -/
namespace DL
open PySem PySem.Spec L2 PyProof.Rows PySem.W
def towP (p : Int × List Int) : D := towD p.1 p.2
/-- an edit's name and values -/
def Ed.n : Ed → Str
  | .come _ => "come" | .leave _ => "leave" | .weigh _ _ => "weigh" | .loosen _ => "loosen"
def Ed.v : Ed → List D
  | .come w => [.int w] | .leave k => [.int k] | .weigh k w => [.int k, .int w] | .loosen x => [.int x]
def Ed.go (p : Int × List Int) (d : Ed) : Int × List Int := (d.e p.1, d.ws p.2)
/-- the tower behind some edits -/
def runE (p : Int × List Int) (us : List Ed) : Int × List Int := us.foldl Ed.go p
/-- the towers behind each of them -/
def rowE (p : Int × List Int) : List Ed → List (Int × List Int)
  | [] => []
  | d :: us => d.go p :: rowE (d.go p) us
def CanE (p : Int × List Int) : List Ed → Prop
  | [] => True
  | d :: us => d.can p.2 ∧ CanE (d.go p) us
/-- the present tower is the last one -/
theorem rowE_last : ∀ (p : Int × List Int) (us : List Ed), ∃ TS, p :: rowE p us = TS ++ [runE p us]
  | p, [] => ⟨[], rfl⟩
  | p, u :: us => by
    obtain ⟨TS, e⟩ := rowE_last (u.go p) us
    exact ⟨p :: TS, by show p :: (u.go p :: rowE (u.go p) us) = p :: TS ++ [_]; rw [e]; rfl⟩
end DL

/-! YG: one person more where nobody is stuck; numbers multiplied. -/
namespace DL
open PySem PySem.Spec L2
theorem lite_same {ws : List Int} {v w : Int} (h : ∀ u ∈ ws, u < v ↔ u < w) : lite ws v = lite ws w := by
  unfold lite
  congr 1
  exact List.filter_congr fun u hu => by simpa using h u hu
/-- where nobody is stuck, one who would be is heavier than all -/
theorem all_lighter {e w : Int} {ws : List Int} (f : Free e ws) (hw : e + lite ws w < w) : ∀ u ∈ ws, u < w := by
  have fl : ws.filter (fun u => decide (w ≤ u)) = [] := by
    have pm := srt_perm (ws.filter fun u => decide (w ≤ u))
    have so := srt_le (ws.filter fun u => decide (w ≤ u))
    cases hs : srt (ws.filter fun u => decide (w ≤ u)) with
    | nil => rw [hs] at pm; exact pm.symm.eq_nil
    | cons v r =>
      rw [hs] at pm so
      have hv := List.mem_filter.mp (pm.mem_iff.mp List.mem_cons_self)
      have wv : w ≤ v := of_decide_eq_true hv.2
      have mn : ∀ u ∈ ws, w ≤ u → v ≤ u := fun u hu c => by
        have : u ∈ v :: r := pm.mem_iff.mpr (List.mem_filter.mpr ⟨hu, decide_eq_true c⟩)
        rcases List.mem_cons.mp this with z | z
        · omega
        · exact (List.pairwise_cons.mp so).1 u z
      have e1 : lite ws v = lite ws w := lite_same fun u hu => by
        constructor
        · intro c
          by_cases d : w ≤ u
          · have := mn u hu d; omega
          · omega
        · intro c; omega
      have := f v hv.1
      omega
  intro u hu
  by_cases c : w ≤ u
  · have : u ∈ ws.filter (fun u => decide (w ≤ u)) := List.mem_filter.mpr ⟨hu, decide_eq_true c⟩
    rw [fl] at this
    cases this
  · omega
end DL

/-! YI: o.m(*xs) as the model has it: a bound method is made. -/
namespace DL
open PySem PySem.Spec L2 PyProof.Rows PySem.W PySem.Calls ClX
section
variable [Ers] {X : Cx} {W : WX} {RX : DXS} {c m x : Str} {o e : Expr} {To Te : TD} {S : SpDX} {ps : List Str} {k : Nat} {apos pos sp' : Pos}
/-- the form holds of names -/
example {X : Cx} {x y m : Str} {p1 p2 apos sp' pos : Pos} : eval (.Call (.Attribute (.Name x p1) m apos) [.Starred (.Name y p2) sp'] [] pos) X.env = (do
      let ov ← eval (.Name x p1) X.env
      standAt apos.atName
      let (f, first) ← holding [ov] (do pure (← getAttr ov m true, []))
      callWith pos f first [(true, do let v ← eval (.Name y p2) X.env; standAt pos; pure v)] []) := by rfl
end
section
variable [Ers] {X : Cx} {W : WX} {RX : DXS} {K : Frag} {body fin : List Stmt} {f₀ : Stmt} {h₀ : ExceptHandler} {hs : List ExceptHandler} {Tb Tf : TSD} {pos : Pos}
end
end DL

/-! YK: own instances under ==, != and in. -/
namespace DL
open PySem PySem.Spec L2 PyProof.Rows PySem.W
section
variable {prog : Program} {w : World} {A : Around} {E : Value → Shared → Prop} {s : Shared} {K : PySem.W.Frag} {x C L f : Addr} {h₀ : Heap} {m : Str → Option Value} {ox : Obj} {od : Option Obj} {b tb : Value}
end
variable [Ers]
/-- what != asks of a class that has __eq__ alone -/
structure NeF (K : PySem.W.Frag) (C : Addr) : Prop where
  ne : findIn K (.ref C) "__ne__" = some (some (.builtin "object.__ne__"))
  ob : subIn K (.ref C) (.type "object") = some true
section
variable {X : Cx} {c : Str} {S : SpDX} {ps : List Str} {k : Nat} {sp : Sp} {C f : Addr} {fd : FuncData}
def rEqM (sp : Sp) (C : Addr) (neg : Bool) : R2 := fun x y H Q => ∃ q dx fs q2 dx2 fs2, x = .ref q ∧ H q = some (.ins C dx fs) ∧ y = .ref q2 ∧ H q2 = some (.ins C dx2 fs2) ∧ sp [.ref q, .ref q2] H (fun v H' => ∃ b, v = .bl b ∧ Q (.bl (if neg then !b else b)) H') fun _ _ _ => False
theorem nf_self {K : PySem.W.Frag} {C : Addr} : notFirst K C (.ref C) = true := by simp [notFirst]
theorem op_eqM (hs : findIn X.K (.ref C) "__eq__" = some (some (.ref f))) (hfn : isFn X.K (.ref f) = true) (F : FnG X.prog X.w X.K X.mg X.base (L2.CX X.prog X.w) k f fd ps sp) (hr : Room k X.A) (gd : X.A.guards = some []) (hb : Binds X.K fd ps []) (hu : X.A.units < cLine) : OpR X (compareOp .Eq) (rEqM sp C false) := by
  rintro pins s σ H x y v u Q I rx ry ⟨q, dx, fs, q2, dx2, fs2, rfl, e2, rfl, e4, z⟩
  obtain rfl : v = Value.ref q := rx
  obtain rfl : u = Value.ref q2 := ry
  obtain ⟨mA, O, _⟩ := ins_get I.hok e2
  obtain ⟨od, J, _⟩ := O.look
  obtain ⟨mB, O2, _⟩ := ins_get I.hok e4
  obtain ⟨od2, J2, _⟩ := O2.look
  obtain ⟨m, hF⟩ := I.fr
  show wpAny _ _ (richCompare .Eq (.ref q) (.ref q2)) _ _ _
  refine cmp_K hu hF I.ok.mod.kin J J2.type nf_self hs hfn (wpAny_mono (runM (W := fun _ _ _ _ => False) (vs := [.ref q, .ref q2]) F hr gd I.env0 hb L2.takes0 I (.cons rfl (.cons rfl .nil)) z) (fun u' s' q => ?_) fun _ _ y => y)
  obtain ⟨v', H', I', r', b, e, q'⟩ := q
  subst e
  obtain rfl : u' = Value.bool b := r'
  exact ⟨.bl b, H', I', rfl, q'⟩
def rInM (sp : Sp) (C : Addr) (neg : Bool) : R2 := fun x y H Q => ∃ q dx fs, y = .ref q ∧ H q = some (.ins C dx fs) ∧ sp [.ref q, x] H (fun v H' => ∃ b, v = .bl b ∧ Q (.bl (if neg then !b else b)) H') fun _ _ _ => False
theorem op_inM (hs : findIn X.K (.ref C) "__contains__" = some (some (.ref f))) (hfn : isFn X.K (.ref f) = true) (F : FnG X.prog X.w X.K X.mg X.base (L2.CX X.prog X.w) k f fd ps sp) (hr : Room k X.A) (gd : X.A.guards = some []) (hb : Binds X.K fd ps []) : OpR X (compareOp .In) (rInM sp C false) := by
  rintro pins s σ H x y v u Q I rx ry ⟨q, dx, fs, rfl, e2, z⟩
  obtain rfl : u = Value.ref q := ry
  obtain ⟨mA, O, _⟩ := ins_get I.hok e2
  obtain ⟨od, J, _⟩ := O.look
  obtain ⟨m, hF⟩ := I.fr
  refine in_K hF I.ok.mod.kin J hs hfn (wpAny_mono (runM (W := fun _ _ _ _ => False) (vs := [.ref q, x]) F hr gd I.env0 hb L2.takes0 I (.cons rfl (.cons rx .nil)) z) (fun u' s' q => ?_) fun _ _ y => y)
  obtain ⟨v', H', I', r', b, e, q'⟩ := q
  subst e
  obtain rfl : u' = Value.bool b := r'
  exact wpAny_truthy_bool ⟨.bl b, H', I', rfl, q'⟩
theorem op_notInM (hs : findIn X.K (.ref C) "__contains__" = some (some (.ref f))) (hfn : isFn X.K (.ref f) = true) (F : FnG X.prog X.w X.K X.mg X.base (L2.CX X.prog X.w) k f fd ps sp) (hr : Room k X.A) (gd : X.A.guards = some []) (hb : Binds X.K fd ps []) : OpR X (compareOp .NotIn) (rInM sp C true) := by
  rintro pins s σ H x y v u Q I rx ry ⟨q, dx, fs, rfl, e2, z⟩
  obtain rfl : u = Value.ref q := ry
  obtain ⟨mA, O, _⟩ := ins_get I.hok e2
  obtain ⟨od, J, _⟩ := O.look
  obtain ⟨m, hF⟩ := I.fr
  refine notIn_K hF I.ok.mod.kin J hs hfn (wpAny_mono (runM (W := fun _ _ _ _ => False) (vs := [.ref q, x]) F hr gd I.env0 hb L2.takes0 I (.cons rfl (.cons rx .nil)) z) (fun u' s' q => ?_) fun _ _ y => y)
  obtain ⟨v', H', I', r', b, e, q'⟩ := q
  subst e
  obtain rfl : u' = Value.bool b := r'
  exact wpAny_truthy_bool ⟨.bl (!b), H', I', rfl, q'⟩
def dEqM (neg : Bool) (c : Str) (S : SpDX) : DO2 := fun x y ω R => ∃ fds gds, FsOf c x ω fds ∧ FsOf c y ω gds ∧ S [x, y] ω (fun d ω' => ∃ b, d = .bl b ∧ R (.bl (if neg then !b else b)) ω') fun _ _ _ => False
theorem ok_eqM [Amb] {K : PySem.W.Frag} {neg : Bool} : OpD K (dEqM neg c S) (rEqM (spUX K S) (Ers.ad c) neg) := by
  rintro h x y ω R vx vy H Q ⟨fds, gds, e1, e2, t⟩ w rx ry k
  obtain ⟨q, dx, fvs, rfl, hq, _⟩ := e1.at_ w rx
  obtain ⟨q2, dx2, gvs, rfl, hq2, _⟩ := e2.at_ w ry
  refine ⟨q, dx, fvs, q2, dx2, gvs, rfl, hq, rfl, hq2, spM0 w (.cons rx (.cons ry .nil)) t fun d ω' v H' ⟨b, e, r⟩ f' w' rp => ?_⟩
  subst e
  cases rp
  exact ⟨b, rfl, k _ _ _ _ r f' w' (.bl _)⟩
def dInM (neg : Bool) (c : Str) (S : SpDX) : DO2 := fun x y ω R => ∃ fds, FsOf c y ω fds ∧ S [y, x] ω (fun d ω' => ∃ b, d = .bl b ∧ R (.bl (if neg then !b else b)) ω') fun _ _ _ => False
theorem ok_inM [Amb] {K : PySem.W.Frag} {neg : Bool} : OpD K (dInM neg c S) (rInM (spUX K S) (Ers.ad c) neg) := by
  rintro h x y ω R vx vy H Q ⟨fds, e1, t⟩ w rx ry k
  obtain ⟨q, dx, fvs, rfl, hq, _⟩ := e1.at_ w ry
  refine ⟨q, dx, fvs, rfl, hq, spM0 w (.cons ry (.cons rx .nil)) t fun d ω' v H' ⟨b, e, r⟩ f' w' rp => ?_⟩
  subst e
  cases rp
  exact ⟨b, rfl, k _ _ _ _ r f' w' (.bl _)⟩
theorem op_eqMC [Amb] (C : CalM X.prog X.w X.K X.mg X.base k c "__eq__" ps S) (hr : Room k X.A) (gd : X.A.guards = some []) (hu : X.A.units + 64 < cLine) : OpR X (compareOp .Eq) (rEqM (spUX X.K S) (Ers.ad c) false) := by
  obtain ⟨f, fd, F, hi, hf, _, _, hb⟩ := C
  exact op_eqM hi hf F hr gd hb (by omega)
theorem op_inMC [Amb] (C : CalM X.prog X.w X.K X.mg X.base k c "__contains__" ps S) (hr : Room k X.A) (gd : X.A.guards = some []) : OpR X (compareOp .In) (rInM (spUX X.K S) (Ers.ad c) false) := by
  obtain ⟨f, fd, F, hi, hf, _, _, hb⟩ := C
  exact op_inM hi hf F hr gd hb
theorem op_notInMC [Amb] (C : CalM X.prog X.w X.K X.mg X.base k c "__contains__" ps S) (hr : Room k X.A) (gd : X.A.guards = some []) : OpR X (compareOp .NotIn) (rInM (spUX X.K S) (Ers.ad c) true) := by
  obtain ⟨f, fd, F, hi, hf, _, _, hb⟩ := C
  exact op_notInM hi hf F hr gd hb
end
section
variable {c : Str} {S : SpDX} {x y : D} {ω : Om} {Q : DQ} {neg : Bool} {fds gds : List (Str × D)}
theorem st_eqM (a : FsOf c x ω fds) (b : FsOf c y ω gds) (h : S [x, y] ω (fun d ω' => ∃ b, d = .bl b ∧ Q (.bl (if neg then !b else b)) ω') fun _ _ _ => False) : dEqM neg c S x y ω Q := ⟨fds, gds, a, b, h⟩
theorem st_inM (a : FsOf c y ω fds) (h : S [y, x] ω (fun d ω' => ∃ b, d = .bl b ∧ Q (.bl (if neg then !b else b)) ω') fun _ _ _ => False) : dInM neg c S x y ω Q := ⟨fds, a, h⟩
end
end DL

/-! YM: try .. except C, without a name. -/
namespace DL
open PySem PySem.Spec L2 PyProof.Rows PySem.W
variable [Ers]
/-- the errors of a try's body, the clause without a name -/
def dCatchO (prs : List (Str × Str)) (c : Str) (Ts : Str → Addr → Option Addr → TSD) (RXo : DXS) (E : DEnds) : DXS := fun x fs ρ ω => (x, c) ∈ prs ∧
  (subB x c = true → ∀ a d ω2, XPut ω fs d ω2 → Ts x a d E ρ ω2) ∧ (subB x c = false → RXo x fs ρ ω)
def dTryO (prs : List (Str × Str)) (c : Str) (Tb : DXS → TSD) (Ts : Str → Addr → Option Addr → TSD) (RXo : DXS) : TSD := fun E ρ ω => Tb (dCatchO prs c Ts RXo E) E ρ ω
section
variable {K : PySem.W.Frag} {h : Fp} {H H' H2 : Hp} {ω ω' : Om} {prs : List (Str × Str)} {fls : List Str} {c : Str} {Ts : Str → Addr → Option Addr → TSD} {RXo : DXS} {Wout : WX}
end
section
variable {X : Cx} {Wout : WX} {RXo : DXS} {x c : Str} {body suite : List Stmt} {b₀ : Stmt} {np pos pos' : Pos} {prs : List (Str × Str)} {fls : List Str} {Tb : DXS → TSD} {Ts : Str → Addr → Option Addr → TSD}
end
section
variable {prs : List (Str × Str)} {c x : Str} {Ts : Str → Addr → Option Addr → TSD} {Tb : DXS → TSD} {RXo : DXS} {E : DEnds} {ρ : Rho} {ω : Om} {l : List (Str × D)}
theorem st_tryO (h : Tb (dCatchO prs c Ts RXo E) E ρ ω) : dTryO prs c Tb Ts RXo E ρ ω := h
end
end DL

/-! YJ: tuples whose object is known (no dict): made by tuple(list), count, len, *t, list(t); xs.remove(i), xs owned. -/
namespace DL
open PySem PySem.Spec L2 PyProof.Rows PySem.W
section
variable {X : Cx} {a e o : Expr} {es : List Expr} {pos : Pos} {Ta Te : TD} {K : PySem.W.Frag} {f : Fp} {H : Hp} {ω : Om} {h : Fp}
/-- a method of a tuple whose object is known -/
def tBMn (r : V → List V → Hp → VK → Prop) (to : TE) (t : TA) : TE := fun σ H Q => to σ H fun x H1 => (∃ (p : Addr) (ob : Obj) (vs : List V), x = .ref p ∧ H1 p = some (.frz ob (.tup vs)) ∧ ob.dict = none) ∧ t σ H1 fun xs H2 => r x xs H2 Q
theorem pe_bmN {to : TE} {t : TA} {name : Str} {apos cpos : Pos} {id : String} {r : V → List V → Hp → VK → Prop} (pa : PlainAttrs "tuple") (slot : Slot "tuple" name id) (hty : typeOf (.builtin id) = pure (.type "method_descriptor")) (hm : MtR X id r) (ho : PE X o to) (ha : PA X (e :: es) t)
    (hbase : attributeBase o name X.env (eval o X.env) = eval o X.env := by rfl)
    (hfew : ((backTo cpos (starEach (e :: es) X.env)).all (fun x => !x.1) && (backToKw cpos (keywordEach [] X.env)).all (fun x => x.1.isSome)
      && decide ((e :: es).length + ([] : List Keyword).length + (if ([] : List Keyword).isEmpty then 0 else 1) < 30)) = true := by rfl)
    (hline : (apos.endLine == cpos.line) = true := by rfl) (hs : starEach (e :: es) X.env = (false, eval e X.env) :: starEach es X.env := by rfl) (hplain : (backTo cpos (starEach es X.env)).any (·.1) = false := by rfl) :
    PE X (.Call (.Attribute o name apos) (e :: es) [] cpos) (tBMn r to t) := by
  refine ⟨fun pins s σ H Q I h => ?_⟩
  refine wpAny_Call_method_late hbase hfew hline rfl (thn (ho.run pins s σ H _ I h) fun v s1 ⟨x, H1, I1, r1, ty, q1⟩ => ?_)
  obtain ⟨p, ob, vs, rfl, hk, hd⟩ := ty
  cases r1
  obtain ⟨eo, _, its, _, ob2, e2, c2, _⟩ := I1.hok p _ hk
  have eb : ob = ob2 := by rw [eo] at e2; exact Option.some.inj e2
  subst eb
  refine ⟨"tuple", id, pa, slot, hty, ⟨ob, eo, c2⟩, fun a e => ?_, ?_⟩
  · cases e
    exact ⟨ob, eo, hd⟩
  have hA := ha.run cpos pins s1 σ H1 _ I1 q1
  rw [hs] at hA ⊢
  refine Calls.callWith_builtin (by show (false || (backTo cpos (starEach es X.env)).any (·.1)) = false; rw [hplain] <;> rfl) (Calls.evalArgs_plain ?_)
  exact thn hA fun us s2 ⟨vs', H2, I2, r2, q2⟩ => hm pins s2 σ H2 (.ref p) vs' (.ref p) us Q I2 rfl r2 q2
/-- t.count(e), t a tuple of numbers whose object is known -/
def dCntN (Ta Te : TD) : TD := fun ρ ω Q => Ta ρ ω fun x ω1 => ∃ ns : List Int, x = .tpn (ns.map D.int) ∧ Te ρ ω1 fun y ω2 => ∃ i, y = .int i ∧ Q (.int (ns.count i : Nat)) ω2
theorem de_cntN [Amb] {apos cpos : Pos} (ha : DE X a Ta) (he : DE X e Te)
    (hb : attributeBase a "count" X.env (eval a X.env) = eval a X.env := by rfl)
    (hf : ((backTo cpos (starEach [e] X.env)).all (fun x => !x.1) && (backToKw cpos (keywordEach [] X.env)).all (fun x => x.1.isSome) && decide ([e].length + ([] : List Keyword).length + (if ([] : List Keyword).isEmpty then 0 else 1) < 30)) = true := by rfl)
    (hl : (apos.endLine == cpos.line) = true := by rfl) (hs : starEach [e] X.env = (false, eval e X.env) :: starEach [] X.env := by rfl) (hp : (backTo cpos (starEach [] X.env)).any (·.1) = false := by rfl) :
    DE X (.Call (.Attribute a "count" apos) [e] [] cpos) (dCntN Ta Te) := by
  refine PE.weak (pe_bmN PySem.F.plainAttrs_tuple PySem.F.slot_tuple_count PySem.F.type_tuple_count mt_cntT ha (pa_cons he pa_nil hs) hb hf hl hs hp) fun σ H Q ⟨h, ρ, ω, R, sl, w, t, k⟩ => ?_
  refine ⟨h, ρ, ω, _, sl, w, t, fun x ω1 v H1 t1 f1 w1 r1 => ?_⟩
  obtain ⟨ns, rfl, t1⟩ := t1
  cases r1 with
  | tpn sN ra =>
    obtain rfl := ra.ints
    obtain ⟨fa, ob, hd, hc, hH⟩ := id sN
    refine ⟨⟨_, ob, _, rfl, hH, hd⟩, ?_⟩
    refine ⟨h, ρ, ω1, _, sl.keep f1.kp, w1, t1, fun y ω2 u H2 t2 f2 w2 r2 => ?_⟩
    obtain ⟨i, rfl, q⟩ := t2
    cases r2
    refine ⟨_, _, _, rfl, rfl, (sN.keep f2.kp).sq, rfl, flatV_ints ns, ?_⟩
    rw [cnt_ints]
    exact k _ _ _ _ q (f1.trans f2) w2 (.int _)
/-- tuple(xs), xs a list: the tuple's object is known -/
def dTupN : DOn := fun xs ω Q => ∃ x ys, xs = [x] ∧ lstOf ω x = some ys ∧ Q (.tpn ys) ω
theorem call_tupN : CallR X (.type "tuple") (fun xs H Q => ∃ p ys, xs = [.ref p] ∧ SqL X.K H p ys ∧ ∀ (l : Addr) (ob : Obj), H l = none → ob.dict = none → ob.cls = .type "tuple" → Q (.ref l) (upd H l (.frz ob (.tup ys)))) := by
  intro pins s σ H xs us Q I r h
  obtain ⟨p, ys, rfl, hq, q⟩ := h
  obtain ⟨u, rfl, rx⟩ := vals1 r
  cases rx
  obtain ⟨its, r', pl, hz⟩ := I.list hq
  have hlen := r'.length
  refine call_tuple_list pl.isList (fun h' kp => ?_) (by simp only [List.size_toArray] <;> omega)
  have I1 : Inv X pins σ H { s with heap := h' } := I.kept (t' := s.toks) kp
  have I2 : Inv X pins σ (upd H h'.objs.size (.frz { cls := .type "tuple", data := .seq its.toArray } (.tup ys))) { s with heap := h'.push { cls := .type "tuple", data := .seq its.toArray } } :=
    I1.laid (t' := s.toks) (fun b o e => Heap.get?_push_of_some _ e) (Nat.le_refl _) (show ObjOk X.prog X.w _ _ _ (.frz _ (.tup ys)) from ⟨Heap.get?_push_size _ rfl, hz, its, r', IsTup.new _ _⟩)
  exact ⟨.ref h'.objs.size, _, I2, rfl, q _ _ (I1.hok.fresh (Nat.le_refl _)) rfl rfl⟩
theorem ok_tupN [Amb] : CallD K dTupN (fun xs H Q => ∃ p ys, xs = [.ref p] ∧ SqL K H p ys ∧ ∀ (l : Addr) (ob : Obj), H l = none → ob.dict = none → ob.cls = .type "tuple" → Q (.ref l) (upd H l (.frz ob (.tup ys)))) := by
  intro h xs ω R vs H Q ⟨x, ys, e, t, q⟩ w r k
  subst e
  obtain ⟨v, rfl, rv⟩ := r.one
  obtain ⟨a, vs, rfl, sx, ra⟩ := lstOf_sq w t rv
  exact ⟨_, _, rfl, sx, fun l ob e hd hc => k _ ω _ _ q (Fr.new e) (w.new e) (.tpn ⟨w.fre_new e, ob, hd, hc, upd_same⟩ (ra.keep (Fr.new e).kp))⟩
/-- len(t) -/
def dLenN : DOn := fun xs ω Q => ∃ ys, xs = [.tpn ys] ∧ Q (.int ys.length) ω
theorem ok_lenN [Amb] : CallD K dLenN (fun xs H Q => ∃ x n, xs = [x] ∧ LenV K x H n ∧ Q (.int n) H) := by
  intro h xs ω R vs H Q ⟨ys, e, q⟩ w r k
  subst e
  obtain ⟨v, rfl, rv⟩ := r.one
  cases rv with
  | tpn s ra => exact ⟨_, _, rfl, .inr ⟨_, s.sq, by rw [← ra.len]⟩, k.self w q (.int _)⟩
/-- list(t), owned -/
def dLstN : DOn := fun xs ω Q => ∃ ys, xs = [.tpn ys] ∧ ∀ p, ω p = none → Q (.raw (.ref p)) (oset ω p (.lst ys))
theorem ok_lstN [Amb] : CallD K dLstN (fun xs H Q => ∃ p ys, xs = [.ref p] ∧ (SqL K H p ys ∨ SqT K H p ys) ∧ ∀ l, H l = none → Q (.ref l) (upd H l (.lst ys))) := by
  intro h xs ω R vs H Q ⟨ys, e, q⟩ w r k
  subst e
  obtain ⟨v, rfl, rv⟩ := r.one
  cases rv with
  | tpn s ra => exact ⟨_, _, rfl, .inr s.sq, fun p e => k _ _ _ _ (q p (w.fresh e)) (Fr.own e) (w.own e fun H' f' kp hp => ⟨_, hp, ra.keep kp⟩) (.raw _)⟩
/-- *t in a display -/
def dStarN (Ta : TD) (T : TAD) : TAD := fun ρ ω Q => Ta ρ ω fun x ω1 => ∃ xs, x = .tpn xs ∧ T ρ ω1 fun ys ω2 => Q (xs ++ ys) ω2
theorem da_starN [Amb] {T : TAD} {p : Pos} (ha : DE X e Ta) (hr : DA X es T) (he : starEach (.Starred e p :: es) X.env = (true, eval e X.env) :: starEach es X.env := by rfl) : DA X (.Starred e p :: es) (dStarN Ta T) := by
  refine PA.weak (StX.pa_star ha hr he) fun σ H Q ⟨h, ρ, ω, R, sl, w, t, k⟩ => ?_
  refine ⟨h, ρ, ω, _, sl, w, t, fun x ω1 vx H1 t1 f1 w1 rx => ?_⟩
  obtain ⟨xs, rfl, t2⟩ := t1
  cases rx with
  | tpn s ra =>
    exact ⟨_, _, rfl, .inl s.sq, h, ρ, ω1, _, sl.keep f1.kp, w1, t2, fun ys ω2 us H2 t3 f2 w2 rs => k _ ω2 _ _ t3 (f1.trans f2) w2 (rpAll_app (ra.keep f2.kp) rs)⟩
/-- xs.remove(i), xs owned, of numbers, i in it -/
def dRemO (Ta Te : TD) : TD := fun ρ ω Q => Ta ρ ω fun x ω1 => ∃ p, x = .raw (.ref p) ∧ (∃ xs, ω1 p = some (.lst xs)) ∧ Te ρ ω1 fun y ω2 => ∃ (ns : List Int) (i : Int), y = .int i ∧ ω2 p = some (.lst (ns.map D.int)) ∧ i ∈ ns ∧ Q .non (oset ω2 p (.lst ((ns.erase i).map D.int)))
theorem at_first {i : Int} : ∀ {ns : List Int}, i ∈ ns → ∃ j, ns[j]? = some i ∧ (∀ m : Nat, m < j → ns[m]? ≠ some i) ∧ ns.eraseIdx j = ns.erase i
  | [], h => nomatch h
  | x :: ns, h => by
    by_cases e : x = i
    · subst e
      exact ⟨0, rfl, fun m hm => absurd hm (Nat.not_lt_zero _), by simp⟩
    · obtain ⟨j, h1, h2, h3⟩ := at_first (i := i) (ns := ns) (by rcases List.mem_cons.mp h with z | z; exact absurd z.symm e; exact z)
      refine ⟨j + 1, by simpa using h1, fun m hm => ?_, by rw [List.eraseIdx_cons_succ, h3, List.erase_cons_tail (by simpa using e)]⟩
      cases m with
      | zero => simpa using e
      | succ m => simpa using h2 m (by omega)
theorem de_remO [Amb] {apos cpos : Pos} (ha : DE X a Ta) (he : DE X e Te)
    (hb : attributeBase a "remove" X.env (eval a X.env) = eval a X.env := by rfl)
    (hf : ((backTo cpos (starEach [e] X.env)).all (fun x => !x.1) && (backToKw cpos (keywordEach [] X.env)).all (fun x => x.1.isSome) && decide ([e].length + ([] : List Keyword).length + (if ([] : List Keyword).isEmpty then 0 else 1) < 30)) = true := by rfl)
    (hl : (apos.endLine == cpos.line) = true := by rfl) (hs : starEach [e] X.env = (false, eval e X.env) :: starEach [] X.env := by rfl) (hp : (backTo cpos (starEach [] X.env)).any (·.1) = false := by rfl) :
    DE X (.Call (.Attribute a "remove" apos) [e] [] cpos) (dRemO Ta Te) := by
  refine PE.weak (pe_bm PySem.F.plainAttrs_list PySem.F.slot_list_remove PySem.F.type_list_remove mt_remove ha (pa_cons he pa_nil hs) hb hf hl hs hp) fun σ H Q ⟨h, ρ, ω, R, sl, w, t, k⟩ => ?_
  refine ⟨h, ρ, ω, _, sl, w, t, fun x ω1 v H1 t1 f1 w1 r1 => ?_⟩
  obtain ⟨p, rfl, ⟨xs, hx⟩, t1⟩ := t1
  cases r1
  obtain ⟨vs, hv, _⟩ := w1.cell p _ hx
  refine ⟨.inl ⟨rfl, vs, .inl (.inl hv)⟩, ?_⟩
  refine ⟨h, ρ, ω1, _, sl.keep f1.kp, w1, t1, fun y ω2 u H2 t2 f2 w2 r2 => ?_⟩
  obtain ⟨ns, i, rfl, hy, hi, q⟩ := t2
  cases r2
  obtain ⟨us, hu, ra⟩ := w2.cell p _ hy
  obtain rfl := ra.ints
  obtain ⟨j, h1, h2, h3⟩ := at_first hi
  refine ⟨p, ns, i, j, rfl, rfl, hu, h1, h2, ?_⟩
  rw [h3]
  exact (k.go (f1.trans f2)) _ _ _ _ q (Fr.put hy) (w2.put hy fun H' f' kp hp => ⟨_, hp, RpAll.ofInts _⟩) .non
/-- i in xs, xs a list of numbers, owned or not -/
def dInO (neg : Bool) : DO2 := fun x y ω Q => ∃ (i : Int) (ns : List Int), x = .int i ∧ lstOf ω y = some (ns.map D.int) ∧ Q (.bl (if neg then !decide (i ∈ ns) else decide (i ∈ ns))) ω
/-- a fresh sorted list that is owned -/
def dSortedO : DOn := fun xs ω Q => ∃ (x : D) (ns : List Int), xs = [x] ∧ (lstOf ω x = some (ns.map D.int) ∨ x = .tup (ns.map D.int)) ∧ ∀ ns' : List Int, ns'.Perm ns → ns'.Pairwise (· ≤ ·) → ∀ p, ω p = none → Q (.raw (.ref p)) (oset ω p (.lst (ns'.map D.int)))
end
section
variable {ρ : Rho} {ω : Om} {Q : DQ} {Ta Te : TD} {T : TAD} {QL : List D → Om → Prop} {xs ys : List D} {ns : List Int}
theorem st_cntN (h : Ta ρ ω fun x ω1 => ∃ ns : List Int, x = .tpn (ns.map D.int) ∧ Te ρ ω1 fun y ω2 => ∃ i, y = .int i ∧ Q (.int (ns.count i : Nat)) ω2) : dCntN Ta Te ρ ω Q := h
theorem st_tupN (h : Q (.tpn ys) ω) : dTupN [.lst ys] ω Q := ⟨_, ys, rfl, rfl, h⟩
theorem st_lenN (h : Q (.int ys.length) ω) : dLenN [.tpn ys] ω Q := ⟨ys, rfl, h⟩
theorem st_lstN (h : ∀ p, ω p = none → Q (.raw (.ref p)) (oset ω p (.lst ys))) : dLstN [.tpn ys] ω Q := ⟨ys, rfl, h⟩
theorem st_starN (h : Ta ρ ω fun x ω1 => ∃ xs, x = .tpn xs ∧ T ρ ω1 fun ys ω2 => QL (xs ++ ys) ω2) : dStarN Ta T ρ ω QL := h
theorem st_starN' {Z : List D → Prop} (h : Z xs) : ∃ ys, D.tpn xs = .tpn ys ∧ Z ys := ⟨xs, rfl, h⟩
theorem st_cntN' {Z : List Int → Prop} (h : Z ns) : ∃ ms : List Int, D.tpn (ns.map D.int) = .tpn (ms.map D.int) ∧ Z ms := ⟨ns, rfl, h⟩
theorem st_itemsN {p : Prop} {Z : List D → Prop} (h : Z xs) : (∃ ys, seqD (.tpn xs) = some ys ∧ Z ys) ∨ p := .inl ⟨xs, rfl, h⟩
theorem st_remO (h : Ta ρ ω fun x ω1 => ∃ p, x = .raw (.ref p) ∧ (∃ xs, ω1 p = some (.lst xs)) ∧ Te ρ ω1 fun y ω2 => ∃ (ns : List Int) (i : Int), y = .int i ∧ ω2 p = some (.lst (ns.map D.int)) ∧ i ∈ ns ∧ Q .non (oset ω2 p (.lst ((ns.erase i).map D.int)))) : dRemO Ta Te ρ ω Q := h
end
section
variable [Ers]
/-- a load's fields, its weights a tuple whose object is known -/
def loadFN (ws : List Int) : List (Str × D) := [("_weights", .tpn ((srt ws).map D.int)), ("_total", .int ws.sum)]
def loadN (ws : List Int) : D := .obj (Ers.ad "Load") (loadFN ws)
theorem srt_congr {ws vs : List Int} (h : ws.Perm vs) : srt ws = srt vs := srt_eq ((srt_perm ws).trans h) (srt_le ws)
theorem loadFN_perm {ws vs : List Int} (h : ws.Perm vs) : loadFN ws = loadFN vs := by
  unfold loadFN
  rw [srt_congr h, sum_perm h]
theorem loadN_perm {ws vs : List Int} (h : ws.Perm vs) : loadN ws = loadN vs := by
  unfold loadN
  rw [loadFN_perm h]
end
/-- the first of ys that ys has more often than xs -/
def missW (xs ys : List Int) : Option Int := ys.find? fun y => decide (xs.count y < ys.count y)
def optI : Option Int → D
  | none => .non
  | some w => .int w
/-- xs without those of ys -/
def minusW (xs ys : List Int) : List Int := ys.foldl List.erase xs
theorem minusW_app (xs ys : List Int) (y : Int) : minusW xs (ys ++ [y]) = (minusW xs ys).erase y := by
  unfold minusW
  rw [List.foldl_append]
  rfl
theorem count_minusW (a : Int) : ∀ (ys xs : List Int), (minusW xs ys).count a = xs.count a - ys.count a
  | [], xs => by simp [minusW]
  | y :: ys, xs => by
    show (minusW (xs.erase y) ys).count a = _
    rw [count_minusW a ys, List.count_erase, List.count_cons]
    omega
theorem minusW_sub : ∀ (ys xs : List Int), (minusW xs ys).Sublist xs
  | [], xs => List.Sublist.refl _
  | y :: ys, xs => by
    show (minusW (xs.erase y) ys).Sublist xs
    exact (minusW_sub ys _).trans List.erase_sublist
theorem missW_none {xs ys : List Int} : missW xs ys = none ↔ ∀ y, ys.count y ≤ xs.count y := by
  unfold missW
  rw [List.find?_eq_none]
  constructor
  · intro h y
    by_cases hy : y ∈ ys
    · have := h y hy
      simp only [decide_eq_true_eq] at this
      omega
    · rw [List.count_eq_zero_of_not_mem hy]
      omega
  · intro h y _
    simp only [decide_eq_true_eq]
    have := h y
    omega
/-- in a sorted list all of a smaller value stand before -/
theorem count_take_lt : ∀ {ys : List Int} {i : Nat} {y z : Int}, ys.Pairwise (· ≤ ·) → ys[i]? = some y → z < y → (ys.take i).count z = ys.count z
  | [], i, y, z, _, h, _ => by simp at h
  | x :: ys, 0, y, z, s, h, l => by
    have e : x = y := by simpa using h
    subst e
    rw [List.take_zero, List.count_nil]
    refine (List.count_eq_zero_of_not_mem fun hm => ?_).symm
    rcases List.mem_cons.mp hm with e | e
    · omega
    · have := List.rel_of_pairwise_cons s e
      omega
  | x :: ys, i + 1, y, z, s, h, l => by
    rw [List.take_succ_cons, List.count_cons, List.count_cons, count_take_lt s.of_cons (by simpa using h) l]
/-- the first that is not there when one takes away in order -/
theorem missW_at {xs ys : List Int} {i : Nat} {y : Int} (s : ys.Pairwise (· ≤ ·)) (hy : ys[i]? = some y) (before : ∀ z, (ys.take i).count z ≤ xs.count z) (gone : xs.count y ≤ (ys.take i).count y) : missW xs ys = some y := by
  have li : i < ys.length := (List.getElem?_eq_some_iff.mp hy).1
  have bad : xs.count y < ys.count y := by
    have e : ys.count y = (ys.take i).count y + (ys.drop i).count y := by rw [← List.count_append, List.take_append_drop]
    have e2 : 0 < (ys.drop i).count y := List.count_pos_iff.mpr (by
      rw [List.drop_eq_getElem_cons li]
      rw [List.getElem?_eq_getElem li] at hy
      rw [Option.some.inj hy]
      exact List.mem_cons_self)
    omega
  cases hw : missW xs ys with
  | none => exact absurd (missW_none.mp hw y) (by omega)
  | some w =>
    unfold missW at hw
    obtain ⟨hb, as, bs, e, hn⟩ := List.find?_eq_some_iff_append.mp hw
    simp only [decide_eq_true_eq] at hb
    congr 1
    rcases Int.lt_trichotomy w y with l | l | l
    · have := count_take_lt s hy l
      have := before w
      omega
    · exact l
    · exfalso
      -- y stands before w, and is bad
      have lw : as.length ≤ i := by
        refine Nat.le_of_not_lt fun h => ?_
        have : y ∈ as := by
          rw [e, List.getElem?_append_left h] at hy
          exact List.mem_of_getElem? hy
        have := hn y this
        simp only [Bool.not_eq_true', decide_eq_false_iff_not] at this
        exact this bad
      have z : y ∈ w :: bs := by
        rw [e, List.getElem?_append_right lw] at hy
        exact List.mem_of_getElem? hy
      rcases List.mem_cons.mp z with z | z
      · omega
      · rw [e] at s
        have := List.rel_of_pairwise_cons (List.pairwise_append.mp s).2.1 z
        omega
mutual
/-- nothing raw in it, and no tuple whose object is known -/
def D.okV : D → Bool
  | .raw _ => false
  | .obj _ _ => false
  | .tpn _ => false
  | .lst xs => okVAll xs
  | .tup xs => okVAll xs
  | .dic kvs => okKv kvs
  | _ => true
def okVAll : List D → Bool
  | [] => true
  | x :: xs => x.okV && okVAll xs
end
theorem okVc {x : D} {xs : List D} (e : okVAll (x :: xs) = true) : x.okV = true ∧ okVAll xs = true := by simpa [okVAll] using e
mutual
theorem okV_ok : ∀ (d : D), d.okV = true → d.ok = true
  | .raw _, e => by simp [D.okV] at e
  | .obj _ _, e => by simp [D.okV] at e
  | .tpn _, e => by simp [D.okV] at e
  | .lst xs, e => by simp only [D.ok]; exact okV_all xs (by simpa [D.okV] using e)
  | .tup xs, e => by simp only [D.ok]; exact okV_all xs (by simpa [D.okV] using e)
  | .dic kvs, e => by simpa [D.ok, D.okV] using e
  | .non, _ => rfl
  | .bl _, _ => rfl
  | .int _, _ => rfl
  | .str _, _ => rfl
theorem okV_all : ∀ (xs : List D), okVAll xs = true → okAll xs = true
  | [], _ => rfl
  | x :: xs, e => by
    obtain ⟨h1, h2⟩ := okVc e
    simp only [okAll, Bool.and_eq_true]
    exact ⟨okV_ok x h1, okV_all xs h2⟩
end
theorem okV_ints : ∀ ns : List Int, okVAll (ns.map D.int) = true
  | [] => rfl
  | n :: ns => by rw [List.map_cons, okVAll, okV_ints ns]; rfl
end DL

/-! YL: f"{n:>8,}". -/
namespace DL
open PySem PySem.Spec L2 PyProof.Rows PySem.W PySem.Builtin PySem.Builtin.Float
def fG8 : FormatSpec := { align := 62, width := some 8, grouping := some ',' }
/-- the digits in threes, in eight columns -/
def g8 (a : Int) : Str := PyProof.Rows.intField' fG8 false [] ((Nat.toDigits 10 a.natAbs).map Char.toNat) [] 3
/-- digits in threes, from the right -/
def grp8 (ds : List Nat) : List Nat := if ds.length ≤ 3 then ds else if ds.length ≤ 6 then ds.take (ds.length - 3) ++ 44 :: ds.drop (ds.length - 3) else ds.take (ds.length - 6) ++ 44 :: ((ds.drop (ds.length - 6)).take 3 ++ 44 :: ds.drop (ds.length - 3))
section
variable {X : Cx} {a : Expr} {Ta : TD}
/-- f"{a:>8,}" -/
def dFmtG (Ta : TD) : TD := fun ρ ω Q => Ta ρ ω fun x ω1 => ∃ i : Int, x = .int i ∧ 0 ≤ i ∧ i ≤ 1000000 ∧ Q (.str (g8 i)) ω1
variable {ρ : Rho} {ω : Om} {Q : DQ}
theorem st_fmtG (h : Ta ρ ω fun x ω1 => ∃ i : Int, x = .int i ∧ 0 ≤ i ∧ i ≤ 1000000 ∧ Q (.str (g8 i)) ω1) : dFmtG Ta ρ ω Q := h
end
/-- whether ys is in xs -/
def inB (xs ys : List Int) : Bool := (missW (srt xs) (srt ys)).isNone
/-- a load's text -/
def loadT (ws : List Int) : Str := Str.join "" ((srt ws).map g8)
end DL

/-! YN: own instances compared with values of built-in types, from either side. -/
namespace DL
open PySem PySem.Spec L2 PyProof.Rows PySem.W
section
variable {prog : Program} {w : World} {A : Around} {E : Value → Shared → Prop} {s : Shared} {K : PySem.W.Frag} {x C L f : Addr} {h₀ : Heap} {m : Str → Option Value} {ox : Obj} {od : Option Obj} {v : Value}
theorem dec_list (X : K.In s.heap) (I : InstAt s.heap x ox C od) (hs : subIn K (.ref C) (.type "list") = some false) (hT : s.TypeIs v "list") : wpAny (model prog w) A (call (.builtin "list.__eq__") [v, .ref x]) (fun r s' => r = .notImplemented ∧ s' = s) E s := by
  have sub : Looks (model prog w) s.heap (isInstance (.ref x) (.type "list")) false := I.type.andThen (looks_subIn X hs)
  refine wpAny_call (codeAny_call_builtin PySem.F.slot_list_eq.plain PySem.F.entry_list_eq (PySem.F.slot_list_eq.check _ _ _ _ _ _ _ _ hT (PySem.F.args_list_eq_2 _ _) ?_))
  show wpAny _ _ (isInstance (.ref x) (.type "list") >>= fun r => _) _ _ _
  exact wpAny_bind (sub.here (wpAny_bind (wpAny_pure (wpAny_pure ⟨rfl, rfl⟩))))
theorem dec_tuple (X : K.In s.heap) (I : InstAt s.heap x ox C od) (hs : subIn K (.ref C) (.type "tuple") = some false) (hT : s.TypeIs v "tuple") : wpAny (model prog w) A (call (.builtin "tuple.__eq__") [v, .ref x]) (fun r s' => r = .notImplemented ∧ s' = s) E s := by
  have sub : Looks (model prog w) s.heap (isInstance (.ref x) (.type "tuple")) false := I.type.andThen (looks_subIn X hs)
  refine wpAny_call (codeAny_call_builtin PySem.F.slot_tuple_eq.plain PySem.F.entry_tuple_eq (PySem.F.slot_tuple_eq.check _ _ _ _ _ _ _ _ hT (PySem.F.args_tuple_eq_2 _ _) ?_))
  show wpAny _ _ (isInstance (.ref x) (.type "tuple") >>= fun r => _) _ _ _
  exact wpAny_bind (sub.here (wpAny_bind (wpAny_pure (wpAny_pure ⟨rfl, rfl⟩))))
theorem dec_dict (X : K.In s.heap) (I : InstAt s.heap x ox C od) (hs : subIn K (.ref C) (.type "dict") = some false) (hT : s.TypeIs v "dict") : wpAny (model prog w) A (call (.builtin "dict.__eq__") [v, .ref x]) (fun r s' => r = .notImplemented ∧ s' = s) E s := by
  have sub : Looks (model prog w) s.heap (isInstance (.ref x) (.type "dict")) false := I.type.andThen (looks_subIn X hs)
  refine wpAny_call (codeAny_call_builtin PySem.F.slot_dict_eq.plain PySem.F.entry_dict_eq (PySem.F.slot_dict_eq.check _ _ _ _ _ _ _ _ hT (PySem.F.args_dict_eq_2 _ _) ?_))
  show wpAny _ _ (isInstance (.ref x) (.type "dict") >>= fun r => _) _ _ _
  exact wpAny_bind (sub.here (wpAny_bind (wpAny_rule (wpAny_pure ⟨rfl, rfl⟩))))
theorem load_prim {Q : Option Int → Shared → Prop} {dx : Addr} (hx : s.heap.get? x = some (instObj C dx)) (h : Q none s) : wpAny (model prog w) A (asInt? (.ref x)) Q E s := by
  show wpAny _ _ (load x >>= fun o => _) _ _ _
  refine wpAny_bind (wpAny_load hx ?_)
  exact wpAny_pure h
theorem dec_int {dx : Addr} (hx : s.heap.get? x = some (instObj C dx)) {i : Int} {t : Tok} : wpAny (model prog w) A (call (.builtin "int.__eq__") [.int i t, .ref x]) (fun r s' => r = .notImplemented ∧ s' = s) E s := by
  refine wpAny_call (codeAny_call_builtin PySem.F.slot_int_eq.plain PySem.F.entry_int_eq (PySem.F.slot_int_eq.check _ _ _ _ _ _ _ _ (typeIs_int s i t) (PySem.F.args_int_eq_2 _ _) ?_))
  show wpAny _ _ (asInt? (.ref x) >>= fun r => _) _ _ _
  exact wpAny_bind (load_prim hx (wpAny_bind (wpAny_rule (wpAny_pure ⟨rfl, rfl⟩))))
theorem dec_bool {dx : Addr} (hx : s.heap.get? x = some (instObj C dx)) {b : Bool} : wpAny (model prog w) A (call (.builtin "int.__eq__") [.bool b, .ref x]) (fun r s' => r = .notImplemented ∧ s' = s) E s := by
  refine wpAny_call (codeAny_call_builtin PySem.F.slot_bool_eq.plain PySem.F.entry_int_eq (PySem.F.slot_bool_eq.check _ _ _ _ _ _ _ _ (show s.TypeIs (.bool b) "bool" from rfl) (PySem.F.args_int_eq_2 _ _) ?_))
  show wpAny _ _ (asInt? (.ref x) >>= fun r => _) _ _ _
  exact wpAny_bind (load_prim hx (wpAny_bind (wpAny_rule (wpAny_pure ⟨rfl, rfl⟩))))
theorem dec_str {dx : Addr} (hx : s.heap.get? x = some (instObj C dx)) {y : Str} {t : Tok} : wpAny (model prog w) A (call (.builtin "str.__eq__") [.str y t, .ref x]) (fun r s' => r = .notImplemented ∧ s' = s) E s := by
  refine wpAny_call (codeAny_call_builtin PySem.F.slot_str_eq.plain PySem.F.entry_str_eq (PySem.F.slot_str_eq.check _ _ _ _ _ _ _ _ (typeIs_str s y t) (PySem.F.args_str_eq_2 _ _) ?_))
  show wpAny _ _ (asStr? (.ref x) >>= fun r => _) _ _ _
  refine wpAny_bind ?_
  show wpAny _ _ (load x >>= fun o => _) _ _ _
  refine wpAny_bind (wpAny_load hx ?_)
  exact wpAny_pure (wpAny_bind (wpAny_rule (wpAny_pure ⟨rfl, rfl⟩)))
theorem dec_none : wpAny (model prog w) A (call (.builtin "NoneType.__eq__") [.none, .ref x]) (fun r s' => r = .notImplemented ∧ s' = s) E s :=
  call_gives PySem.F.slot_NoneType_eq rfl PySem.F.entry_NoneType_eq (PySem.F.args_NoneType_eq_2 _ _) (SeqAt.NoneType___eq___none_ref_0 x) ⟨rfl, rfl⟩
/-- the facts of a value of a built-in type, that comparing wants -/
structure BtV (prog : Program) (w : World) (s : Shared) (x : Addr) (v : Value) (T id : String) : Prop where
  ty : s.TypeIs v T
  lo : Looks (model prog w) s.heap (typeOf v) (.type T)
  sl : Slot T "__eq__" id
  dc : ∀ (A : Around) (E : Value → Shared → Prop), wpAny (model prog w) A (call (.builtin id) [v, .ref x]) (fun r s' => r = .notImplemented ∧ s' = s) E s
  ot : oneThing? .Eq v (.ref x) = none
end
variable [Ers]
section
variable {X : Cx} {c : Str} {S : SpDX} {ps : List Str} {k : Nat} {sp : Sp} {C f : Addr} {fd : FuncData}
/-- a value of a built-in type -/
inductive BVal (K : PySem.W.Frag) (H : Hp) : V → String → Prop
  | non : BVal K H .non "NoneType"
  | bl (b : Bool) : BVal K H (.bl b) "bool"
  | int (i : Int) : BVal K H (.int i) "int"
  | str (y : Str) : BVal K H (.str y) "str"
  | lst {a : Addr} {vs : List V} (h : SqL K H a vs) : BVal K H (.ref a) "list"
  | tup {a : Addr} {vs : List V} (h : SqT K H a vs) : BVal K H (.ref a) "tuple"
  | dic {a : Addr} {kvs : List (Key × V)} (h : H a = some (.dK kvs)) : BVal K H (.ref a) "dict"
theorem BVal.known {K : PySem.W.Frag} {H : Hp} {x : V} {t : String} (b : BVal K H x t) : t ∈ knownT := by cases b <;> decide
theorem BVal.of [Amb] {K : PySem.W.Frag} {h : Fp} {H : Hp} {x : D} {v : V} {t : String} (e : tyN x = some t) (r : Rp K h H x v) : BVal K H v t := by
  cases r <;> cases e
  · exact .non
  · exact .bl _
  · exact .int _
  · exact .str _
  · rename_i s _; exact .lst s.sq
  · rename_i s _; exact .tup s.sq
  · rename_i s _; exact .tup s.sq
  · rename_i e _; exact .dic e
theorem BVal.facts {pins : List (Addr × Obj)} {σ : L2.St} {H : Hp} {s : Shared} {x : V} {u : Value} {t : String} {a dx : Addr} {ox : Obj} {od : Option Obj} (b : BVal X.K H x t) (I : Inv X pins σ H s) (r : RelV x u) (XK : X.K.In s.heap) (J : InstAt s.heap a ox C od) (hx : s.heap.get? a = some (instObj C dx)) (hs : subIn X.K (.ref C) (.type t) = some false) :
    ∃ id, BtV X.prog X.w s a u t id := by
  cases b with
  | non => cases r; exact ⟨_, rfl, Looks.of_pure rfl, PySem.F.slot_NoneType_eq, fun A E => dec_none, rfl⟩
  | bl b => cases r; exact ⟨_, rfl, Looks.of_pure rfl, PySem.F.slot_bool_eq, fun A E => dec_bool hx, rfl⟩
  | int i => obtain ⟨t, rfl⟩ := r; exact ⟨_, rfl, Looks.of_pure rfl, PySem.F.slot_int_eq, fun A E => dec_int hx, rfl⟩
  | str y => obtain ⟨t, rfl⟩ := r; exact ⟨_, rfl, Looks.of_pure rfl, PySem.F.slot_str_eq, fun A E => dec_str hx, rfl⟩
  | lst h =>
    cases r
    obtain ⟨its, rv, ⟨o, n, ho, hc, hd⟩, hz⟩ := I.list h
    exact ⟨_, ⟨o, ho, hc⟩, (Looks.ld (part := none) ho).andThen (by rw [hc]; exact .now), PySem.F.slot_list_eq, fun A E => dec_list XK J hs ⟨o, ho, hc⟩, by simp [oneThing_ref]⟩
  | tup h =>
    cases r
    obtain ⟨its, rv, ⟨o, ho, hc, hd⟩, hz⟩ := I.tuple h
    exact ⟨_, ⟨o, ho, hc⟩, (Looks.ld (part := none) ho).andThen (by rw [hc]; exact .now), PySem.F.slot_tuple_eq, fun A E => dec_tuple XK J hs ⟨o, ho, hc⟩, by simp [oneThing_ref]⟩
  | dic h =>
    cases r
    obtain ⟨_, _, vs, _, o, es, ep, ho, hx', _⟩ := I.hok _ _ h
    exact ⟨_, ⟨o, ho, hx'.1⟩, (Looks.ld (part := none) ho).andThen (by rw [hx'.1]; exact .now), PySem.F.slot_dict_eq, fun A E => dec_dict XK J hs ⟨o, ho, hx'.1⟩, by simp [oneThing_ref]⟩
/-- the class is none of the built-in types -/
def BtF (K : PySem.W.Frag) (C : Addr) : Prop := ∀ t ∈ knownT, subIn K (.ref C) (.type t) = some false
def rEqV (K : PySem.W.Frag) (sp : Sp) (C : Addr) (neg : Bool) : R2 := fun x y H Q => ∃ q dx fs t, x = .ref q ∧ H q = some (.ins C dx fs) ∧ BVal K H y t ∧ sp [.ref q, y] H (fun v H' => ∃ b, v = .bl b ∧ Q (.bl (if neg then !b else b)) H') fun _ _ _ => False
def rEqW (K : PySem.W.Frag) (sp : Sp) (C : Addr) : R2 := fun x y H Q => ∃ q dx fs t, y = .ref q ∧ H q = some (.ins C dx fs) ∧ BVal K H x t ∧ sp [.ref q, x] H (fun v H' => ∃ b, v = .bl b ∧ Q (.bl b) H') fun _ _ _ => False
end
section
variable {X : Cx} {c : Str} {S : SpDX} {ps : List Str} {k : Nat}
def dEqV (neg : Bool) (c : Str) (S : SpDX) : DO2 := fun x y ω R => ∃ fds t, FsOf c x ω fds ∧ tyN y = some t ∧ S [x, y] ω (fun d ω' => ∃ b, d = .bl b ∧ R (.bl (if neg then !b else b)) ω') fun _ _ _ => False
def dEqW (c : Str) (S : SpDX) : DO2 := fun x y ω R => ∃ fds t, FsOf c y ω fds ∧ tyN x = some t ∧ S [y, x] ω (fun d ω' => ∃ b, d = .bl b ∧ R (.bl b) ω') fun _ _ _ => False
end
section
variable {c : Str} {S : SpDX} {x y : D} {ω : Om} {Q : DQ} {neg : Bool} {fds : List (Str × D)} {t : String}
end
end DL

/-! YO: displays, slices, sums, doubles and copies of tuples whose object is known; slices of a text; a text times a number. -/
namespace DL
open PySem PySem.Spec L2 PyProof.Rows PySem.W
section
variable {X : Cx} {K : PySem.W.Frag} {a b e : Expr} {es : List Expr} {pos p2 : Pos} {Ta Te : TD} {T : TAD} {h : Fp} {H : Hp} {ω : Om}
/-- a tuple made anew, its object known -/
def MadeN (H : Hp) (ys : List V) (Q : VK) : Prop := ∀ (l : Addr) (ob : Obj), H l = none → ob.dict = none → ob.cls = .type "tuple" → Q (.ref l) (upd H l (.frz ob (.tup ys)))
/-! ### displays -/
def tTupN (t : TA) : TE := fun σ H Q => t σ H fun xs H1 => xs.length ≤ sizeLine ∧ MadeN H1 xs Q
/-- (a, b, ..), its object known -/
def dTupK (T : TAD) : TD := fun ρ ω Q => T ρ ω fun xs ω1 => xs.length ≤ sizeLine ∧ Q (.tpn xs) ω1
/-! ### slices -/
def WholeS (n : Nat) (lo hi : Option Int) : Prop := HT.sIx n 0 lo = 0 ∧ HT.sIx n n hi = n
def rSlK (K : PySem.W.Frag) : V → Option Int → Option Int → Hp → VK → Prop := fun x lo hi H Q => ∃ (a : Addr) (xs : List V), x = .ref a ∧ SqT K H a xs ∧ (WholeS xs.length lo hi → Q (.ref a) H) ∧ (¬ WholeS xs.length lo hi → MadeN H (cutV xs lo hi) Q)
def dSlK (Te : TD) (Tl Th : TOD) : TD := fun ρ ω Q => Te ρ ω fun x ω1 => Tl ρ ω1 fun lo ω2 => Th ρ ω2 fun hi ω3 => ∃ xs, x = .tpn xs ∧ Q (.tpn (cutD xs lo hi)) ω3
/-- z[lo:hi], z a text -/
def dSlZ (Te : TD) (Tl Th : TOD) : TD := fun ρ ω Q => Te ρ ω fun x ω1 => Tl ρ ω1 fun lo ω2 => Th ρ ω2 fun hi ω3 => ∃ z, x = .str z ∧ z.length ≤ sizeLine ∧ Q (.str (cutS z lo hi)) ω3
/-! ### t[::-1] -/
def tRevN (K : PySem.W.Frag) (te : TE) : TE := fun σ H Q => te σ H fun x H1 => ∃ (a : Addr) (xs : List V), x = .ref a ∧ SqT K H1 a xs ∧ MadeN H1 xs.reverse Q
def dRevK (Ta : TD) : TD := fun ρ ω Q => Ta ρ ω fun x ω1 => ∃ xs, x = .tpn xs ∧ Q (.tpn xs.reverse) ω1
/-! ### t + u, t * 2 -/
def rCatK (K : PySem.W.Frag) : R2 := fun x y H Q => ∃ (a b : Addr) (xs ys : List V), x = .ref a ∧ y = .ref b ∧ SqT K H a xs ∧ SqT K H b ys ∧ xs.length + ys.length ≤ sizeLine ∧ (xs = [] → Q (.ref b) H) ∧ (xs ≠ [] → ys = [] → Q (.ref a) H) ∧ (xs ≠ [] → ys ≠ [] → MadeN H (xs ++ ys) Q)
def dCatK : DO2 := fun x y ω Q => ∃ xs ys, x = .tpn xs ∧ y = .tpn ys ∧ xs.length + ys.length ≤ sizeLine ∧ Q (.tpn (xs ++ ys)) ω
def rDblK (K : PySem.W.Frag) : R2 := fun x y H Q => ∃ (l : Addr) (k : Int) (xs : List V), x = .ref l ∧ y = .int k ∧ SqT K H l xs ∧ 2 ≤ k ∧ k ≤ 1000 ∧ xs.length ≤ 1000 ∧ (xs = [] → Q (.ref l) H) ∧ (xs ≠ [] → MadeN H (List.replicate k.toNat xs).flatten Q)
def dDblK : DO2 := fun x y ω Q => ∃ xs k, x = .tpn xs ∧ y = .int k ∧ 2 ≤ k ∧ k ≤ 1000 ∧ xs.length ≤ 1000 ∧ Q (.tpn (List.replicate k.toNat xs).flatten) ω
/-! ### sorted(t), sum(t), list(t) -/
def dSortedK : DOn := fun xs ω Q => ∃ ns : List Int, xs = [.tpn (ns.map D.int)] ∧ ∀ ns' : List Int, ns'.Perm ns → ns'.Pairwise (· ≤ ·) → Q (.lst (ns'.map D.int)) ω
def dSumK : DOn := fun xs ω Q => ∃ ns : List Int, xs = [.tpn (ns.map D.int)] ∧ Q (.int ns.sum) ω
def dLstK : DOn := fun xs ω Q => ∃ ys, xs = [.tpn ys] ∧ Q (.lst ys) ω
/-! ### z * n, z a text -/
def repZ (z : Str) (n : Int) : Str := ⟨(List.replicate n.toNat z.cps.toList).flatten.toArray⟩
def rMulZ : R2 := fun x y H Q => ∃ z n, x = .str z ∧ y = .int n ∧ 0 ≤ n ∧ n ≤ 1000 ∧ z.length ≤ 1000 ∧ Q (.str (repZ z n)) H
def dMulZ : DO2 := fun x y ω Q => ∃ z n, x = .str z ∧ y = .int n ∧ 0 ≤ n ∧ n ≤ 1000 ∧ z.length ≤ 1000 ∧ Q (.str (repZ z n)) ω
end
section
variable {ρ : Rho} {ω : Om} {Q : DQ} {Ta Te : TD} {T : TAD} {Tl Th : TOD} {xs ys : List D} {ns : List Int} {z : Str} {n : Int}
theorem st_tupK (h : T ρ ω fun xs ω1 => xs.length ≤ sizeLine ∧ Q (.tpn xs) ω1) : dTupK T ρ ω Q := h
theorem st_slK (h : Te ρ ω fun x ω1 => Tl ρ ω1 fun lo ω2 => Th ρ ω2 fun hi ω3 => ∃ xs, x = .tpn xs ∧ Q (.tpn (cutD xs lo hi)) ω3) : dSlK Te Tl Th ρ ω Q := h
theorem st_slK' {Z : List D → Prop} (h : Z xs) : ∃ ys, D.tpn xs = .tpn ys ∧ Z ys := ⟨xs, rfl, h⟩
theorem st_slZ (h : Te ρ ω fun x ω1 => Tl ρ ω1 fun lo ω2 => Th ρ ω2 fun hi ω3 => ∃ z, x = .str z ∧ z.length ≤ sizeLine ∧ Q (.str (cutS z lo hi)) ω3) : dSlZ Te Tl Th ρ ω Q := h
theorem st_revK (h : Ta ρ ω fun x ω1 => ∃ xs, x = .tpn xs ∧ Q (.tpn xs.reverse) ω1) : dRevK Ta ρ ω Q := h
theorem st_lstK (h : Q (.lst ys) ω) : dLstK [.tpn ys] ω Q := ⟨ys, rfl, h⟩
end
/-! ### columns -/
/-- the digits of a number as they stand in its text -/
def dg (a : Int) : List Nat := (Nat.toDigits 10 a.natAbs).map Char.toNat
/-- right-aligned in eight columns -/
def colT (t : Str) : Str := repZ " " (max 0 (8 - (t.length : Int))) ++ t
end DL

local macro_rules | `(tactic| walk_at "d1") => `(tactic| first | (with_reducible first | refine DL.st_seq ?_ | refine DL.st_next ?_ | refine DL.st_asg ?_ | refine DL.st_ret ?_ | refine DL.st_retN ?_ | refine DL.st_drop ?_ | refine DL.st_ifs ?_ | refine DL.st_par ?_ | refine DL.st_par' ?_ | refine DL.st_par3 ?_ | refine DL.st_par3' ?_ | refine DL.st_name ?_ | refine DL.st_gcons ?_ | refine DL.st_gnil ?_ | refine DL.st_c ?_ | refine DL.st_bin ?_ | refine DL.st_un ?_ | refine DL.st_neg ?_ | refine DL.st_addI ?_ | refine DL.st_sub ?_ | refine DL.st_b0 ?_ | refine DL.st_eqI ?_ | refine DL.st_eqStr ?_ | refine DL.st_isN ?_ | refine DL.st_gsub ?_ | refine DL.st_call ?_ | refine DL.st_cons ?_ | refine DL.st_nil ?_ | refine DL.st_lst ?_ | refine DL.st_tup ?_ | refine DL.st_lstO ?_ | refine DL.st_lenT ?_ | refine DL.st_lenL ?_ | refine DL.st_tupT ?_ | refine DL.st_tupL ?_ | refine DL.st_lstT ?_ | refine DL.st_lstL ?_ | refine DL.st_abs ?_ | refine DL.st_ii ?_ | refine DL.st_int1b ?_ | refine DL.st_int1i ?_ | refine DL.st_dic0 ?_ | refine DL.st_dic1 ?_ | refine DL.st_dic1' ?_ | refine DL.st_tst ?_ | refine DL.st_bl ?_ | refine DL.st_andT ?_ | refine DL.st_orT ?_ | refine DL.st_notT ?_ | refine DL.st_andV ?_ | refine DL.st_orV ?_ | refine DL.st_notV ?_ | refine DL.st_if ?_ | refine DL.st_chain ?_ | refine DL.st_sl ?_ | refine DL.st_slT ?_ | refine DL.st_slL ?_ | refine DL.st_nop ?_ | refine DL.st_part ?_ | refine DL.st_int ?_ | refine DL.st_negT ?_ | refine DL.st_negF ?_ | refine DL.st_sameN ?_ | refine DL.st_sameP ?_ | refine DL.st_T ?_ | refine DL.st_F ?_ | refine DL.st_T2 ?_ | refine DL.st_F2 ?_ | refine DL.st_nT ?_ | refine DL.st_nF ?_ | refine DL.st_lc ?_ | refine DL.st_lcO ?_ | refine DL.st_rng1 ?_ | refine DL.st_items ?_ | refine DL.st_itemsL ?_ | refine DL.st_itemsT ?_ | refine DL.st_enum ?_ | refine DL.st_enum' ?_ | refine DL.st_for ?_ | refine DL.st_tupRg ?_ | refine DL.st_p6 ?_ | refine DL.st_p18 ?_ | refine DL.st_p39 ?_ | refine DL.st_rev ?_ | refine DL.st_rev' ?_ | refine DL.st_soSet ?_ | refine DL.st_isB ?_ | refine DL.st_inL ?_ | refine DL.st_yes ?_ | refine DL.st_app ?_ | refine DL.st_soSetL ?_ | refine DL.st_inT ?_ | refine DL.st_eqIntsT ?_ | refine DL.st_star ?_ | refine DL.st_starT ?_ | refine DL.st_starL ?_ | refine DL.st_revL ?_ | refine DL.st_zipL ?_ | refine DL.st_joined ?_ | refine DL.st_jnil ?_ | refine DL.st_jcons ?_ | refine DL.st_fmt ?_ | refine DL.st_join ?_ | refine DL.st_join' ?_ | refine DL.st_pop ?_ | refine DL.st_dget ?_ | refine DL.st_dput ?_ | refine DL.st_zip ?_ | refine DL.st_zip' ?_ | refine DL.st_lstRgO ?_ | refine DL.st_while ?_ | refine DL.st_dic0O ?_ | refine DL.st_notB ?_ | refine DL.st_dicT ?_ | refine DL.st_dinT ?_ | refine DL.st_dputT ?_ | refine DL.st_inTups ?_ | refine DL.st_dicK ?_ | refine DL.st_itemsD ?_ | refine DL.st_setd ?_ | refine DL.st_extO ?_ | refine DL.st_rng2 ?_ | refine DL.st_callX ?_ | refine DL.st_raise ?_ | refine DL.st_soSetB ?_ | refine DL.st_ch3 ?_ | refine DL.st_dinK ?_ | refine DL.st_dgetN ?_ | refine DL.st_idx ?_ | refine DL.st_dgetT ?_ | refine DL.st_dgetTN ?_ | refine DL.st_dsetT ?_ | refine DL.st_fldS ?_ | refine DL.st_fld ?_ | refine DL.st_make ?_ | refine DL.st_makeO ?_ | refine DL.st_subM ?_ | refine DL.st_binM ?_ | refine DL.st_callM ?_ | refine DL.st_fldAug ?_ | refine DL.st_cntB ?_ | refine DL.st_idxB ?_ | refine DL.st_meth ?_ | refine DL.st_p8 ?_ | refine DL.st_callE ?_ | refine DL.st_prop ?_ | refine DL.st_methN ?_ | refine DL.st_methKw ?_ | refine DL.st_pop0 ?_ | refine DL.st_raise0 ?_ | refine DL.st_gone ?_ | refine DL.st_rng3 ?_ | refine DL.st_methNA ?_ | refine DL.st_oneOf (by assumption) ?_ | refine DL.st_oneOfS (by assumption) ?_ | refine DL.st_clsM ?_ | refine DL.st_methStar ?_ | refine DL.st_finC ?_ | refine DL.st_kget ?_ | refine DL.st_enumL ?_ | refine DL.st_enumL' ?_ | refine DL.st_cntN ?_ | refine DL.st_tupN ?_ | refine DL.st_lenN ?_ | refine DL.st_lstN ?_ | refine DL.st_starN ?_ | refine DL.st_starN' ?_ | refine DL.st_cntN' ?_ | refine DL.st_itemsN ?_ | refine DL.st_remO ?_ | refine DL.st_fmtG ?_ | refine DL.st_tryO ?_ | refine DL.st_tupK ?_ | refine DL.st_lstK ?_ | refine DL.st_slK ?_ | refine DL.st_slK' ?_ | refine DL.st_revK ?_ | refine DL.st_slZ ?_) | ((with_reducible refine DL.st_var (d := ?d) ?e ?_); (case e => exact rfl)) | ((with_reducible refine DL.st_gtup ?e ?_); (case e => exact rfl)) | ((with_reducible refine DL.st_sz ?e ?_); (case e => (simp only [List.length_cons, List.length_nil]; decide))) | ((with_reducible refine DL.st_isiT (t' := ?t) ?n ?e ?b ?_); (case n => decide); (case e => exact rfl); (case b => decide)) | ((with_reducible refine DL.st_isiF (t' := ?t) ?n ?e ?b ?_); (case n => decide); (case e => exact rfl); (case b => decide)))
local macro_rules | `(tactic| walk_at "ds") => `(tactic| repeat walk_at "d1")

namespace K54
open PySem PySem.Spec L2 DL
variable [Ers]
def prsK : List (Str × Str) := []
def flsK : List Str := []
def T_is_number_between : TSD := (dRet (dAndV (dCall dIsi (dCons (dVar 0) (dCons (dC (.raw (.ty "int"))) dNil))) (dAndV (dNotV (dCall dIsi (dCons (dVar 0) (dCons (dC (.raw (.ty "bool"))) dNil)))) (dChain dLe dLe (dVar 1) (dVar 0) (dVar 2)))))

def S_is_number_between : SpD := fun ds ω R => ∃ v lo hi, ds = [v, .int lo, .int hi] ∧ v.ok = true ∧ R (.bl (numB v lo hi)) ω
theorem ar_is_number_between : ∀ ds ω R, S_is_number_between ds ω R → ds.length = ["value", "low", "high"].length := by
  rintro ds ω R ⟨v, lo, hi, rfl, _⟩
  rfl
theorem rd_is_number_between : ∀ ds ω R, S_is_number_between ds ω R → T_is_number_between { nx := fun _ ω' => R .non ω', rt := R } (startD ["value", "low", "high"] ds) ω := by
  rintro ds ω R ⟨v, lo, hi, rfl, ok, q⟩
  show T_is_number_between _ [some v, some (.int lo), some (.int hi)] ω
  unfold T_is_number_between
  cases v with
  | raw v => simp [D.ok] at ok
  | obj _ _ => simp [D.ok] at ok
  | int i =>
    walk_at "ds"
    refine st_dec (fun h1 => ?_) fun h1 => ?_
    · walk_at "ds"
      have e : numB (.int i) lo hi = decide (i ≤ hi) := by simp [numB, h1]
      rw [e] at q
      exact q
    · have e : numB (.int i) lo hi = false := by simp [numB, h1]
      rw [e] at q
      exact q
  | bl b => walk_at "ds"; exact q
  | _ => walk_at "ds"; exact q

def T_is_excess : TSD := (dRet (dCall (S_is_number_between) (dCons (dVar 0) (dCons (dC (.int 1)) (dCons (dC (.int 1000000)) dNil)))))

def S_is_excess : SpD := fun ds ω R => ∃ v, ds = [v] ∧ v.ok = true ∧ R (.bl (numB v 1 1000000)) ω
theorem ar_is_excess : ∀ ds ω R, S_is_excess ds ω R → ds.length = ["value"].length := by
  rintro ds ω R ⟨v, rfl, _⟩
  rfl
theorem rd_is_excess : ∀ ds ω R, S_is_excess ds ω R → T_is_excess { nx := fun _ ω' => R .non ω', rt := R } (startD ["value"] ds) ω := by
  rintro ds ω R ⟨v, rfl, ok, q⟩
  show T_is_excess _ [some v] ω
  unfold T_is_excess
  walk_at "ds"
  exact ⟨v, 1, 1000000, rfl, ok, q⟩

def T_is_weight : TSD := (dRet (dCall (S_is_number_between) (dCons (dVar 0) (dCons (dC (.int 1)) (dCons (dC (.int 1000000)) dNil)))))

def S_is_weight : SpD := fun ds ω R => ∃ v, ds = [v] ∧ v.ok = true ∧ R (.bl (numB v 1 1000000)) ω
theorem ar_is_weight : ∀ ds ω R, S_is_weight ds ω R → ds.length = ["value"].length := by
  rintro ds ω R ⟨v, rfl, _⟩
  rfl
theorem rd_is_weight : ∀ ds ω R, S_is_weight ds ω R → T_is_weight { nx := fun _ ω' => R .non ω', rt := R } (startD ["value"] ds) ω := by
  rintro ds ω R ⟨v, rfl, ok, q⟩
  show T_is_weight _ [some v] ω
  unfold T_is_weight
  walk_at "ds"
  exact ⟨v, 1, 1000000, rfl, ok, q⟩

def T_tower_error : TSD := (dSeq (dIfS (dOrT (dNotT (dTst (dCall dIsi (dCons (dVar 0) (dCons (dC (.raw (.ty "tuple"))) dNil))))) (dTst (dBin (dEq true) (dCall dLen (dCons (dVar 0) dNil)) (dC (.int 2))))) (dRet (dTup (dCons (dC .non) (dCons (dC (.str "tower")) dNil)))) dNext)
    (dSeq (dAsg (dVar 0) (dgTup 2 (dgCons (dgName 1) (dgCons (dgName 2) dgNil))))
    (dSeq (dIfS (dNotT (dTst (dCall (S_is_excess) (dCons (dVar 1) dNil)))) (dRet (dTup (dCons (dC .non) (dCons (dC (.str "excess")) dNil)))) dNext)
    (dSeq (dIfS (dOrT (dNotT (dTst (dCall dIsi (dCons (dVar 2) (dCons (dC (.raw (.ty "tuple"))) dNil))))) (dTst (dBin dGt (dCall dLen (dCons (dVar 2) dNil)) (dC (.int 24))))) (dRet (dTup (dCons (dC .non) (dCons (dC (.str "weights")) dNil)))) dNext)
    (dSeq (dFor (dEnum (dCons (dVar 2) dNil)) (dgTup 2 (dgCons (dgName 3) (dgCons (dgName 4) dgNil))) (dIfS (dNotT (dTst (dCall (S_is_weight) (dCons (dVar 4) dNil)))) (dRet (dTup (dCons (dVar 3) (dCons (dC (.str "weight")) dNil)))) dNext))
    (dRet (dC .non)))))))

def S_tower_error : SpD := fun ds ω R => ∃ (e : Int) (ws : List Int), ds = [towD e ws] ∧ 1 ≤ e ∧ e ≤ 1000000 ∧ ws.length ≤ 24 ∧ (∀ w ∈ ws, 1 ≤ w ∧ w ≤ 1000000) ∧ R .non ω
theorem ar_tower_error : ∀ ds ω R, S_tower_error ds ω R → ds.length = ["value"].length := by
  rintro ds ω R ⟨e, ws, rfl, _⟩
  rfl
theorem rd_tower_error : ∀ ds ω R, S_tower_error ds ω R → T_tower_error { nx := fun _ ω' => R .non ω', rt := R } (startD ["value", "excess", "weights", "person", "weight"] ds) ω := by
  rintro ds ω R ⟨e, ws, rfl, e0, e1, wl, hw, q⟩
  show T_tower_error _ [some (towD e ws), none, none, none, none] ω
  unfold T_tower_error
  walk_at "ds"
  rw [if_neg (by simp)]
  walk_at "ds"
  refine ⟨_, rfl, rfl, ?_⟩
  rw [show numB (.int e) 1 1000000 = true from decide_eq_true ⟨e0, e1⟩]
  walk_at "ds"
  refine st_dec (fun c => (by rw [List.length_map] at c; omega : False).elim) fun c => ?_
  walk_at "ds"
  refine ⟨fun i ρ ω' => ω' = ω ∧ ∃ v3 v4, ρ = [some (towD e ws), some (.int e), some (.tup (ws.map D.int)), v3, v4], ⟨rfl, _, _, rfl⟩, fun _ _ _ _ => trivial, ?_, ?_⟩
  · rintro i d ρ ω' ed ⟨rfl, v3, v4, rfl⟩
    obtain ⟨w, hwm, rfl⟩ : ∃ w ∈ ws, d = .tup [.int (i : Int), .int w] := by
      have li := (List.getElem?_eq_some_iff.mp ed).1
      rw [enumD_len, List.length_map] at li
      rw [enumD_get (d := .int ws[i]) (by rw [List.getElem?_map, List.getElem?_eq_getElem li]; rfl)] at ed
      cases ed
      exact ⟨_, List.getElem_mem li, rfl⟩
    walk_at "ds"
    refine ⟨_, rfl, rfl, ?_⟩
    have := hw w hwm
    rw [show numB (.int w) 1 1000000 = true from decide_eq_true ⟨this.1, this.2⟩]
    walk_at "ds"
    exact ⟨rfl, _, _, rfl⟩
  · rintro ρ ω' ⟨rfl, v3, v4, rfl⟩
    walk_at "ds"
    exact q

def T_is_group : TSD := (dSeq (dIfS (dNotT (dTst (dCall dIsi (dCons (dVar 1) (dCons (dC (.raw (.ty "tuple"))) dNil))))) (dRet (dC (.bl false))) dNext)
    (dSeq (dAsg (dVar 0) (dgTup 2 (dgCons (dgName 2) (dgCons (dgName 3) dgNil))))
    (dSeq (dAsg (dC (.int 0)) (dgName 4))
    (dSeq (dFor (dItems (dVar 1)) (dgName 5) (dSeq (dIfS (dNotT (dTst (dCall (S_is_number_between) (dCons (dVar 5) (dCons (dVar 4) (dCons (dBin dSub (dCall dLen (dCons (dVar 3) dNil)) (dC (.int 1))) dNil)))))) (dRet (dC (.bl false))) dNext)
    (dAsg (dBin dAdd (dVar 5) (dC (.int 1))) (dgName 4))))
    (dRet (dC (.bl true)))))))

def S_is_group : SpD := fun ds ω R => ∃ (e : D) (ws : List Int) (v : D), ds = [.tup [e, .tup (ws.map D.int)], v] ∧ v.okV = true ∧ R (.bl (isGrp ws.length v)) ω
theorem ar_is_group : ∀ ds ω R, S_is_group ds ω R → ds.length = ["tower", "value"].length := by
  rintro ds ω R ⟨e, ws, v, rfl, _⟩
  rfl
theorem rd_is_group : ∀ ds ω R, S_is_group ds ω R → T_is_group { nx := fun _ ω' => R .non ω', rt := R } (startD ["tower", "value", "_", "weights", "least", "person"] ds) ω := by
  rintro ds ω R ⟨e, ws, v, rfl, ok, q⟩
  show T_is_group _ [some (.tup [e, .tup (ws.map D.int)]), some v, none, none, none, none] ω
  unfold T_is_group
  cases v with
  | raw v => simp [D.okV] at ok
  | obj _ _ => simp [D.okV] at ok
  | tpn _ => simp [D.okV] at ok
  | tup xs =>
    have oks : okAll xs = true := okV_all xs (by simpa [D.okV] using ok)
    walk_at "ds"
    refine ⟨fun i ρ ω' => ω' = ω ∧ ∃ u least v5, ρ = [some (.tup [e, .tup (ws.map D.int)]), some (.tup xs), u, some (.tup (ws.map D.int)), some (.int least), v5] ∧ i ≤ xs.length ∧ upOk ws.length 0 xs = upOk ws.length least (xs.drop i), ⟨rfl, _, _, _, rfl, Nat.zero_le _, rfl⟩, fun _ _ _ _ => trivial, ?_, ?_⟩
    · rintro i d ρ ω' ed ⟨rfl, u, least, v5, rfl, hi, hu⟩
      obtain ⟨li, ed'⟩ := List.getElem?_eq_some_iff.mp ed
      have hdrop : xs.drop i = d :: xs.drop (i + 1) := by rw [List.drop_eq_getElem_cons li, ed']
      rw [hdrop] at hu
      walk_at "ds"
      rw [List.length_map]
      refine ⟨d, least, _, rfl, okAll_at oks ed, ?_⟩
      cases hb : numB d least (↑ws.length - 1) with
      | false =>
        walk_at "ds"
        have z : isGrp ws.length (.tup xs) = false := by
          show upOk _ 0 xs = false
          rw [hu, upOk_stop hb]
        rw [z] at q
        exact q
      | true =>
        obtain ⟨k, rfl, hk⟩ := upOk_step (xs := xs.drop (i + 1)) hb
        walk_at "ds"
        exact ⟨rfl, _, _, _, rfl, li, hu.trans hk⟩
    · rintro ρ ω' ⟨rfl, u, least, v5, rfl, hi, hu⟩
      walk_at "ds"
      have z : isGrp ws.length (.tup xs) = true := by
        show upOk _ 0 xs = true
        rw [hu, List.drop_length]
        rfl
      rw [z] at q
      exact q
  | _ => walk_at "ds"; exact q

def T_weight_of : TSD := (dSeq (dAsg (dVar 0) (dgTup 2 (dgCons (dgName 2) (dgCons (dgName 3) dgNil))))
    (dRet (dCall dSum (dCons (dLc (dItems (dVar 1)) (dgName 4) dYes (dBin dIx (dVar 3) (dVar 4)) [4]) dNil))))

def S_weight_of : SpD := fun ds ω R => ∃ (e : D) (ws ns : List Int), ds = [.tup [e, .tup (ws.map D.int)], .tup (ns.map D.int)] ∧ (∀ n ∈ ns, 0 ≤ n ∧ n < ws.length) ∧ ns.length ≤ 1000 ∧ R (.int (wt ws ns)) ω
theorem ar_weight_of : ∀ ds ω R, S_weight_of ds ω R → ds.length = ["tower", "group"].length := by
  rintro ds ω R ⟨e, ws, ns, rfl, _⟩
  rfl
theorem rd_weight_of : ∀ ds ω R, S_weight_of ds ω R → T_weight_of { nx := fun _ ω' => R .non ω', rt := R } (startD ["tower", "group", "_", "weights", "person"] ds) ω := by
  rintro ds ω R ⟨e, ws, ns, rfl, hn, hl, q⟩
  show T_weight_of _ [some (.tup [e, .tup (ws.map D.int)]), some (.tup (ns.map D.int)), none, none, none] ω
  unfold T_weight_of
  walk_at "ds"
  refine lc_fun (fun _ => true) (fun d => match d with | .int n => .int (wAt ws n) | _ => .non) (by rw [List.length_map]; exact Nat.le_trans hl (by decide)) trivial (fun d Z acc hd hac k1 k2 => ?_) ?_
  · obtain ⟨n, hnm, rfl⟩ := List.mem_map.mp hd
    have := hn n hnm
    walk_at "ds"
    refine st_ixT (at_w this.1 this.2) ?_
    exact ⟨hac, k1 rfl⟩
  · walk_at "ds"
    have e2 : ((ns.map D.int).filter fun _ => true).map (fun d => match d with | .int n => D.int (wAt ws n) | _ => .non) = (ns.map fun n => ws.getD n.toNat 0).map D.int := by
      rw [List.filter_eq_self.mpr fun _ _ => rfl, List.map_map, List.map_map]
      rfl
    exact ⟨_, ns.map (fun n : Int => ws.getD n.toNat 0), rfl, congrArg some e2, q⟩

def T_missing_weight : TSD := (dSeq (dFor (dItems (dVar 1)) (dgName 2) (dIfS (dTst (dBin dGt (dCntN (dVar 1) (dVar 2)) (dCntN (dVar 0) (dVar 2)))) (dRet (dVar 2)) dNext))
    (dRet (dC .non)))

def S_missing_weight : SpD := fun ds ω R => ∃ xs ys : List Int, ds = [.tpn (xs.map D.int), .tpn (ys.map D.int)] ∧ R (optI (missW xs ys)) ω
theorem ar_missing_weight : ∀ ds ω R, S_missing_weight ds ω R → ds.length = ["weights", "others"].length := by
  rintro ds ω R ⟨xs, ys, rfl, _⟩
  rfl
theorem missW_found {xs ys : List Int} {i : Nat} {y : Int} (hy : ys[i]? = some y) (b : xs.count y < ys.count y) (no : ∀ j z, j < i → ys[j]? = some z → ¬ xs.count z < ys.count z) : missW xs ys = some y := by
  unfold missW
  have li := (List.getElem?_eq_some_iff.mp hy).1
  refine List.find?_eq_some_iff_getElem.mpr ⟨decide_eq_true b, i, li, (List.getElem?_eq_some_iff.mp hy).2, fun j hj => ?_⟩
  have := no j ys[j] hj (List.getElem?_eq_getElem (by omega))
  simpa using this
theorem rd_missing_weight : ∀ ds ω R, S_missing_weight ds ω R → T_missing_weight { nx := fun _ ω' => R .non ω', rt := R } (startD ["weights", "others", "weight"] ds) ω := by
  rintro ds ω R ⟨xs, ys, rfl, q⟩
  show T_missing_weight _ [some (.tpn (xs.map D.int)), some (.tpn (ys.map D.int)), none] ω
  unfold T_missing_weight
  walk_at "ds"
  refine ⟨fun i ρ ω' => (∃ d, ρ = [some (.tpn (xs.map D.int)), some (.tpn (ys.map D.int)), d]) ∧ ω' = ω ∧ ∀ j z, j < i → ys[j]? = some z → ¬ xs.count z < ys.count z, ⟨⟨_, rfl⟩, rfl, fun j z h => absurd h (Nat.not_lt_zero j)⟩, fun _ _ _ _ => trivial, ?_, ?_⟩
  · rintro i d ρ ω' hd ⟨⟨d0, rfl⟩, rfl, no⟩
    rw [List.getElem?_map] at hd
    cases hy : ys[i]? with
    | none => rw [hy] at hd; cases hd
    | some y =>
      rw [hy] at hd
      cases hd
      walk_at "ds"
      refine st_dec (fun c => ?_) fun c => ?_
      · walk_at "ds"
        rw [missW_found hy (by omega) no] at q
        exact q
      · walk_at "ds"
        refine ⟨⟨_, rfl⟩, rfl, fun j z hj hz => ?_⟩
        by_cases e : j = i
        · subst e
          rw [hy] at hz
          cases hz
          omega
        · exact no j z (by omega) hz
  · rintro ρ ω' ⟨⟨d0, rfl⟩, rfl, no⟩
    walk_at "ds"
    have e : missW xs ys = none := by
      unfold missW
      refine List.find?_eq_none.mpr fun y hm => ?_
      obtain ⟨j, hj⟩ := List.getElem?_of_mem hm
      have := no j y (by rw [List.length_map]; exact (List.getElem?_eq_some_iff.mp hj).1) hj
      simpa using this
    rw [e] at q
    exact q

def T_without : TSD := (dRet (dCall dTupOf (dCons (dLc (dItems (dVar 0)) (dgName 2) (dTst (dBin (dIn true) (dVar 2) (dVar 1))) (dVar 2) [2]) dNil)))

def S_without : SpD := fun ds ω R => ∃ ns gs : List Int, ds = [.tup (ns.map D.int), .tup (gs.map D.int)] ∧ ns.length ≤ 1000 ∧ R (.tup ((ns.filter fun n => !decide (n ∈ gs)).map D.int)) ω
theorem ar_without : ∀ ds ω R, S_without ds ω R → ds.length = ["group", "others"].length := by
  rintro ds ω R ⟨ns, gs, rfl, _⟩
  rfl
theorem rd_without : ∀ ds ω R, S_without ds ω R → T_without { nx := fun _ ω' => R .non ω', rt := R } (startD ["group", "others", "person"] ds) ω := by
  rintro ds ω R ⟨ns, gs, rfl, l, q⟩
  show T_without _ [some (.tup (ns.map D.int)), some (.tup (gs.map D.int)), none] ω
  unfold T_without
  walk_at "ds"
  refine lc_fun (fun d => !inG gs d) id (by rw [List.length_map]; exact Nat.le_trans l (by decide)) trivial (fun d Z acc hd hac k1 k2 => ?_) ?_
  · obtain ⟨n, hn, rfl⟩ := List.mem_map.mp hd
    walk_at "ds"
    refine st_ndec (fun c => ?_) fun c => ?_
    · walk_at "ds"
      exact ⟨hac, k1 (by show (!decide (n ∈ gs)) = true; rw [decide_eq_false c]; rfl)⟩
    · exact k2 (by show (!decide (n ∈ gs)) = false; rw [decide_eq_true c]; rfl)
  · walk_at "ds"
    rw [filt_map _ (fun n => !decide (n ∈ gs)) fun n => rfl]
    exact q

def T_is_move : TSD := (dSeq (dIfS (dOrT (dNotT (dTst (dCall dIsi (dCons (dVar 2) (dCons (dC (.raw (.ty "tuple"))) dNil))))) (dTst (dBin (dEq true) (dCall dLen (dCons (dVar 2) dNil)) (dC (.int 2))))) (dRet (dC (.bl false))) dNext)
    (dSeq (dAsg (dVar 2) (dgTup 2 (dgCons (dgName 3) (dgCons (dgName 4) dgNil))))
    (dSeq (dIfS (dOrT (dNotT (dTst (dCall (S_is_group) (dCons (dVar 0) (dCons (dVar 3) dNil))))) (dNotT (dTst (dCall (S_is_group) (dCons (dVar 0) (dCons (dVar 4) dNil)))))) (dRet (dC (.bl false))) dNext)
    (dSeq (dIfS (dOrT (dTst (dBin (dEq true) (dCall (S_without) (dCons (dVar 3) (dCons (dVar 1) dNil))) (dVar 3))) (dTst (dBin (dEq true) (dCall (S_without) (dCons (dVar 4) (dCons (dVar 1) dNil))) (dTup dNil)))) (dRet (dC (.bl false))) dNext)
    (dSeq (dAsg (dVar 0) (dgTup 2 (dgCons (dgName 5) (dgCons (dgName 6) dgNil))))
    (dRet (dChain dLe dLe (dC (.int 1)) (dBin dSub (dCall (S_weight_of) (dCons (dVar 0) (dCons (dVar 3) dNil))) (dCall (S_weight_of) (dCons (dVar 0) (dCons (dVar 4) dNil)))) (dVar 5))))))))

def S_is_move : SpD := fun ds ω R => ∃ (e : Int) (ws gs : List Int) (v : D), ds = [.tup [.int e, .tup (ws.map D.int)], .tup (gs.map D.int), v] ∧ v.okV = true ∧ ws.length ≤ 24 ∧ R (.bl (movB e ws gs v)) ω
theorem ar_is_move : ∀ ds ω R, S_is_move ds ω R → ds.length = ["tower", "group", "value"].length := by
  rintro ds ω R ⟨e, ws, gs, v, rfl, _⟩
  rfl
theorem rd_is_move : ∀ ds ω R, S_is_move ds ω R → T_is_move { nx := fun _ ω' => R .non ω', rt := R } (startD ["tower", "group", "value", "down", "up", "excess", "_"] ds) ω := by
  rintro ds ω R ⟨e, ws, gs, v, rfl, ok, wl, q⟩
  show T_is_move _ [some (.tup [.int e, .tup (ws.map D.int)]), some (.tup (gs.map D.int)), some v, none, none, none, none] ω
  unfold T_is_move
  cases v with
  | raw v => simp [D.okV] at ok
  | obj _ _ => simp [D.okV] at ok
  | tpn _ => simp [D.okV] at ok
  | tup xs =>
    walk_at "ds"
    refine st_ndec (fun h => ?_) fun h => ?_
    · walk_at "ds"
      have z : movB e ws gs (.tup xs) = false := by
        match xs, h with
        | [], _ => rfl
        | [_], _ => rfl
        | [_, _], h => exact absurd rfl h
        | _ :: _ :: _ :: _, _ => rfl
      rw [z] at q
      exact q
    · have l : xs.length = 2 := by omega
      match xs, l with
      | [x, y], _ =>
        have ox : x.okV = true := (okVc (by simpa [D.okV] using ok)).1
        have oy : y.okV = true := (okVc (okVc (by simpa [D.okV] using ok)).2).1
        walk_at "ds"
        refine ⟨_, ws, x, rfl, ox, ?_⟩
        cases gx : isGrp ws.length x with
        | false =>
          walk_at "ds"
          have z : movB e ws gs (.tup [x, y]) = false := by simp only [movB, gx, Bool.false_and]
          rw [z] at q
          exact q
        | true =>
          walk_at "ds"
          refine ⟨_, ws, y, rfl, oy, ?_⟩
          cases gy : isGrp ws.length y with
          | false =>
            walk_at "ds"
            have z : movB e ws gs (.tup [x, y]) = false := by simp only [movB, gx, gy, Bool.false_and, Bool.true_and]
            rw [z] at q
            exact q
          | true =>
            obtain ⟨ns, rfl, nx, hns, _, ln⟩ := grp_get gx (by omega)
            obtain ⟨ms, rfl, ny, hms, _, lm⟩ := grp_get gy (by omega)
            walk_at "ds"
            refine ⟨ns, gs, rfl, by omega, ?_⟩
            walk_at "ds"
            rw [all_filt]
            walk_at "ds"
            cases hx : ns.all fun n => !decide (n ∈ gs) with
            | false =>
              walk_at "ds"
              have z : movB e ws gs (.tup [.tup (ns.map D.int), .tup (ms.map D.int)]) = false := by
                simp only [movB, gx, gy, nx, ny, hx, Bool.false_and, Bool.true_and]
              rw [z] at q
              exact q
            | true =>
              walk_at "ds"
              refine ⟨ms, gs, rfl, by omega, ?_⟩
              walk_at "ds"
              refine st_neE ?_
              rw [none_filt]
              have ey : (ms.all fun n => !(!decide (n ∈ gs))) = ms.all fun n => decide (n ∈ gs) := by
                congr 1
                funext n
                exact Bool.not_not _
              rw [ey]
              walk_at "ds"
              cases hy : ms.all fun n => decide (n ∈ gs) with
              | false =>
                walk_at "ds"
                have z : movB e ws gs (.tup [.tup (ns.map D.int), .tup (ms.map D.int)]) = false := by
                  simp only [movB, gx, gy, nx, ny, hx, hy, Bool.false_and, Bool.true_and]
                rw [z] at q
                exact q
              | true =>
                have z : movB e ws gs (.tup [.tup (ns.map D.int), .tup (ms.map D.int)]) = (decide (1 ≤ wt ws ns - wt ws ms) && decide (wt ws ns - wt ws ms ≤ e)) := by
                  simp only [movB, gx, gy, nx, ny, hx, hy, Bool.true_and]
                rw [z] at q
                walk_at "ds"
                refine ⟨_, ws, ns, rfl, hns, by omega, ?_⟩
                walk_at "ds"
                refine ⟨_, ws, ms, rfl, hms, by omega, ?_⟩
                walk_at "ds"
                refine st_dec (fun c => ?_) fun c => ?_
                · walk_at "ds"
                  rw [decide_eq_true c, Bool.true_and] at q
                  exact q
                · rw [decide_eq_false c, Bool.false_and] at q
                  exact q
  | _ => walk_at "ds"; exact q

def T_move_between : TSD := (dSeq (dAsg (dTup (dCons (dCall (S_without) (dCons (dVar 2) (dCons (dVar 1) dNil))) (dCons (dCall (S_without) (dCons (dVar 1) (dCons (dVar 2) dNil))) dNil))) (dgName 3))
    (dRet (dIf (dTst (dCall (S_is_move) (dCons (dVar 0) (dCons (dVar 1) (dCons (dVar 3) dNil))))) (dVar 3) (dC .non))))

def S_move_between : SpD := fun ds ω R => ∃ (e : Int) (ws gs hs : List Int), ds = [.tup [.int e, .tup (ws.map D.int)], .tup (gs.map D.int), .tup (hs.map D.int)] ∧ GrpI ws.length gs ∧ GrpI ws.length hs ∧ ws.length ≤ 24 ∧ R (between e ws gs hs) ω
theorem ar_move_between : ∀ ds ω R, S_move_between ds ω R → ds.length = ["tower", "start", "goal"].length := by
  rintro ds ω R ⟨e, ws, gs, hs, rfl, _⟩
  rfl
theorem rd_move_between : ∀ ds ω R, S_move_between ds ω R → T_move_between { nx := fun _ ω' => R .non ω', rt := R } (startD ["tower", "start", "goal", "move"] ds) ω := by
  rintro ds ω R ⟨e, ws, gs, hs, rfl, hg, hh, wl, q⟩
  show T_move_between _ [some (.tup [.int e, .tup (ws.map D.int)]), some (.tup (gs.map D.int)), some (.tup (hs.map D.int)), none] ω
  unfold T_move_between
  have lg := hg.len
  have lh := hh.len
  walk_at "ds"
  refine ⟨hs, gs, rfl, by omega, ?_⟩
  walk_at "ds"
  refine ⟨gs, hs, rfl, by omega, ?_⟩
  walk_at "ds"
  refine ⟨e, ws, gs, _, rfl, by simp [D.okV, okVAll, okV_ints], wl, ?_⟩
  rw [mov_between hg hh]
  unfold between at q
  walk_at "ds"
  refine st_ite (fun c => ?_) fun c => ?_
  · walk_at "ds"
    rw [c] at q
    exact q
  · walk_at "ds"
    rw [c] at q
    exact q

def T_check_small : TSD := (dSeq (dAsg (dVar 0) (dgTup 2 (dgCons (dgName 1) (dgCons (dgName 2) dgNil))))
    (dIfS (dTst (dBin dGt (dCall dLen (dCons (dVar 2) dNil)) (dC (.int 8)))) dNever dNext))

def S_check_small : SpD := fun ds ω R => ∃ (e : D) (ws : List Int), ds = [.tup [e, .tup (ws.map D.int)]] ∧ ws.length ≤ 8 ∧ R .non ω
theorem ar_check_small : ∀ ds ω R, S_check_small ds ω R → ds.length = ["tower"].length := by
  rintro ds ω R ⟨e, ws, rfl, _⟩
  rfl
theorem rd_check_small : ∀ ds ω R, S_check_small ds ω R → T_check_small { nx := fun _ ω' => R .non ω', rt := R } (startD ["tower", "_", "weights"] ds) ω := by
  rintro ds ω R ⟨e, ws, rfl, hl, q⟩
  show T_check_small _ [some (.tup [e, .tup (ws.map D.int)]), none, none] ω
  unfold T_check_small
  walk_at "ds"
  rw [List.length_map]
  rw [decide_eq_false (by omega)]
  walk_at "ds"
  exact q

def T_groups_by_weight : TSD := (dSeq (dAsg (dVar 0) (dgTup 2 (dgCons (dgName 1) (dgCons (dgName 2) dgNil))))
    (dSeq (dAsg (dDicK (dC (.int 0)) (dTup dNil)) (dgName 3))
    (dSeq (dFor (dEnum (dCons (dVar 2) dNil)) (dgTup 2 (dgCons (dgName 4) (dgCons (dgName 5) dgNil))) (dSeq (dAsg (dItemsL (dVar 3)) (dgName 6))
    (dFor (dItems (dVar 6)) (dgTup 2 (dgCons (dgName 7) (dgCons (dgName 8) dgNil))) (dDrop (dSetd (dVar 3) (dBin dAdd (dVar 7) (dVar 5)) (dTup (dStar (dVar 8) (dCons (dVar 4) dNil))))))))
    (dRet (dVar 3)))))

/-- the dict of sums, each with a group -/
def gwK (l : List (Int × List Int)) : List (L2.Key × D) := l.map fun p => (.inl p.1, tupI p.2)
/-- what the dict holds of the first people -/
structure GwI (ws : List Int) (i : Nat) (l : List (Int × List Int)) : Prop where
  nd : (l.map (·.1)).Nodup
  ok : ∀ p ∈ l, GrpI i p.2 ∧ wt ws p.2 = p.1
  all : ∀ g, GrpI i g → wt ws g ∈ l.map (·.1)
/-- in the midst of a person: the first j entries have been seen -/
structure GwJ (ws : List Int) (i : Nat) (l : List (Int × List Int)) (j : Nat) (m : List (Int × List Int)) : Prop where
  nd : ((l ++ m).map (·.1)).Nodup
  ok : ∀ p ∈ m, GrpI (i + 1) p.2 ∧ wt ws p.2 = p.1
  got : ∀ k p, k < j → l[k]? = some p → p.1 + wAt ws i ∈ (l ++ m).map (·.1)
theorem gwK_keys (l : List (Int × List Int)) : (gwK l).map (·.1) = (l.map (·.1)).map Sum.inl := by
  unfold gwK
  rw [List.map_map, List.map_map]
  rfl
theorem gwK_look : ∀ (l : List (Int × List Int)) (s : Int), (s ∉ l.map (·.1) → lookI (gwK l) s = none) ∧ (∀ d, lookI (gwK l) s = some d → ∃ g, d = tupI g ∧ (s, g) ∈ l) ∧ (s ∈ l.map (·.1) → ∃ g, lookI (gwK l) s = some (tupI g) ∧ (s, g) ∈ l)
  | [], s => ⟨fun _ => rfl, fun _ h => (nomatch h), fun h => absurd h List.not_mem_nil⟩
  | (k, g) :: l, s => by
    obtain ⟨h1, h2, h3⟩ := gwK_look l s
    show (_ → lookI ((.inl k, tupI g) :: gwK l) s = none) ∧ (∀ d, lookI ((.inl k, tupI g) :: gwK l) s = some d → _) ∧ (_ → ∃ g', lookI ((.inl k, tupI g) :: gwK l) s = some (tupI g') ∧ _)
    unfold lookI
    by_cases c : k = s
    · subst c
      rw [if_pos rfl]
      exact ⟨fun n => (n (by simp)).elim, fun d e => by cases e; exact ⟨g, rfl, List.mem_cons_self⟩, fun _ => ⟨g, rfl, List.mem_cons_self⟩⟩
    · rw [if_neg (fun z => c (by cases z; rfl))]
      refine ⟨fun n => h1 fun z => n (List.mem_cons_of_mem _ z), fun d e => ?_, fun m => ?_⟩
      · obtain ⟨g', e1, e2⟩ := h2 d e
        exact ⟨g', e1, List.mem_cons_of_mem _ e2⟩
      · rcases List.mem_cons.mp m with z | z
        · exact (c z.symm).elim
        · obtain ⟨g', e1, e2⟩ := h3 z
          exact ⟨g', e1, List.mem_cons_of_mem _ e2⟩
theorem GwJ.len {ws : List Int} {i j : Nat} {l m : List (Int × List Int)} (h : GwJ ws i l j m) (h0 : GwI ws i l) : (l ++ m).length ≤ 2 ^ (i + 1) := by
  have z := List.Nodup.length_le_of_subset (l₁ := (l ++ m).map (·.1)) (l₂ := (allG (i + 1)).map (wt ws)) h.nd fun s hs => by
    obtain ⟨p, hp, rfl⟩ := List.mem_map.mp hs
    rcases List.mem_append.mp hp with y | y
    · obtain ⟨a, b⟩ := h0.ok p y
      exact List.mem_map.mpr ⟨p.2, grp_allG ⟨fun k hk => by have := a.1 k hk; omega, a.2⟩, b⟩
    · obtain ⟨a, b⟩ := h.ok p y
      exact List.mem_map.mpr ⟨p.2, grp_allG a, b⟩
  rw [List.length_map, List.length_map, allG_len] at z
  exact z
theorem GwI.start (ws : List Int) : GwI ws 0 [(0, [])] where
  nd := List.nodup_cons.mpr ⟨List.not_mem_nil, List.nodup_nil⟩
  ok := fun p hp => by
    rw [List.mem_singleton] at hp
    subst hp
    exact ⟨⟨fun _ h => (nomatch h), List.Pairwise.nil⟩, rfl⟩
  all := fun g hg => by
    have e : g = [] := by
      have := hg.len
      exact List.length_eq_zero_iff.mp (by omega)
    subst e
    exact List.mem_singleton.mpr rfl
theorem wt_snoc (ws g : List Int) (k : Int) : wt ws (g ++ [k]) = wt ws g + wAt ws k := by
  unfold wt wAt
  rw [List.map_append, List.sum_append]
  simp
theorem GwJ.next {ws : List Int} {i : Nat} {l m : List (Int × List Int)} (h0 : GwI ws i l) (h : GwJ ws i l l.length m) : GwI ws (i + 1) (l ++ m) where
  nd := h.nd
  ok := fun p hp => by
    rcases List.mem_append.mp hp with y | y
    · obtain ⟨a, b⟩ := h0.ok p y
      exact ⟨⟨fun k hk => by have := a.1 k hk; omega, a.2⟩, b⟩
    · exact h.ok p y
  all := fun g hg => by
    by_cases c : (i : Int) ∈ g
    · obtain ⟨g0, e⟩ : ∃ g0, g = g0 ++ [(i : Int)] := by
        cases hz : g.getLast? with
        | none => rw [List.getLast?_eq_none_iff] at hz; rw [hz] at c; cases c
        | some z =>
          obtain ⟨pre, ep⟩ := List.getLast?_eq_some_iff.mp hz
          rw [ep] at c hg ⊢
          have hp := List.pairwise_append.mp hg.2
          rcases List.mem_append.mp c with y | y
          · have := hp.2.2 _ y z (List.mem_singleton.mpr rfl)
            have := hg.1 z (List.mem_append_right _ (List.mem_singleton.mpr rfl))
            omega
          · rw [List.mem_singleton] at y
            exact ⟨pre, by rw [y]⟩
      subst e
      have hp := List.pairwise_append.mp hg.2
      have hg0 : GrpI i g0 := ⟨fun k hk => by
        have := hg.1 k (List.mem_append_left _ hk)
        have := hp.2.2 k hk i (List.mem_singleton.mpr rfl)
        omega, hp.1⟩
      obtain ⟨p, hpm, ep⟩ := List.mem_map.mp (h0.all g0 hg0)
      obtain ⟨j, hj, ej⟩ := List.mem_iff_getElem.mp hpm
      have z := h.got j p hj (by rw [List.getElem?_eq_getElem hj, ej])
      have ep : p.1 = wt ws g0 := ep
      rw [wt_snoc, ← ep]
      exact z
    · have g1 : GrpI i g := ⟨fun k hk => by
        have := hg.1 k hk
        have : k ≠ (i : Int) := fun z => c (z ▸ hk)
        omega, hg.2⟩
      rw [List.map_append]
      exact List.mem_append_left _ (h0.all g g1)
/-- the dict as the program fills it -/
def gwS (w : Int) (i : Nat) (l m : List (Int × List Int)) (q : Int × List Int) : List (Int × List Int) := if q.1 + w ∈ (l ++ m).map (·.1) then m else m ++ [(q.1 + w, q.2 ++ [(i : Int)])]
def gwN (ws : List Int) : Nat → List (Int × List Int)
  | 0 => [(0, [])]
  | i + 1 => gwN ws i ++ (gwN ws i).foldl (gwS (wAt ws i) i (gwN ws i)) []
theorem gwS_next {w : Int} {i j : Nat} {l m : List (Int × List Int)} {q : Int × List Int} (em : m = (l.take j).foldl (gwS w i l) []) (e : l[j]? = some q) : (l.take (j + 1)).foldl (gwS w i l) [] = gwS w i l m q := by
  rw [List.take_add_one, e, List.foldl_append, ← em]
  rfl
def S_groups_by_weight : SpD := fun ds ω R => ∃ (e : D) (ws : List Int), ds = [.tup [e, .tup (ws.map D.int)]] ∧ ws.length ≤ 8 ∧ ∀ (p : Addr) (l : List (Int × List Int)) ω', l = gwN ws ws.length → GwI ws ws.length l → ω' p = some (.dK (gwK l)) → ω p = none → Ext ω ω' → R (.raw (.ref p)) ω'
theorem ar_groups_by_weight : ∀ ds ω R, S_groups_by_weight ds ω R → ds.length = ["tower"].length := by
  rintro ds ω R ⟨e, ws, rfl, _⟩
  rfl
theorem rd_groups_by_weight : ∀ ds ω R, S_groups_by_weight ds ω R → T_groups_by_weight { nx := fun _ ω' => R .non ω', rt := R } (startD ["tower", "_", "weights", "groups", "person", "weight", "without_person", "total", "group"] ds) ω := by
  rintro ds ω R ⟨e, ws, rfl, hl, q⟩
  show T_groups_by_weight _ [some (.tup [e, .tup (ws.map D.int)]), none, none, none, none, none, none, none, none] ω
  unfold T_groups_by_weight
  walk_at "ds"
  intro p hp
  walk_at "ds"
  refine ⟨oset_same, ?_⟩
  walk_at "ds"
  have x0 : Ext ω (oset (oset ω p (.dK [])) p (.dK [(.inl 0, .tup [])])) := fun b hb => by
    have n2 : b ≠ p := fun e => hb (e ▸ hp)
    rw [oset_ne n2, oset_ne n2]
  have h0 : oset (oset ω p (.dK [])) p (.dK [(.inl 0, .tup [])]) p = some (.dK (gwK [(0, [])])) := oset_same
  generalize oset (oset ω p (.dK [])) p (.dK [(.inl 0, .tup [])]) = ω0 at x0 h0 ⊢
  have szb : 100000 ≤ sizeLine := by decide
  refine ⟨fun i ρ ω' => ∃ l, ∃ v4 v5 v6 v7 v8, ρ = [some (.tup [e, .tup (ws.map D.int)]), some e, some (.tup (ws.map D.int)), some (.raw (.ref p)), v4, v5, v6, v7, v8] ∧ i ≤ ws.length ∧ l = gwN ws i ∧ GwI ws i l ∧ ω' p = some (.dK (gwK l)) ∧ Ext ω ω', ⟨_, _, _, _, _, _, rfl, Nat.zero_le _, rfl, GwI.start ws, h0, x0⟩, fun _ _ _ _ => trivial, ?_, ?_⟩
  · rintro i d ρ ω1 ed ⟨l, v4, v5, v6, v7, v8, rfl, hi, el, gi, h1, x1⟩
    have li : i < ws.length := by
      have z := (List.getElem?_eq_some_iff.mp ed).1
      rw [enumD_len, List.length_map] at z
      exact z
    rw [enumD_get (d := .int ws[i]) (by rw [List.getElem?_map, List.getElem?_eq_getElem li]; rfl)] at ed
    cases ed
    have ewi : ws[i] = wAt ws i := by
      unfold wAt
      rw [Int.toNat_natCast, List.getD_eq_getElem?_getD, List.getElem?_eq_getElem li]
      rfl
    rw [ewi]
    walk_at "ds"
    refine ⟨p, gwK l, rfl, h1, ?_⟩
    walk_at "ds"
    have eg : (gwK l).map (fun q => D.tup [keyD q.1, q.2]) = l.map fun q => D.tup [.int q.1, tupI q.2] := by
      unfold gwK
      rw [List.map_map]
      rfl
    rw [eg]
    have p2 : 2 ^ (i + 1) ≤ 256 := Nat.le_trans (Nat.pow_le_pow_right (by decide) (show i + 1 ≤ 8 by omega)) (by decide)
    refine ⟨fun j ρ ω' => ∃ m, ∃ v7 v8, ρ = [some (.tup [e, .tup (ws.map D.int)]), some e, some (.tup (ws.map D.int)), some (.raw (.ref p)), some (.int i), some (.int (wAt ws i)), some (.lst (l.map fun q => D.tup [.int q.1, tupI q.2])), v7, v8] ∧ m = (l.take j).foldl (gwS (wAt ws i) i l) [] ∧ GwJ ws i l j m ∧ ω' p = some (.dK (gwK (l ++ m))) ∧ Ext ω ω', ⟨[], _, _, rfl, rfl, ⟨by rw [List.append_nil]; exact gi.nd, fun _ h => (nomatch h), fun k q h => absurd h (Nat.not_lt_zero _)⟩, by rw [List.append_nil]; exact h1, x1⟩, fun _ _ _ _ => trivial, ?_, ?_⟩
    · rintro j d ρ ω2 ed ⟨m, v7, v8, rfl, em, gj, h2, x2⟩
      obtain ⟨⟨s, g⟩, es, rfl⟩ : ∃ q, l[j]? = some q ∧ d = D.tup [.int q.1, tupI q.2] := by
        rw [List.getElem?_map] at ed
        cases y : l[j]? with
        | none => rw [y] at ed; cases ed
        | some w => rw [y] at ed; cases ed; exact ⟨w, rfl, rfl⟩
      obtain ⟨gg, gw⟩ := gi.ok _ (List.mem_of_getElem? es)
      have gl : g.length ≤ i := gg.len
      have lnn := gj.len gi
      walk_at "ds"
      refine ⟨p, rfl, ⟨_, h2⟩, ?_⟩
      walk_at "ds"
      refine ⟨g.map D.int, .inr rfl, ?_⟩
      walk_at "ds"
      have lz : (gwK (l ++ m)).length < sizeLine := by
        unfold gwK
        rw [List.length_map]
        omega
      refine ⟨by rw [List.length_append, List.length_map]; show _ + 1 ≤ _; omega, _, _, rfl, h2, lz, fun d hd => ?_, fun hn => ?_⟩
      · have hin : s + wAt ws i ∈ (l ++ m).map (·.1) := by
          obtain ⟨g', _, hm⟩ := (gwK_look (l ++ m) _).2.1 d hd
          exact List.mem_map.mpr ⟨_, hm, rfl⟩
        refine ⟨m, _, _, rfl, by rw [gwS_next em es]; unfold gwS; rw [if_pos hin], ⟨gj.nd, gj.ok, fun k q hk eq => ?_⟩, h2, x2⟩
        by_cases c : k < j
        · exact gj.got k q c eq
        · have : k = j := by omega
          subst this
          rw [es] at eq
          cases eq
          obtain ⟨g', _, hm⟩ := (gwK_look (l ++ m) _).2.1 d hd
          exact List.mem_map.mpr ⟨_, hm, rfl⟩
      · have nm : s + wAt ws i ∉ (l ++ m).map (·.1) := fun z => by
          obtain ⟨g', e1, _⟩ := (gwK_look (l ++ m) _).2.2 z
          rw [e1] at hn
          cases hn
        refine ⟨m ++ [(s + wAt ws i, g ++ [(i : Int)])], _, _, rfl, by rw [gwS_next em es]; unfold gwS; rw [if_neg nm], ⟨?_, fun q hq => ?_, fun k q hk eq => ?_⟩, ?_, fun b hb => ?_⟩
        · rw [← List.append_assoc, List.map_append]
          refine List.nodup_append.mpr ⟨gj.nd, List.nodup_cons.mpr ⟨List.not_mem_nil, List.nodup_nil⟩, fun a ha b hb => ?_⟩
          have hb : b = s + wAt ws i := List.mem_singleton.mp hb
          exact fun z => nm (by rw [← hb, ← z]; exact ha)
        · rcases List.mem_append.mp hq with z | z
          · exact gj.ok q z
          · rw [List.mem_singleton] at z
            subst z
            refine ⟨⟨fun k hk => ?_, List.pairwise_append.mpr ⟨gg.2, List.pairwise_singleton _ _, fun a ha b hb => ?_⟩⟩, ?_⟩
            · rcases List.mem_append.mp hk with y | y
              · have := gg.1 k y; omega
              · rw [List.mem_singleton] at y; omega
            · rw [List.mem_singleton] at hb
              have := gg.1 a ha
              omega
            · show wt ws (g ++ [(i : Int)]) = s + wAt ws i
              rw [wt_snoc, show wt ws g = s from gw]
        · rw [← List.append_assoc, List.map_append]
          by_cases c : k < j
          · exact List.mem_append_left _ (gj.got k q c eq)
          · have : k = j := by omega
            subst this
            rw [es] at eq
            cases eq
            exact List.mem_append_right _ (List.mem_singleton.mpr rfl)
        · rw [oset_same]
          show some (Cell.dK _) = some (Cell.dK _)
          unfold gwK
          rw [← List.append_assoc, List.map_append (l₁ := l ++ m)]
          show _ = some (Cell.dK (_ ++ [(.inl (s + wAt ws i), tupI (g ++ [(i : Int)]))]))
          unfold tupI
          rw [show (g ++ [(i : Int)]).map D.int = g.map D.int ++ [D.int i] from List.map_append]
        · rw [oset_ne (fun z => hb (by rw [z]; exact hp))]
          exact x2 b hb
    · rintro ρ ω2 ⟨m, v7, v8, rfl, em, gj, h2, x2⟩
      rw [List.length_map] at gj em
      rw [List.take_length] at em
      exact ⟨l ++ m, _, _, _, _, _, rfl, li, by rw [em, el]; rfl, gj.next gi, h2, x2⟩
  · rintro ρ ω1 ⟨l, v4, v5, v6, v7, v8, rfl, hi, el, gi, h1, x1⟩
    rw [enumD_len, List.length_map] at gi el
    walk_at "ds"
    exact q p l ω1 el gi h1 hp x1

def T_sums_of : TSD := (dSeq (dDrop (dCall (S_check_small) (dCons (dVar 0) dNil)))
    (dRet (dCall dTupOf (dCons (dCall dSortDK (dCons (dCall (S_groups_by_weight) (dCons (dVar 0) dNil)) dNil)) dNil))))

def S_sums_of : SpD := fun ds ω R => ∃ (e : D) (ws : List Int), ds = [.tup [e, .tup (ws.map D.int)]] ∧ ws.length ≤ 8 ∧ (∀ w ∈ ws, 1 ≤ w) ∧ ∀ ω', Ext ω ω' → R (.tup ((sumsL ws).map D.int)) ω'
theorem ar_sums_of : ∀ ds ω R, S_sums_of ds ω R → ds.length = ["tower"].length := by
  rintro ds ω R ⟨e, ws, rfl, _⟩
  rfl
theorem rd_sums_of : ∀ ds ω R, S_sums_of ds ω R → T_sums_of { nx := fun _ ω' => R .non ω', rt := R } (startD ["tower"] ds) ω := by
  rintro ds ω R ⟨e, ws, rfl, hl, h1, q⟩
  show T_sums_of _ [some (.tup [e, .tup (ws.map D.int)])] ω
  unfold T_sums_of
  walk_at "ds"
  refine ⟨e, ws, rfl, hl, ?_⟩
  walk_at "ds"
  refine ⟨e, ws, rfl, hl, fun p l ω' el gi hp np x => ?_⟩
  walk_at "ds"
  refine ⟨p, gwK l, l.map (·.1), rfl, hp, gwK_keys l, fun ys pm hs => ?_⟩
  walk_at "ds"
  have ey : ys = sumsL ws := by
    refine sums_eq h1 ?_ fun s => ?_
    · have nd : ys.Nodup := pm.nodup_iff.mpr gi.nd
      exact List.Pairwise.imp (fun {a b} h => by obtain ⟨h1, h2⟩ := h; omega) (List.Pairwise.and hs nd)
    · rw [pm.mem_iff]
      constructor
      · intro h
        obtain ⟨p, hp, rfl⟩ := List.mem_map.mp h
        exact ⟨p.2, gi.ok p hp⟩
      · rintro ⟨g, hg, rfl⟩
        exact gi.all g hg
  subst ey
  exact q ω' x

def T_sums_between : TSD := (dSeq (dAsg (dCall (S_weight_of) (dCons (dVar 0) (dCons (dVar 1) dNil))) (dgName 3))
    (dSeq (dAsg (dCall (S_weight_of) (dCons (dVar 0) (dCons (dVar 2) dNil))) (dgName 4))
    (dRet (dLc (dItems (dCall (S_sums_of) (dCons (dVar 0) dNil))) (dgName 5) (dTst (dChain dLe dLe (dVar 3) (dVar 5) (dVar 4))) (dVar 5) [5]))))

def S_sums_between : SpD := fun ds ω R => ∃ (e : D) (ws g h : List Int), ds = [.tup [e, .tup (ws.map D.int)], .tup (g.map D.int), .tup (h.map D.int)] ∧ ws.length ≤ 8 ∧ (∀ w ∈ ws, 1 ≤ w) ∧ GrpI ws.length g ∧ GrpI ws.length h ∧ ∀ ω', Ext ω ω' → R (.lst ((btw ws (wt ws g) (wt ws h)).map D.int)) ω'
theorem ar_sums_between : ∀ ds ω R, S_sums_between ds ω R → ds.length = ["tower", "start", "goal"].length := by
  rintro ds ω R ⟨e, ws, g, h, rfl, _⟩
  rfl
theorem rd_sums_between : ∀ ds ω R, S_sums_between ds ω R → T_sums_between { nx := fun _ ω' => R .non ω', rt := R } (startD ["tower", "start", "goal", "low", "high", "total"] ds) ω := by
  rintro ds ω R ⟨e, ws, g, h, rfl, hl, h1, hg, hh, q⟩
  show T_sums_between _ [some (.tup [e, .tup (ws.map D.int)]), some (.tup (g.map D.int)), some (.tup (h.map D.int)), none, none, none] ω
  unfold T_sums_between
  have gl := hg.len
  have hll := hh.len
  walk_at "ds"
  refine ⟨e, ws, g, rfl, hg.1, by omega, ?_⟩
  walk_at "ds"
  refine ⟨e, ws, h, rfl, hh.1, by omega, ?_⟩
  walk_at "ds"
  refine ⟨e, ws, rfl, hl, h1, fun ω' x => ?_⟩
  walk_at "ds"
  have sl := sumsL_len ws h1
  have p64 : 2 ^ ws.length ≤ 256 := Nat.le_trans (Nat.pow_le_pow_right (by decide) hl) (by decide)
  refine lc_fun (fun d => match d with | .int s => decide (wt ws g ≤ s) && decide (s ≤ wt ws h) | _ => false) id (by rw [List.length_map]; exact Nat.le_trans (m := 256) (by omega) (by decide)) trivial (fun d Z acc hd hac k1 k2 => ?_) ?_
  · obtain ⟨s, hs, rfl⟩ := List.mem_map.mp hd
    walk_at "ds"
    refine st_dec (fun c => ?_) fun c => ?_
    · walk_at "ds"
      refine st_dec (fun c2 => ?_) fun c2 => ?_
      · walk_at "ds"
        exact ⟨hac, k1 (by show (decide _ && decide _) = true; rw [decide_eq_true c, decide_eq_true c2]; rfl)⟩
      · walk_at "ds"
        exact k2 (by show (decide _ && decide _) = false; rw [decide_eq_false c2, Bool.and_false])
    · exact ⟨false, rfl, k2 (by show (decide _ && decide _) = false; rw [decide_eq_false c, Bool.false_and])⟩
  · rw [filt_mapI _ (fun s => decide (wt ws g ≤ s) && decide (s ≤ wt ws h)) (fun n => rfl)]
    walk_at "ds"
    exact q ω' x

def T_find_bar : TSD := (dSeq (dIfS (dTst (dBin dLe (dCall (S_weight_of) (dCons (dVar 0) (dCons (dVar 2) dNil))) (dCall (S_weight_of) (dCons (dVar 0) (dCons (dVar 1) dNil))))) (dRet (dTup (dCons (dC (.str "light")) dNil))) dNext)
    (dSeq (dAsg (dVar 0) (dgTup 2 (dgCons (dgName 3) (dgCons (dgName 4) dgNil))))
    (dSeq (dAsg (dCall (S_sums_between) (dCons (dVar 0) (dCons (dVar 1) (dCons (dVar 2) dNil)))) (dgName 5))
    (dSeq (dFor (dZipL (dCons (dVar 5) (dCons (dSl (dVar 5) (dPart (dC (.int 1))) dNoP) dNil))) (dgTup 2 (dgCons (dgName 6) (dgCons (dgName 7) dgNil))) (dIfS (dTst (dBin dGt (dBin dSub (dVar 7) (dVar 6)) (dVar 3))) (dRet (dTup (dCons (dC (.str "gap")) (dCons (dVar 6) (dCons (dVar 7) dNil))))) dNext))
    (dRet (dC .non))))))

/-- what find_bar hands back -/
def barD (x : Int) (ws : List Int) (lo hi : Int) : D := if hi ≤ lo then .tup [.str "light"] else match gapL x (btw ws lo hi) with
  | some p => .tup [.str "gap", .int p.1, .int p.2]
  | none => .non
def S_find_bar : SpD := fun ds ω R => ∃ (x : Int) (ws g h : List Int), ds = [.tup [.int x, .tup (ws.map D.int)], .tup (g.map D.int), .tup (h.map D.int)] ∧ ws.length ≤ 8 ∧ (∀ w ∈ ws, 1 ≤ w) ∧ GrpI ws.length g ∧ GrpI ws.length h ∧ ∀ ω', Ext ω ω' → R (barD x ws (wt ws g) (wt ws h)) ω'
theorem ar_find_bar : ∀ ds ω R, S_find_bar ds ω R → ds.length = ["tower", "start", "goal"].length := by
  rintro ds ω R ⟨e, ws, g, h, rfl, _⟩
  rfl
theorem rd_find_bar : ∀ ds ω R, S_find_bar ds ω R → T_find_bar { nx := fun _ ω' => R .non ω', rt := R } (startD ["tower", "start", "goal", "excess", "_", "sums", "low", "high"] ds) ω := by
  rintro ds ω R ⟨x, ws, g, h, rfl, hl, h1, hg, hh, q⟩
  show T_find_bar _ [some (.tup [.int x, .tup (ws.map D.int)]), some (.tup (g.map D.int)), some (.tup (h.map D.int)), none, none, none, none, none] ω
  unfold T_find_bar
  have gl := hg.len
  have hll := hh.len
  walk_at "ds"
  refine ⟨.int x, ws, h, rfl, hh.1, by omega, ?_⟩
  walk_at "ds"
  refine ⟨.int x, ws, g, rfl, hg.1, by omega, ?_⟩
  walk_at "ds"
  refine st_dec (fun c => ?_) fun c => ?_
  · walk_at "ds"
    have := q ω fun _ _ => rfl
    unfold barD at this
    rw [if_pos c] at this
    exact this
  · walk_at "ds"
    refine ⟨.int x, ws, g, h, rfl, hl, h1, hg, hh, fun ω' x1 => ?_⟩
    have q := q ω' x1
    unfold barD at q
    rw [if_neg c] at q
    generalize btw ws (wt ws g) (wt ws h) = l at q
    walk_at "ds"
    refine ⟨_, _, _, _, rfl, rfl, rfl, ?_⟩
    rw [zip_adj]
    refine ⟨fun i ρ ω2 => ω2 = ω' ∧ ∃ v4 v6 v7, ρ = [some (.tup [.int x, .tup (ws.map D.int)]), some (.tup (g.map D.int)), some (.tup (h.map D.int)), some (.int x), v4, some (.lst (l.map D.int)), v6, v7] ∧ gapL x l = ((adj l).drop i).find? fun p => decide (x < p.2 - p.1), ⟨rfl, _, _, _, rfl, rfl⟩, fun _ _ _ z => by rw [z.1]; exact ⟨rfl, rfl⟩, ?_, ?_⟩
    · rintro i d ρ ω2 ed ⟨rfl, v4, v6, v7, rfl, hi⟩
      obtain ⟨p, ep, rfl⟩ : ∃ w, (adj l)[i]? = some w ∧ d = pr2D w := by
        rw [List.getElem?_map] at ed
        cases y : (adj l)[i]? with
        | none => rw [y] at ed; cases ed
        | some w => rw [y] at ed; cases ed; exact ⟨w, rfl, rfl⟩
      rw [adj_drop ep] at hi
      show dgTup 2 _ (D.tup [.int p.1, .int p.2]) _ _ _
      walk_at "ds"
      refine st_dec (fun c => ?_) fun c => ?_
      · walk_at "ds"
        rw [List.find?_cons_of_pos (by simpa using c)] at hi
        rw [hi] at q
        exact q
      · walk_at "ds"
        rw [List.find?_cons_of_neg (by simpa using c)] at hi
        exact ⟨rfl, _, _, _, rfl, hi⟩
    · rintro ρ ω2 ⟨rfl, v4, v6, v7, rfl, hi⟩
      rw [List.length_map, List.drop_length] at hi
      rw [hi] at q
      walk_at "ds"
      exact q

def T_stops_between : TSD := (dSeq (dAsg (dVar 0) (dgTup 2 (dgCons (dgName 3) (dgCons (dgName 4) dgNil))))
    (dSeq (dAsg (dLstO (dCons (dCall (S_weight_of) (dCons (dVar 0) (dCons (dVar 1) dNil))) dNil)) (dgName 5))
    (dSeq (dAsg (dCall (S_sums_between) (dCons (dVar 0) (dCons (dVar 1) (dCons (dVar 2) dNil)))) (dgName 6))
    (dSeq (dFor (dZipL (dCons (dVar 6) (dCons (dSl (dVar 6) (dPart (dC (.int 1))) dNoP) dNil))) (dgTup 2 (dgCons (dgName 7) (dgCons (dgName 8) dgNil))) (dIfS (dTst (dBin dGt (dBin dSub (dVar 8) (dBin dIx (dVar 5) (dUn dNeg (dC (.int 1))))) (dVar 3))) (dDrop (dApp (dVar 5) (dVar 7))) dNext))
    (dRet (dSl (dVar 5) (dPart (dC (.int 1))) dNoP))))))

def S_stops_between : SpD := fun ds ω R => ∃ (x : Int) (ws g h : List Int), ds = [.tup [.int x, .tup (ws.map D.int)], .tup (g.map D.int), .tup (h.map D.int)] ∧ ws.length ≤ 8 ∧ (∀ w ∈ ws, 1 ≤ w) ∧ GrpI ws.length g ∧ GrpI ws.length h ∧ ∀ ω', Ext ω ω' → R (.lst ((grd x (wt ws g) (btw ws (wt ws g) (wt ws h))).map D.int)) ω'
theorem ar_stops_between : ∀ ds ω R, S_stops_between ds ω R → ds.length = ["tower", "start", "goal"].length := by
  rintro ds ω R ⟨e, ws, g, h, rfl, _⟩
  rfl
/-- the stops by the pairs of neighbours -/
def grdP (x : Int) : Int → List (Int × Int) → List Int
  | _, [] => []
  | last, p :: l => if x < p.2 - last then p.1 :: grdP x p.1 l else grdP x last l
theorem grd_pairs (x : Int) : ∀ (l : List Int) (last : Int), grd x last l = grdP x last (adj l)
  | [], _ => rfl
  | [_], _ => rfl
  | a :: b :: l, last => by
    rw [adj_cons]
    unfold grd grdP
    split
    · rw [grd_pairs x (b :: l)]
    · rw [grd_pairs x (b :: l)]
theorem rd_stops_between : ∀ ds ω R, S_stops_between ds ω R → T_stops_between { nx := fun _ ω' => R .non ω', rt := R } (startD ["tower", "start", "goal", "excess", "_", "stops", "sums", "total", "beyond"] ds) ω := by
  rintro ds ω R ⟨x, ws, g, h, rfl, hl, h1, hg, hh, q⟩
  show T_stops_between _ [some (.tup [.int x, .tup (ws.map D.int)]), some (.tup (g.map D.int)), some (.tup (h.map D.int)), none, none, none, none, none, none] ω
  unfold T_stops_between
  have gl := hg.len
  have hll := hh.len
  walk_at "ds"
  refine ⟨.int x, ws, g, rfl, hg.1, by omega, ?_⟩
  walk_at "ds"
  intro p hp
  walk_at "ds"
  refine ⟨.int x, ws, g, h, rfl, hl, h1, hg, hh, fun ω' x1 => ?_⟩
  have h2 : ω' p = some (.lst ([wt ws g].map D.int)) := (x1 p (by rw [oset_same]; exact fun z => nomatch z)).trans oset_same
  have x2 : Ext ω ω' := fun b hb => by
    have n2 : b ≠ p := fun e => hb (e ▸ hp)
    have := x1 b (by rw [oset_ne n2]; exact hb)
    rw [this, oset_ne n2]
  have sl := sumsL_len ws h1
  have p64 : 2 ^ ws.length ≤ 256 := Nat.le_trans (Nat.pow_le_pow_right (by decide) hl) (by decide)
  have bl : (btw ws (wt ws g) (wt ws h)).length ≤ 256 := Nat.le_trans (List.length_filter_le _ _) (by omega)
  rw [grd_pairs] at q
  generalize btw ws (wt ws g) (wt ws h) = l at q bl ⊢
  generalize wt ws g = lo at q h2 ⊢
  have szb : 1000 ≤ sizeLine := by decide
  have al : (adj l).length ≤ 256 := by
    unfold adj
    rw [List.length_zip]
    omega
  walk_at "ds"
  refine ⟨_, _, _, _, rfl, rfl, rfl, ?_⟩
  rw [zip_adj]
  refine ⟨fun i ρ ω2 => ∃ (st : List Int) (last : Int), ∃ v7 v8, ρ = [some (.tup [.int x, .tup (ws.map D.int)]), some (.tup (g.map D.int)), some (.tup (h.map D.int)), some (.int x), some (.tup (ws.map D.int)), some (.raw (.ref p)), some (.lst (l.map D.int)), v7, v8] ∧ ω2 p = some (.lst ((st ++ [last]).map D.int)) ∧ st.length ≤ i ∧ i ≤ 256 ∧ lo :: grdP x lo (adj l) = st ++ last :: grdP x last ((adj l).drop i) ∧ Ext ω ω2, ⟨[], lo, _, _, rfl, h2, by decide, by decide, rfl, x2⟩, fun _ _ _ _ => ⟨rfl, rfl⟩, ?_, ?_⟩
  · rintro i d ρ ω2 ed ⟨st, last, v7, v8, rfl, h3, sl, hi, hst, x3⟩
    obtain ⟨pr, ep, rfl⟩ : ∃ w, (adj l)[i]? = some w ∧ d = pr2D w := by
      rw [List.getElem?_map] at ed
      cases y : (adj l)[i]? with
      | none => rw [y] at ed; cases ed
      | some w => rw [y] at ed; cases ed; exact ⟨w, rfl, rfl⟩
    have li := (List.getElem?_eq_some_iff.mp ep).1
    rw [adj_drop ep] at hst
    show dgTup 2 _ (D.tup [.int pr.1, .int pr.2]) _ _ _
    walk_at "ds"
    refine st_ixO h3 (by rw [List.map_append]; exact atI_last) ?_
    walk_at "ds"
    rw [show grdP x last (pr :: (adj l).drop (i + 1)) = if x < pr.2 - last then pr.1 :: grdP x pr.1 ((adj l).drop (i + 1)) else grdP x last ((adj l).drop (i + 1)) from rfl] at hst
    refine st_dec (fun c => ?_) fun c => ?_
    · rw [if_pos c] at hst
      walk_at "ds"
      refine ⟨p, rfl, ⟨_, h3⟩, ?_⟩
      walk_at "ds"
      refine ⟨_, h3, by rw [List.length_map, List.length_append]; show _ + 1 < _; omega, ?_⟩
      refine ⟨st ++ [last], pr.1, _, _, rfl, by rw [oset_same, List.map_append (l₁ := st ++ [last])]; rfl, by rw [List.length_append]; show _ + 1 ≤ _; omega, by omega, ?_, fun b hb => ?_⟩
      · rw [hst, List.append_assoc]
        rfl
      · rw [oset_ne (fun z => hb (by rw [z]; exact hp))]
        exact x3 b hb
    · rw [if_neg c] at hst
      walk_at "ds"
      exact ⟨st, last, _, _, rfl, h3, by omega, by omega, hst, x3⟩
  · rintro ρ ω2 ⟨st, last, v7, v8, rfl, h3, sl, hi, hst, x3⟩
    rw [List.length_map, List.drop_length] at hst
    walk_at "ds"
    refine .inr ⟨_, lst_raw h3, ?_⟩
    have e : st ++ [last] = lo :: grdP x lo (adj l) := hst.symm
    rw [cut_from (by decide), e]
    exact q ω2 x3

def T_find_plan : TSD := (dSeq (dDrop (dCall (S_check_small) (dCons (dVar 0) dNil)))
    (dSeq (dIfS (dTst (dBin (dEq false) (dVar 1) (dVar 2))) (dRet (dTup dNil)) dNext)
    (dSeq (dIfS (dTst (dBin (dIsN true) (dCall (S_find_bar) (dCons (dVar 0) (dCons (dVar 1) (dCons (dVar 2) dNil)))) (dC .non))) (dRet (dC .non)) dNext)
    (dSeq (dAsg (dCall (S_groups_by_weight) (dCons (dVar 0) dNil)) (dgName 3))
    (dSeq (dAsg (dLst (dCons (dVar 1) (dStar (dLc (dItems (dCall (S_stops_between) (dCons (dVar 0) (dCons (dVar 1) (dCons (dVar 2) dNil))))) (dgName 5) dYes (dDGet (dVar 3) (dVar 5)) [5]) (dCons (dVar 2) dNil)))) (dgName 4))
    (dRet (dCall dTupOf (dCons (dLc (dZipL (dCons (dVar 4) (dCons (dSl (dVar 4) (dPart (dC (.int 1))) dNoP) dNil))) (dgTup 2 (dgCons (dgName 6) (dgCons (dgName 7) dgNil))) dYes (dCall (S_move_between) (dCons (dVar 0) (dCons (dVar 6) (dCons (dVar 7) dNil)))) [6, 7]) dNil))))))))

/-- a group of this weight, from the dict -/
def gOf : List (Int × List Int) → Int → List Int
  | [], _ => []
  | (k, g) :: l, s => if k = s then g else gOf l s
theorem gOf_look : ∀ {l : List (Int × List Int)} {s : Int}, s ∈ l.map (·.1) → lookI (gwK l) s = some (tupI (gOf l s)) ∧ (s, gOf l s) ∈ l
  | [], _, h => nomatch h
  | (k, g) :: l, s, h => by
    show lookI ((.inl k, tupI g) :: gwK l) s = _ ∧ _
    unfold lookI gOf
    by_cases c : k = s
    · subst c
      rw [if_pos rfl, if_pos rfl]
      exact ⟨rfl, List.mem_cons_self⟩
    · rw [if_neg (fun z => c (by cases z; rfl)), if_neg c]
      rcases List.mem_cons.mp h with z | z
      · exact (c z.symm).elim
      · obtain ⟨e1, e2⟩ := gOf_look z
        exact ⟨e1, List.mem_cons_of_mem _ e2⟩
/-- the row of groups that the program finds -/
def rowF (x : Int) (ws g h : List Int) : List (List Int) := if g = h then [g] else g :: ((grd x (wt ws g) (btw ws (wt ws g) (wt ws h))).map (gOf (gwN ws ws.length)) ++ [h])
def S_find_plan : SpD := fun ds ω R => ∃ (x : Int) (ws g h : List Int), ds = [.tup [.int x, .tup (ws.map D.int)], .tup (g.map D.int), .tup (h.map D.int)] ∧ ws.length ≤ 8 ∧ 0 ≤ x ∧ (∀ w ∈ ws, 1 ≤ w) ∧ GrpI ws.length g ∧ GrpI ws.length h ∧
  (fewN x ws g h = none → ∀ ω', Ext ω ω' → R .non ω') ∧ (∀ r, r = rowF x ws g h → Route x ws g h r → fewN x ws g h = some (r.length - 1) → r.length ≤ 300 → ∀ ω', Ext ω ω' → R (.tup ((mvsOf r).map mvD)) ω')
theorem ar_find_plan : ∀ ds ω R, S_find_plan ds ω R → ds.length = ["tower", "start", "goal"].length := by
  rintro ds ω R ⟨e, ws, g, h, rfl, _⟩
  rfl
theorem rd_find_plan : ∀ ds ω R, S_find_plan ds ω R → T_find_plan { nx := fun _ ω' => R .non ω', rt := R } (startD ["tower", "start", "goal", "groups", "route", "stop", "here", "there"] ds) ω := by
  rintro ds ω R ⟨x, ws, g, h, rfl, hl, x0, h1, hg, hh, qn, qs⟩
  show T_find_plan _ [some (.tup [.int x, .tup (ws.map D.int)]), some (.tup (g.map D.int)), some (.tup (h.map D.int)), none, none, none, none, none] ω
  unfold T_find_plan
  have gl := hg.len
  have hll := hh.len
  walk_at "ds"
  refine ⟨.int x, ws, rfl, hl, ?_⟩
  walk_at "ds"
  refine st_dec (fun c => ?_) fun c => ?_
  · walk_at "ds"
    subst c
    exact qs [g] (by unfold rowF; rw [if_pos rfl]) ⟨rfl, rfl, fun k hk => by rw [List.mem_singleton] at hk; rw [hk]; exact hg, trivial⟩ (by unfold fewN; rw [if_pos rfl]; rfl) (show 1 ≤ 300 by decide) ω fun _ _ => rfl
  · walk_at "ds"
    refine ⟨x, ws, g, h, rfl, hl, h1, hg, hh, fun ω1 x1 => ?_⟩
    by_cases le : wt ws h ≤ wt ws g
    · have eb : barD x ws (wt ws g) (wt ws h) = .tup [.str "light"] := by unfold barD; rw [if_pos le]
      rw [eb]
      walk_at "ds"
      rw [show isNonD (D.tup [.str "light"]) = false from rfl]
      walk_at "ds"
      exact qn (by unfold fewN; rw [if_neg c, if_pos le]) ω1 x1
    have slo : wt ws g ∈ sumsL ws := (mem_sumsL h1).mpr ⟨g, hg, rfl⟩
    have shi : wt ws h ∈ sumsL ws := (mem_sumsL h1).mpr ⟨h, hh, rfl⟩
    have efn : fewN x ws g h = fewW x ws (wt ws g) (wt ws h) := by unfold fewN; rw [if_neg c, if_neg le]
    cases hgap : gapL x (btw ws (wt ws g) (wt ws h)) with
    | some p =>
      have eb : barD x ws (wt ws g) (wt ws h) = .tup [.str "gap", .int p.1, .int p.2] := by unfold barD; rw [if_neg le, hgap]
      rw [eb]
      walk_at "ds"
      rw [show isNonD (D.tup [.str "gap", .int p.1, .int p.2]) = false from rfl]
      walk_at "ds"
      exact qn (by rw [efn]; unfold fewW; rw [hgap]; rfl) ω1 x1
    | none =>
      have eb : barD x ws (wt ws g) (wt ws h) = .non := by unfold barD; rw [if_neg le, hgap]
      rw [eb]
      walk_at "ds"
      rw [show isNonD D.non = true from rfl]
      walk_at "ds"
      refine ⟨.int x, ws, rfl, hl, fun p l ω2 eln gi hp2 np x2 => ?_⟩
      walk_at "ds"
      refine ⟨x, ws, g, h, rfl, hl, h1, hg, hh, fun ω3 x3 => ?_⟩
      have hp3 : ω3 p = some (.dK (gwK l)) := (x3 p (by rw [hp2]; exact fun z => nomatch z)).trans hp2
      have xa := x1.trans (x2.trans x3)
      obtain ⟨l0, el, eh⟩ := btw_ends slo shi (show wt ws g < wt ws h by omega)
      have hc := cons_btw (ws := ws) (lo := wt ws g) (hi := wt ws h)
      have sm : ∀ s ∈ grd x (wt ws g) (btw ws (wt ws g) (wt ws h)), s ∈ l.map (·.1) := fun s hs => by
        obtain ⟨g', hg', e'⟩ := (mem_sumsL h1).mp (mem_btw.mp (grd_mem hs)).1
        rw [← e']
        exact gi.all g' hg'
      have efw : fewN x ws g h = some ((grd x (wt ws g) (btw ws (wt ws g) (wt ws h))).length + 1) := by
        rw [efn]; unfold fewW; rw [hgap]; rfl
      have climb : ClimbI x (wt ws g :: (grd x (wt ws g) (btw ws (wt ws g) (wt ws h)) ++ [wt ws h])) := by
        rw [el] at hc hgap ⊢
        exact grd_climb hc (gapL_none.mp hgap) eh (by omega) (Int.le_refl _) (by omega)
      have sl := sumsL_len ws h1
      have p64 : 2 ^ ws.length ≤ 256 := Nat.le_trans (Nat.pow_le_pow_right (by decide) hl) (by decide)
      have bl : (grd x (wt ws g) (btw ws (wt ws g) (wt ws h))).length ≤ 256 := Nat.le_trans grd_len (Nat.le_trans (List.length_filter_le _ _) (by omega))
      generalize est : grd x (wt ws g) (btw ws (wt ws g) (wt ws h)) = st at sm efw climb bl ⊢
      have szb : 1000 ≤ sizeLine := by decide
      walk_at "ds"
      refine lc_fun (fun _ => true) (fun d => match d with | .int s => tupI (gOf l s) | _ => .non) (by rw [List.length_map]; omega) trivial (fun d Z acc hd hac k1 k2 => ?_) ?_
      · obtain ⟨s, hs, rfl⟩ := List.mem_map.mp hd
        walk_at "ds"
        refine ⟨p, s, _, _, rfl, rfl, hp3, (gOf_look (sm s hs)).1, ?_⟩
        exact ⟨hac, k1 rfl⟩
      have e2 : ((st.map D.int).filter fun _ => true).map (fun d => match d with | .int s => tupI (gOf l s) | _ => .non) = (st.map (gOf l)).map tupI := by
        rw [List.filter_eq_self.mpr fun _ _ => rfl, List.map_map, List.map_map]
        rfl
      rw [e2]
      walk_at "ds"
      have er : D.tup (g.map D.int) :: ((st.map (gOf l)).map tupI ++ [D.tup (h.map D.int)]) = (g :: (st.map (gOf l) ++ [h])).map tupI := by
        rw [List.map_cons, List.map_append]
        rfl
      rw [er]
      have rg : ∀ k ∈ g :: (st.map (gOf l) ++ [h]), GrpI ws.length k := fun k hk => by
        rcases List.mem_cons.mp hk with z | z
        · rw [z]; exact hg
        · rcases List.mem_append.mp z with y | y
          · obtain ⟨s, hs, rfl⟩ := List.mem_map.mp y
            exact (gi.ok _ (gOf_look (sm s hs)).2).1
          · rw [List.mem_singleton] at y
            rw [y]; exact hh
      have ru : Climb x ws (g :: (st.map (gOf l) ++ [h])) := by
        unfold Climb
        have ew : (g :: (st.map (gOf l) ++ [h])).map (wt ws) = wt ws g :: (st ++ [wt ws h]) := by
          rw [List.map_cons, List.map_append, List.map_map]
          have e3 : st.map (wt ws ∘ gOf l) = st := by
            conv => rhs; rw [← List.map_id st]
            exact List.map_congr_left fun s hs => (gi.ok _ (gOf_look (sm s hs)).2).2
          rw [e3]
          rfl
        rw [ew]
        exact climb
      have rt : Route x ws g h (g :: (st.map (gOf l) ++ [h])) := ⟨rfl, by rw [← List.cons_append, List.getLast?_append]; rfl, rg, ru⟩
      have rl : (g :: (st.map (gOf l) ++ [h])).length = st.length + 2 := by
        rw [List.length_cons, List.length_append, List.length_map]
        rfl
      have qf := qs _ (by unfold rowF; rw [if_neg c, est, eln]) rt (by rw [efw, rl]; rfl) (by rw [rl]; omega)
      generalize g :: (st.map (gOf l) ++ [h]) = r at rg ru rl qf ⊢
      refine ⟨by rw [List.length_map]; omega, ?_⟩
      walk_at "ds"
      refine ⟨_, _, _, _, rfl, rfl, rfl, ?_⟩
      rw [zip_groups]
      refine lc_fun (fun _ => true) (fun d => match d with | .tup [a, b] => mvD (mvAt (nums a) (nums b)) | _ => .non) (by rw [pairs_len]; omega) ⟨rfl, rfl⟩ (fun d Z acc hd hac k1 k2 => ?_) ?_
      · obtain ⟨a, b, rfl, ga, gb, c1, c2⟩ := pairs_mem ru rg d hd
        have k1 := k1 rfl
        rw [show (match D.tup [tupI a, tupI b] with | .tup [a, b] => mvD (mvAt (nums a) (nums b)) | _ => .non) = mvD (mvAt (nums (tupI a)) (nums (tupI b))) from rfl, show nums (tupI a) = a from nums_ints a, show nums (tupI b) = b from nums_ints b] at k1
        walk_at "ds"
        refine ⟨x, ws, a, b, rfl, ga, gb, by omega, ?_⟩
        rw [between_yes c1 c2]
        exact ⟨hac, k1⟩
      · rw [List.filter_eq_self.mpr fun _ _ => rfl, pairs_mvs _ fun a b => by
          show mvD (mvAt (nums (tupI a)) (nums (tupI b))) = _
          rw [show nums (tupI a) = a from nums_ints a, show nums (tupI b) = b from nums_ints b]]
        walk_at "ds"
        exact qf ω3 xa

def T_certificate : TSD := (dSeq (dAsg (dCall (S_find_plan) (dCons (dVar 0) (dCons (dVar 1) (dCons (dVar 2) dNil)))) (dgName 3))
    (dSeq (dIfS (dTst (dBin (dIsN false) (dVar 3) (dC .non))) (dRet (dCall (S_find_bar) (dCons (dVar 0) (dCons (dVar 1) (dCons (dVar 2) dNil))))) dNext)
    (dRet (dTup (dCons (dC (.str "plan")) (dCons (dVar 3) dNil))))))

def S_certificate : SpD := fun ds ω R => ∃ (x : Int) (ws g h : List Int), ds = [.tup [.int x, .tup (ws.map D.int)], .tup (g.map D.int), .tup (h.map D.int)] ∧ ws.length ≤ 8 ∧ 0 ≤ x ∧ (∀ w ∈ ws, 1 ≤ w) ∧ GrpI ws.length g ∧ GrpI ws.length h ∧
  (fewN x ws g h = none → ∀ ω', Ext ω ω' → R (barD x ws (wt ws g) (wt ws h)) ω') ∧ (∀ r, r = rowF x ws g h → Route x ws g h r → fewN x ws g h = some (r.length - 1) → r.length ≤ 300 → ∀ ω', Ext ω ω' → R (certD (.plan (.tup ((mvsOf r).map mvD)))) ω')
theorem ar_certificate : ∀ ds ω R, S_certificate ds ω R → ds.length = ["tower", "start", "goal"].length := by
  rintro ds ω R ⟨e, ws, g, h, rfl, _⟩
  rfl
theorem rd_certificate : ∀ ds ω R, S_certificate ds ω R → T_certificate { nx := fun _ ω' => R .non ω', rt := R } (startD ["tower", "start", "goal", "plan"] ds) ω := by
  rintro ds ω R ⟨x, ws, g, h, rfl, hl, x0, h1, hg, hh, qn, qs⟩
  show T_certificate _ [some (.tup [.int x, .tup (ws.map D.int)]), some (.tup (g.map D.int)), some (.tup (h.map D.int)), none] ω
  unfold T_certificate
  walk_at "ds"
  refine ⟨x, ws, g, h, rfl, hl, x0, h1, hg, hh, fun hn ω1 x1 => ?_, fun r er rt hr rl ω1 x1 => ?_⟩
  · walk_at "ds"
    rw [show isNonD D.non = true from rfl]
    walk_at "ds"
    exact ⟨x, ws, g, h, rfl, hl, h1, hg, hh, fun ω2 x2 => qn hn ω2 (x1.trans x2)⟩
  · walk_at "ds"
    rw [show isNonD (D.tup ((mvsOf r).map mvD)) = false from rfl]
    walk_at "ds"
    exact qs r er rt hr rl ω1 x1
/-- a certificate as it is handed back -/
def CertOk (x : Int) (ws g h : List Int) (v : D) : Prop := ∃ c s rest, v = certD c ∧ v = .tup (.str s :: rest) ∧ s = wordS x ws g h ∧ certB x ws g h c = true ∧ v.ok = true ∧ eqD v (.tup []) ∧ Shows v ∧ (match c with | .plan v => v.ok = true ∧ ∀ xs, v = .tup xs → xs.length ≤ 2000 | _ => True)

def T__law_deck : TSD := (dRet (dLstO (dCons (dLcO (dItems (dSl (dVar 0) dNoP (dPart (dC (.int 63))))) (dgName 1) dYes (dCall dAbs (dCons (dVar 1) dNil)) [1]) (dCons (dC (.int 0)) dNil))))

/-- what was owned besides the deck is as it was -/
def ExtA (a p : Addr) (ω ω' : Om) : Prop := ∀ b, b ≠ a → b ≠ p → ω b ≠ none → ω' b = ω b
theorem ExtA.cell {a p b : Addr} {ω ω' : Om} {c : Cell} (x : ExtA a p ω ω') (na : b ≠ a) (np : b ≠ p) (e : ω b = some c) : ω' b = some c := (x b na np (by rw [e]; exact fun z => nomatch z)).trans e
theorem ExtA.of {a p : Addr} {ω ω' : Om} (x : Ext ω ω') : ExtA a p ω ω' := fun b _ _ h => x b h
theorem ExtA.trans {a p : Addr} {ω ω1 ω2 : Om} (x : ExtA a p ω ω1) (y : ExtA a p ω1 ω2) : ExtA a p ω ω2 := fun b na np h => (y b na np (by rw [x b na np h]; exact h)).trans (x b na np h)
theorem ExtA.fr {a p : Addr} {ω ω' : Om} (h : ∀ b, b ≠ a → b ≠ p → ω' b = ω b) : ExtA a p ω ω' := fun b na np _ => h b na np
/-- the deck, and all else that was owned at the start -/
def DeckX (ω0 ω : Om) (a p : Addr) (N : Nat) : Prop := DeckW ω a p N ∧ ExtA a p ω0 ω
theorem DeckX.le {ω0 ω : Om} {a p : Addr} {N M : Nat} (h : DeckX ω0 ω a p N) (l : N ≤ M) : DeckX ω0 ω a p M := ⟨h.1.le l, h.2⟩
theorem DeckX.has {ω0 ω : Om} {a p b : Addr} {N : Nat} (h : DeckX ω0 ω a p N) (e : ω b = none) : b ≠ a ∧ b ≠ p := h.1.has e
theorem DeckX.free {ω0 ω : Om} {a p b : Addr} {N : Nat} (h : DeckX ω0 ω a p N) (e : ω b = none) : ω0 b = none := by
  obtain ⟨na, np⟩ := h.has e
  cases z : ω0 b with
  | none => rfl
  | some c =>
    have y := h.2.cell na np z
    rw [e] at y
    cases y
theorem DeckX.set {ω0 ω : Om} {a p b : Addr} {N : Nat} {c : Cell} (h : DeckX ω0 ω a p N) (na : b ≠ a) (np : b ≠ p) (f : ω0 b = none) : DeckX ω0 (oset ω b c) a p N := ⟨h.1.set na np, fun x xa xp hx => by
  rw [oset_ne fun e => hx (by rw [e]; exact f)]
  exact h.2 x xa xp hx⟩
theorem DeckX.go {ω0 ω ω' : Om} {a p : Addr} {N M : Nat} (h : DeckX ω0 ω a p N) (h2 : DeckX ω ω' a p M) : DeckX ω0 ω' a p M := ⟨h2.1, h.2.trans h2.2⟩
theorem st_drawX {ω0 ω : Om} {a p : Addr} {N : Nat} {k : Int} {Q : DQ} (d : DeckX ω0 ω a p N) (hN : N ≤ 2 ^ 40) (k0 : 0 < k) (k1 : k < 2 ^ 100) (h : ∀ (i : Int) ω', 0 ≤ i → i < k → DeckX ω0 ω' a p (N + 1) → Q (.int i) ω') : DrawS [.raw (.ref a), .int k] ω Q :=
  st_drawF d.1 hN k0 k1 fun i ω' h0 h1 d' f => h i ω' h0 h1 ⟨d', d.2.trans (ExtA.fr f)⟩
theorem st_drawFX {ω0 ω : Om} {a p : Addr} {N : Nat} {k : Int} {Q : DQ} (d : DeckX ω0 ω a p N) (hN : N ≤ 2 ^ 40) (k0 : 0 < k) (k1 : k < 2 ^ 100) (h : ∀ (i : Int) ω', 0 ≤ i → i < k → DeckX ω0 ω' a p (N + 1) → (∀ b, b ≠ a → b ≠ p → ω' b = ω b) → Q (.int i) ω') : DrawS [.raw (.ref a), .int k] ω Q :=
  st_drawF d.1 hN k0 k1 fun i ω' h0 h1 d' f => h i ω' h0 h1 ⟨d', d.2.trans (ExtA.fr f)⟩ f
def S__law_deck : SpD := fun ds ω R => ∃ ns : List Int, ds = [.lst (ns.map D.int)] ∧ ∀ a p ω', DeckX ω ω' a p 0 → ω a = none → ω p = none → R (.raw (.ref a)) ω'
theorem ar__law_deck : ∀ ds ω R, S__law_deck ds ω R → ds.length = ["script"].length := by
  rintro ds ω R ⟨ns, rfl, _⟩
  rfl
theorem rd__law_deck : ∀ ds ω R, S__law_deck ds ω R → T__law_deck { nx := fun _ ω' => R .non ω', rt := R } (startD ["script", "cell"] ds) ω := by
  rintro ds ω R ⟨ns, rfl, q⟩
  show T__law_deck _ [some (.lst (ns.map D.int)), none] ω
  unfold T__law_deck
  walk_at "ds"
  rw [cut_to (by decide)]
  have l63 : ((ns.map D.int).take (63 : Int).toNat).length ≤ 63 := by rw [List.length_take]; exact Nat.min_le_left _ _
  refine lc_map (fun _ y => ∃ i, y = .int i) (fun _ ω' => ω' = ω) rfl (fun _ _ _ => trivial) (Nat.le_trans l63 (by decide)) (fun i d ω' Z e hw k => ?_) fun acc ω' hl ha hw => ?_
  · subst hw
    have ed : ∃ i, d = .int i := by
      have := List.mem_of_mem_take (List.mem_of_getElem? e)
      obtain ⟨i, _, rfl⟩ := List.mem_map.mp this
      exact ⟨i, rfl⟩
    obtain ⟨i, rfl⟩ := ed
    show dgName 1 _ (wipeD [some (.lst (ns.map D.int)), none] [1]) _ _
    walk_at "ds"
    exact k _ _ ⟨_, rfl⟩ rfl
  · subst hw
    intro p hp
    walk_at "ds"
    intro a ha2
    obtain ⟨cells, rfl⟩ := ints_of (xs := acc) fun x hx => by
      obtain ⟨j, hj, ej⟩ := List.mem_iff_getElem.mp hx
      obtain ⟨_, _, h⟩ := ha j x (by rw [List.getElem?_eq_getElem hj, ej])
      exact h
    have nap : a ≠ p := fun z => by
      rw [z, oset_same] at ha2
      cases ha2
    have ha0 : ω' a = none := by rw [oset_ne nap] at ha2; exact ha2
    refine q a p _ ⟨⟨nap, cells, 0, oset_same, by rw [oset_ne (Ne.symm nap), oset_same], Nat.le_refl _, ?_⟩, fun b n1 n2 _ => by rw [oset_ne n1, oset_ne n2]⟩ ha0 hp
    rw [List.length_map] at hl
    omega

def T__law_draw : TSD := (dSeq (dAsg (dBin dAdd (dBin dIx (dVar 0) (dC (.int 1))) (dC (.int 1))) (dgSub (dVar 0) (dC (.int 1))))
    (dSeq (dAsg (dC (.int 0)) (dgName 2))
    (dSeq (dAsg (dUn dNeg (dC (.int 1))) (dgName 3))
    (dSeq (dIfS (dTst (dBin dGt (dCall dLen (dCons (dBin dIx (dVar 0) (dC (.int 0))) dNil)) (dC (.int 0)))) (dSeq (dAsg (dBin dMod (dBin dIx (dVar 0) (dC (.int 1))) (dCall dLen (dCons (dBin dIx (dVar 0) (dC (.int 0))) dNil))) (dgName 3))
    (dAsg (dBin dIx (dBin dIx (dVar 0) (dC (.int 0))) (dVar 3)) (dgName 2))) dNext)
    (dSeq (dIfS (dTst (dBin dGe (dVar 2) (dBin dPow (dC (.int 10)) (dC (.int 18))))) (dSeq (dAsg (dBin dFdv (dVar 2) (dVar 1)) (dgSub (dBin dIx (dVar 0) (dC (.int 0))) (dVar 3)))
    (dRet (dBin dMod (dVar 2) (dVar 1)))) dNext)
    (dRet (dBin dMod (dBin dMod (dBin dPow (dBin dAdd (dBin dAdd (dBin dMod (dVar 2) (dC (.int 2147483587))) (dBin dMul (dC (.int 7919)) (dBin dIx (dVar 0) (dC (.int 1))))) (dC (.int 1))) (dC (.int 5))) (dC (.int 2147483647))) (dVar 1))))))))

def S__law_draw : SpD := DrawS
theorem ar__law_draw : ∀ ds ω R, S__law_draw ds ω R → ds.length = ["deck", "many"].length := by
  rintro ds ω R ⟨a, p, N, k, rfl, _⟩
  rfl
theorem rd__law_draw : ∀ ds ω R, S__law_draw ds ω R → T__law_draw { nx := fun _ ω' => R .non ω', rt := R } (startD ["deck", "many", "cell", "place"] ds) ω := by
  rintro ds ω R ⟨a, p, N, k, rfl, k0, k1, ⟨nap, cells, n, ha, hp, hn, hl⟩, hN, q⟩
  show T__law_draw _ [some (.raw (.ref a)), some (.int k), none, none] ω
  unfold T__law_draw
  walk_at "ds"
  refine st_ixO ha atI_1 ?_
  walk_at "ds"
  refine st_gsub' ha (ixN_nat (by decide) (by simp only [List.length_cons, List.length_nil]; decide)) ?_
  -- the count is one more
  have e1 : (n : Int) + 1 = ((n + 1 : Nat) : Int) := by omega
  rw [e1]
  have ha1 : oset ω a (.lst ([D.raw (.ref p), D.int n].set (1 : Int).toNat (D.int ((n + 1 : Nat) : Int)))) a = some (.lst [.raw (.ref p), .int ((n + 1 : Nat) : Int)]) := oset_same
  have hp1 : oset ω a (.lst ([D.raw (.ref p), D.int n].set (1 : Int).toNat (D.int ((n + 1 : Nat) : Int)))) p = some (.lst (cells.map D.int)) := by rw [oset_ne (Ne.symm nap)]; exact hp
  have hb1 : ∀ b, b ≠ a → b ≠ p → oset ω a (.lst ([D.raw (.ref p), D.int n].set (1 : Int).toNat (D.int ((n + 1 : Nat) : Int)))) b = ω b := fun b h _ => oset_ne h
  generalize oset ω a (.lst ([D.raw (.ref p), D.int n].set (1 : Int).toNat (D.int ((n + 1 : Nat) : Int)))) = ω1 at ha1 hp1 hb1 ⊢
  have D1 : Deck ω1 a p (N + 1) := ⟨nap, cells, n + 1, ha1, hp1, by omega, hl⟩
  -- the last row, whatever the cell is
  have last : ∀ c i : D, ∀ x : Int, c = .int x → dRet (dBin dMod (dBin dMod (dBin dPow (dBin dAdd (dBin dAdd (dBin dMod (dVar 2) (dC (.int 2147483587))) (dBin dMul (dC (.int 7919)) (dBin dIx (dVar 0) (dC (.int 1))))) (dC (.int 1))) (dC (.int 5))) (dC (.int 2147483647))) (dVar 1))
      { nx := fun _ ω' => R .non ω', rt := R } [some (.raw (.ref a)), some (.int k), some c, some i] ω1 := by
    rintro c i x rfl
    walk_at "ds"
    refine st_mod (by decide) ?_
    walk_at "ds"
    refine st_ixO ha1 atI_1 ?_
    walk_at "ds"
    refine st_mulI (.inl (by decide)) ?_
    walk_at "ds"
    have m0 : 0 ≤ x % 2147483587 := Int.emod_nonneg _ (by decide)
    have m1 : x % 2147483587 < 2147483587 := Int.emod_lt_of_pos _ (by decide)
    refine st_pow (pow_lt64 (by omega) (by omega)) ?_
    walk_at "ds"
    refine st_mod (by decide) ?_
    walk_at "ds"
    refine st_mod k0 ?_
    exact q _ ω1 (Int.emod_nonneg _ (by omega)) (Int.emod_lt_of_pos _ k0) D1 hb1
  walk_at "ds"
  refine st_ixO ha1 atI_0 ?_
  walk_at "ds"
  refine st_lenO hp1 ?_
  walk_at "ds"
  rw [List.length_map]
  refine st_dec (fun hc => ?_) fun hc => ?_
  · -- a cell is taken
    walk_at "ds"
    refine st_ixO ha1 atI_1 ?_
    walk_at "ds"
    refine st_ixO ha1 atI_0 ?_
    walk_at "ds"
    refine st_lenO hp1 ?_
    rw [List.length_map]
    refine st_mod hc ?_
    have i0 : 0 ≤ ((n + 1 : Nat) : Int) % (cells.length : Int) := Int.emod_nonneg _ (by omega)
    have i1 : ((n + 1 : Nat) : Int) % (cells.length : Int) < (cells.length : Int) := Int.emod_lt_of_pos _ hc
    generalize ((n + 1 : Nat) : Int) % (cells.length : Int) = i at i0 i1
    walk_at "ds"
    refine st_ixO ha1 atI_0 ?_
    walk_at "ds"
    refine st_ixO hp1 (atI_nat i0 (by rw [List.length_map]; exact i1)) ?_
    rw [List.getElem_map]
    generalize cells[i.toNat] = x
    walk_at "ds"
    refine st_dec (fun hx => ?_) fun hx => ?_
    · walk_at "ds"
      refine st_fdv (divW k0 (by omega)) ?_
      walk_at "ds"
      refine st_ixO ha1 atI_0 ?_
      walk_at "ds"
      refine st_gsub' hp1 (ixN_nat i0 (by rw [List.length_map]; exact i1)) ?_
      walk_at "ds"
      refine st_mod k0 ?_
      refine q _ _ (Int.emod_nonneg _ (by omega)) (Int.emod_lt_of_pos _ k0) ⟨nap, cells.set i.toNat (x / k), n + 1, ?_, ?_, by omega, by rw [List.length_set]; exact hl⟩ fun b h1 h2 => ?_
      · rw [oset_ne nap]; exact ha1
      · rw [oset_same, List.map_set]
      · rw [oset_ne h2]; exact hb1 b h1 h2
    · exact last (.int x) (.int i) x rfl
  · walk_at "ds"
    refine st_dec (fun hx => ?_) fun hx => ?_
    · exact absurd hx (by decide)
    · exact last (.int 0) (.int (-1)) 0 rfl

def T__law_weight : TSD := (dSeq (dAsg (dCall dSumT (dCons (dVar 2) dNil)) (dgName 3))
    (dSeq (dAsg (dLst (dCons (dBin dAdd (dC (.int 1)) (dCall (S__law_draw) (dCons (dVar 0) (dCons (dC (.int 6)) dNil)))) (dCons (dBin dAdd (dVar 3) (dVar 1)) (dCons (dBin dAdd (dBin dAdd (dVar 3) (dVar 1)) (dC (.int 1))) (dCons (dBin dAdd (dC (.int 1)) (dCall (S__law_draw) (dCons (dVar 0) (dCons (dC (.int 40)) dNil)))) (dCons (dBin dSub (dVar 3) (dC (.int 1))) dNil)))))) (dgName 4))
    (dRet (dCall dMax2 (dCons (dC (.int 1)) (dCons (dCall dMin2 (dCons (dBin dPow (dC (.int 10)) (dC (.int 6))) (dCons (dBin dIx (dBin dAdd (dVar 4) (dLst (dCons (dBin dAdd (dC (.int 1)) (dCall (S__law_draw) (dCons (dVar 0) (dCons (dBin dPow (dC (.int 10)) (dC (.int 6))) dNil)))) dNil))) (dCall (S__law_draw) (dCons (dVar 0) (dCons (dC (.int 6)) dNil)))) dNil))) dNil))))))

def S__law_weight : SpD := fun ds ω R => ∃ (ω0 : Om) (a p : Addr) (N : Nat) (e : Int) (ws : List Int), ds = [.raw (.ref a), .int e, .tup (ws.map D.int)] ∧ DeckX ω0 ω a p N ∧ N ≤ 2 ^ 39 ∧ ws.length ≤ 1000 ∧
  ∀ (w : Int) ω', 1 ≤ w → w ≤ 1000000 → DeckX ω0 ω' a p (N + 4) → R (.int w) ω'
theorem ar__law_weight : ∀ ds ω R, S__law_weight ds ω R → ds.length = ["deck", "excess", "weights"].length := by
  rintro ds ω R ⟨ω0, a, p, N, e, ws, rfl, _⟩
  rfl
theorem rd__law_weight : ∀ ds ω R, S__law_weight ds ω R → T__law_weight { nx := fun _ ω' => R .non ω', rt := R } (startD ["deck", "excess", "weights", "total", "some"] ds) ω := by
  rintro ds ω R ⟨ω0, a, p, N, e, ws, rfl, hd, hN, hl, q⟩
  show T__law_weight _ [some (.raw (.ref a)), some (.int e), some (.tup (ws.map D.int)), none, none] ω
  unfold T__law_weight
  walk_at "ds"
  refine ⟨ws, rfl, ?_⟩
  walk_at "ds"
  refine st_drawX hd (by omega) (by decide) (by decide) fun i1 ω1 a0 a1 d1 => ?_
  walk_at "ds"
  refine st_drawX d1 (by omega) (by decide) (by decide) fun i2 ω2 b0 b1 d2 => ?_
  walk_at "ds"
  refine st_drawX d2 (by omega) (by decide) (by decide) fun i3 ω3 c0 c1 d3 => ?_
  walk_at "ds"
  refine st_addL (by simp only [List.length_cons, List.length_nil]; decide) ?_
  walk_at "ds"
  refine st_drawX d3 (by omega) (by decide) (by decide) fun i4 ω4 e0 e1 d4 => ?_
  walk_at "ds"
  refine st_pick (fun d => ∃ n, d = .int n) e0 (by simpa using e1) (all_cons ⟨_, rfl⟩ (all_cons ⟨_, rfl⟩ (all_cons ⟨_, rfl⟩ (all_cons ⟨_, rfl⟩ (all_cons ⟨_, rfl⟩ (all_cons ⟨_, rfl⟩ all_nil)))))) ?_
  rintro _ ⟨wn, rfl⟩
  walk_at "ds"
  generalize hnw : (if (if wn < 1000000 then wn else (1000000 : Int)) > 1 then (if wn < 1000000 then wn else (1000000 : Int)) else (1 : Int)) = nw
  have nb : 1 ≤ nw ∧ nw ≤ 1000000 := by
    rw [← hnw]
    constructor <;> (split <;> (try split) <;> omega)
  exact q nw ω4 nb.1 nb.2 d4

def T__law_tower : TSD := (dSeq (dPar 2 3 (dCons (dBin dAdd (dC (.int 1)) (dCall (S__law_draw) (dCons (dVar 0) (dCons (dBin dIx (dLst (dCons (dC (.int 3)) (dCons (dC (.int 20)) (dCons (dBin dPow (dC (.int 10)) (dC (.int 6))) dNil)))) (dCall (S__law_draw) (dCons (dVar 0) (dCons (dC (.int 3)) dNil)))) dNil)))) (dCons (dTup dNil) dNil)))
    (dSeq (dFor (dRng1 (dCons (dCall (S__law_draw) (dCons (dVar 0) (dCons (dBin dAdd (dVar 1) (dC (.int 1))) dNil))) dNil)) (dgName 4) (dSeq (dAsg (dCall (S__law_draw) (dCons (dVar 0) (dCons (dBin dAdd (dCall dLen (dCons (dVar 3) dNil)) (dC (.int 1))) dNil))) (dgName 5))
    (dAsg (dBin dAdd (dBin dAdd (dSl (dVar 3) dNoP (dPart (dVar 5))) (dTup (dCons (dCall (S__law_weight) (dCons (dVar 0) (dCons (dVar 2) (dCons (dVar 3) dNil)))) dNil))) (dSl (dVar 3) (dPart (dVar 5)) dNoP)) (dgName 3))))
    (dRet (dTup (dCons (dVar 2) (dCons (dVar 3) dNil))))))

def S__law_tower : SpD := fun ds ω R => ∃ (ω0 : Om) (a p : Addr) (N : Nat) (most : Int), ds = [.raw (.ref a), .int most] ∧ DeckX ω0 ω a p N ∧ N ≤ 2 ^ 38 ∧ 0 ≤ most ∧ most ≤ 24 ∧
  ∀ (e : Int) (ws : List Int) ω', 1 ≤ e → e ≤ 1000000 → (ws.length : Int) ≤ most → (∀ w ∈ ws, 1 ≤ w ∧ w ≤ 1000000) → DeckX ω0 ω' a p (N + 200) → R (.tup [.int e, .tup (ws.map D.int)]) ω'
theorem ar__law_tower : ∀ ds ω R, S__law_tower ds ω R → ds.length = ["deck", "most"].length := by
  rintro ds ω R ⟨ω0, a, p, N, most, rfl, _⟩
  rfl
theorem rd__law_tower : ∀ ds ω R, S__law_tower ds ω R → T__law_tower { nx := fun _ ω' => R .non ω', rt := R } (startD ["deck", "most", "excess", "weights", "k", "at"] ds) ω := by
  rintro ds ω R ⟨ω0, a, p, N, most, rfl, hd, hN, m0, m1, q⟩
  show T__law_tower _ [some (.raw (.ref a)), some (.int most), none, none, none, none] ω
  unfold T__law_tower
  walk_at "ds"
  refine st_drawX hd (by omega) (by decide) (by decide) fun c ω1 c0 c1 d1 => ?_
  refine st_pick (fun d => ∃ n, d = .int n ∧ 1 ≤ n ∧ n ≤ 1000000) c0 (by simpa using c1) (all_cons ⟨3, rfl, by decide, by decide⟩ (all_cons ⟨20, rfl, by decide, by decide⟩ (all_cons ⟨_, rfl, by decide, by decide⟩ all_nil))) ?_
  rintro _ ⟨n, rfl, n1, n2⟩
  walk_at "ds"
  refine st_drawX d1 (by omega) (by omega) (by omega) fun x ω2 x0 x1 d2 => ?_
  walk_at "ds"
  refine st_drawX d2 (by omega) (by omega) (by omega) fun cnt ω3 k0 k1 d3 => ?_
  walk_at "ds"
  refine st_rng1' (by omega) (by omega) ?_
  refine ⟨fun i ρ ω' => ∃ v4 v5, ∃ fs : List Int, ρ = [some (.raw (.ref a)), some (.int most), some (.int (1 + x)), some (.tup (fs.map D.int)), v4, v5] ∧ (i : Int) ≤ cnt ∧ fs.length = i ∧ (∀ w ∈ fs, 1 ≤ w ∧ w ≤ 1000000) ∧ DeckX ω0 ω' a p (N + 3 + 5 * i), ⟨_, _, [], rfl, k0, rfl, fun _ h => (nomatch h), d3⟩, fun _ _ _ _ => trivial, ?_, ?_⟩
  · rintro i d ρ ω6 ed ⟨v4, v5, fs, rfl, hi, fl, hfs, d6⟩
    have li : (i : Int) < cnt := by
      have z := (List.getElem?_eq_some_iff.mp ed).1
      rw [rngD_len] at z
      omega
    walk_at "ds"
    rw [List.length_map]
    refine st_drawX d6 (by omega) (by omega) (by omega) fun j ω7 j0 j1 d7 => ?_
    walk_at "ds"
    rw [cut_to j0]
    refine ⟨ω0, a, p, _, 1 + x, fs, rfl, d7, by omega, by omega, fun w ω8 w0 w1 d8 => ?_⟩
    walk_at "ds"
    refine st_addT (size100 (by simp only [List.length_cons, List.length_nil, List.length_take, List.length_map]; omega)) ?_
    walk_at "ds"
    rw [cut_from j0]
    refine st_addT (size100 (by simp only [List.length_append, List.length_cons, List.length_nil, List.length_take, List.length_drop, List.length_map]; omega)) ?_
    walk_at "ds"
    rw [show List.take j.toNat (fs.map D.int) ++ [D.int w] ++ List.drop j.toNat (fs.map D.int) = (fs.take j.toNat ++ w :: fs.drop j.toNat).map D.int by simp [List.map_take, List.map_drop]]
    refine ⟨_, _, fs.take j.toNat ++ w :: fs.drop j.toNat, rfl, by omega, ?_, fun u hu => ?_, d8.le (by omega)⟩
    · simp only [List.length_append, List.length_cons, List.length_take, List.length_drop]
      omega
    · rcases List.mem_append.mp hu with z | z
      · exact hfs u (List.mem_of_mem_take z)
      · rcases List.mem_cons.mp z with z | z
        · omega
        · exact hfs u (List.mem_of_mem_drop z)
  · rintro ρ ω6 ⟨v4, v5, fs, rfl, hi, fl, hfs, d6⟩
    rw [rngD_len] at fl hi d6
    walk_at "ds"
    exact q (1 + x) fs ω6 (by omega) (by omega) (by omega) hfs (d6.le (by omega))

def T__law_edit : TSD := (dSeq (dAsg (dVar 1) (dgTup 2 (dgCons (dgName 2) (dgCons (dgName 3) dgNil))))
    (dSeq (dAsg (dCall (S__law_draw) (dCons (dVar 0) (dCons (dC (.int 7)) dNil))) (dgName 4))
    (dSeq (dIfS (dOrT (dTst (dBin (dEq false) (dVar 4) (dC (.int 0)))) (dAndT (dTst (dBin (dEq false) (dVar 3) (dTup dNil))) (dTst (dBin dLt (dVar 4) (dC (.int 3)))))) (dSeq (dAsg (dLst (dCons (dBin dAdd (dC (.int 1)) (dCall (S__law_draw) (dCons (dVar 0) (dCons (dC (.int 9)) dNil)))) (dCons (dCall dMin2 (dCons (dBin dPow (dC (.int 10)) (dC (.int 6))) (dCons (dBin dAdd (dVar 2) (dC (.int 1))) dNil))) (dCons (dCall dMax2 (dCons (dC (.int 1)) (dCons (dBin dSub (dVar 2) (dC (.int 1))) dNil))) dNil)))) (dgName 5))
    (dRet (dTup (dCons (dC (.str "loosen")) (dCons (dBin dIx (dVar 5) (dCall (S__law_draw) (dCons (dVar 0) (dCons (dC (.int 3)) dNil)))) dNil))))) dNext)
    (dSeq (dIfS (dOrT (dTst (dBin (dEq false) (dVar 4) (dC (.int 1)))) (dAndT (dTst (dBin (dEq false) (dCall dLen (dCons (dVar 3) dNil)) (dC (.int 24)))) (dTst (dBin dGt (dVar 4) (dC (.int 2)))))) (dRet (dTup (dCons (dC (.str "leave")) (dCons (dCall (S__law_draw) (dCons (dVar 0) (dCons (dCall dLen (dCons (dVar 3) dNil)) dNil))) dNil)))) dNext)
    (dSeq (dIfS (dTst (dBin (dEq false) (dVar 4) (dC (.int 2)))) (dRet (dTup (dCons (dC (.str "weigh")) (dCons (dCall (S__law_draw) (dCons (dVar 0) (dCons (dCall dLen (dCons (dVar 3) dNil)) dNil))) (dCons (dCall (S__law_weight) (dCons (dVar 0) (dCons (dVar 2) (dCons (dVar 3) dNil)))) dNil))))) dNext)
    (dRet (dTup (dCons (dC (.str "come")) (dCons (dCall (S__law_weight) (dCons (dVar 0) (dCons (dVar 2) (dCons (dVar 3) dNil)))) dNil)))))))))

def S__law_edit : SpD := fun ds ω R => ∃ (ω0 : Om) (a p : Addr) (N : Nat) (e : Int) (ws : List Int), ds = [.raw (.ref a), towD e ws] ∧ DeckX ω0 ω a p N ∧ N ≤ 2 ^ 38 ∧ TowOk e ws ∧
  ∀ (d : Ed) ω', d.can ws → DeckX ω0 ω' a p (N + 10) → R d.d ω'
theorem ar__law_edit : ∀ ds ω R, S__law_edit ds ω R → ds.length = ["deck", "tower"].length := by
  rintro ds ω R ⟨ω0, a, p, N, e, ws, rfl, _⟩
  rfl
theorem rd__law_edit : ∀ ds ω R, S__law_edit ds ω R → T__law_edit { nx := fun _ ω' => R .non ω', rt := R } (startD ["deck", "tower", "excess", "weights", "way", "near"] ds) ω := by
  rintro ds ω R ⟨ω0, a, p, N, e, ws, rfl, hd, hN, ht, q⟩
  obtain ⟨e0, e1, wl, hw⟩ := ht
  show T__law_edit _ [some (.raw (.ref a)), some (towD e ws), none, none, none, none] ω
  unfold T__law_edit
  walk_at "ds"
  refine st_drawX hd (by omega) (by decide) (by decide) fun way ω1 w0 w1 d1 => ?_
  walk_at "ds"
  refine st_dec (fun c0 => ?_) fun c0 => ?_
  · walk_at "ds"
    refine st_drawX d1 (by omega) (by decide) (by decide) fun i ω2 i0 i1 d2 => ?_
    walk_at "ds"
    refine st_drawX d2 (by omega) (by decide) (by decide) fun j ω3 j0 j1 d3 => ?_
    refine st_pick (fun d => ∃ n, d = .int n ∧ 1 ≤ n ∧ n ≤ 1000000) j0 (by simpa using j1) (all_cons ⟨_, rfl, by omega, by omega⟩ (all_cons ⟨_, rfl, by split <;> omega, by split <;> omega⟩ (all_cons ⟨_, rfl, by split <;> omega, by split <;> omega⟩ all_nil))) ?_
    rintro _ ⟨n, rfl, n0, n1⟩
    walk_at "ds"
    exact q (.loosen n) ω3 ⟨n0, n1⟩ (d3.le (by omega))
  · walk_at "ds"
    refine st_eqIntsT (ms := []) ?_
    walk_at "ds"
    rw [if_neg (show ¬ (false = true) by decide)]
    refine st_dec (fun cn => ?_) fun cn => ?_
    · walk_at "ds"
      refine st_dec (fun c3 => ?_) fun c3 => ?_
      · walk_at "ds"
        refine st_drawX d1 (by omega) (by decide) (by decide) fun i ω2 i0 i1 d2 => ?_
        walk_at "ds"
        refine st_drawX d2 (by omega) (by decide) (by decide) fun j ω3 j0 j1 d3 => ?_
        refine st_pick (fun d => ∃ n, d = .int n ∧ 1 ≤ n ∧ n ≤ 1000000) j0 (by simpa using j1) (all_cons ⟨_, rfl, by omega, by omega⟩ (all_cons ⟨_, rfl, by split <;> omega, by split <;> omega⟩ (all_cons ⟨_, rfl, by split <;> omega, by split <;> omega⟩ all_nil))) ?_
        rintro _ ⟨n, rfl, n0, n1⟩
        walk_at "ds"
        exact q (.loosen n) ω3 ⟨n0, n1⟩ (d3.le (by omega))
      · have cz : ws ≠ [] ∨ 3 ≤ way := .inr (by omega)
        walk_at "ds"
        refine st_dec (fun c1 => ?_) fun c1 => ?_
        · have wn : ws ≠ [] := cz.elim id fun z => by omega
          have wn := List.length_pos_iff.mpr wn
          walk_at "ds"
          rw [List.length_map]
          refine st_drawX d1 (by omega) (by omega) (by omega) fun i ω2 i0 i1 d2 => ?_
          walk_at "ds"
          exact q (.leave i) ω2 ⟨i0, i1⟩ (d2.le (by omega))
        · walk_at "ds"
          rw [List.length_map]
          refine st_dec (fun c2 => ?_) fun c2 => ?_
          · walk_at "ds"
            refine st_dec (fun c3 => ?_) fun c3 => ?_
            · walk_at "ds"
              rw [List.length_map]
              refine st_drawX d1 (by omega) (by omega) (by omega) fun i ω2 i0 i1 d2 => ?_
              walk_at "ds"
              exact q (.leave i) ω2 ⟨i0, i1⟩ (d2.le (by omega))
            · walk_at "ds"
              refine st_dec (fun c4 => ?_) fun c4 => ?_
              · have wn : 0 < ws.length := by omega
                walk_at "ds"
                rw [List.length_map]
                refine st_drawX d1 (by omega) (by omega) (by omega) fun i ω2 i0 i1 d2 => ?_
                walk_at "ds"
                refine ⟨ω0, a, p, _, e, ws, rfl, d2, by omega, by omega, fun w ω3 w0 w1 d3 => ?_⟩
                walk_at "ds"
                exact q (.weigh i w) ω3 ⟨i0, i1, w0, w1⟩ (d3.le (by omega))
              · exact (by omega : False).elim
          · walk_at "ds"
            refine st_dec (fun c4 => ?_) fun c4 => ?_
            · have wn : ws ≠ [] := cz.elim id fun z => by omega
              have wn := List.length_pos_iff.mpr wn
              walk_at "ds"
              rw [List.length_map]
              refine st_drawX d1 (by omega) (by omega) (by omega) fun i ω2 i0 i1 d2 => ?_
              walk_at "ds"
              refine ⟨ω0, a, p, _, e, ws, rfl, d2, by omega, by omega, fun w ω3 w0 w1 d3 => ?_⟩
              walk_at "ds"
              exact q (.weigh i w) ω3 ⟨i0, i1, w0, w1⟩ (d3.le (by omega))
            · walk_at "ds"
              refine ⟨ω0, a, p, _, e, ws, rfl, d1, by omega, by omega, fun w ω3 w0 w1 d3 => ?_⟩
              walk_at "ds"
              exact q (.come w) ω3 ⟨w0, w1, by omega⟩ (d3.le (by omega))
    · have cz : ws ≠ [] ∨ 3 ≤ way := .inl cn
      walk_at "ds"
      refine st_dec (fun c1 => ?_) fun c1 => ?_
      · have wn : ws ≠ [] := cz.elim id fun z => by omega
        have wn := List.length_pos_iff.mpr wn
        walk_at "ds"
        rw [List.length_map]
        refine st_drawX d1 (by omega) (by omega) (by omega) fun i ω2 i0 i1 d2 => ?_
        walk_at "ds"
        exact q (.leave i) ω2 ⟨i0, i1⟩ (d2.le (by omega))
      · walk_at "ds"
        rw [List.length_map]
        refine st_dec (fun c2 => ?_) fun c2 => ?_
        · walk_at "ds"
          refine st_dec (fun c3 => ?_) fun c3 => ?_
          · walk_at "ds"
            rw [List.length_map]
            refine st_drawX d1 (by omega) (by omega) (by omega) fun i ω2 i0 i1 d2 => ?_
            walk_at "ds"
            exact q (.leave i) ω2 ⟨i0, i1⟩ (d2.le (by omega))
          · walk_at "ds"
            refine st_dec (fun c4 => ?_) fun c4 => ?_
            · have wn : 0 < ws.length := by omega
              walk_at "ds"
              rw [List.length_map]
              refine st_drawX d1 (by omega) (by omega) (by omega) fun i ω2 i0 i1 d2 => ?_
              walk_at "ds"
              refine ⟨ω0, a, p, _, e, ws, rfl, d2, by omega, by omega, fun w ω3 w0 w1 d3 => ?_⟩
              walk_at "ds"
              exact q (.weigh i w) ω3 ⟨i0, i1, w0, w1⟩ (d3.le (by omega))
            · exact (by omega : False).elim
        · walk_at "ds"
          refine st_dec (fun c4 => ?_) fun c4 => ?_
          · have wn : ws ≠ [] := cz.elim id fun z => by omega
            have wn := List.length_pos_iff.mpr wn
            walk_at "ds"
            rw [List.length_map]
            refine st_drawX d1 (by omega) (by omega) (by omega) fun i ω2 i0 i1 d2 => ?_
            walk_at "ds"
            refine ⟨ω0, a, p, _, e, ws, rfl, d2, by omega, by omega, fun w ω3 w0 w1 d3 => ?_⟩
            walk_at "ds"
            exact q (.weigh i w) ω3 ⟨i0, i1, w0, w1⟩ (d3.le (by omega))
          · walk_at "ds"
            refine ⟨ω0, a, p, _, e, ws, rfl, d1, by omega, by omega, fun w ω3 w0 w1 d3 => ?_⟩
            walk_at "ds"
            exact q (.come w) ω3 ⟨w0, w1, by omega⟩ (d3.le (by omega))

def T_Hoist__check_idle : DXS → TSD := fun RX => (dIfS (dTst (dFld "Hoist" "_watched" (dVar 0))) dNever dNext)

def S_Hoist__check_idle : SpDX := fun ds ω R RX => ∃ (x dx : Addr) (ts es : List D) (t : D), ds = [.raw (.ref x)] ∧ ω x = some (.ins (Ers.ad "Hoist") dx (hoF (ts ++ [t]) es)) ∧ R .non ω
theorem ar_Hoist__check_idle : ∀ ds ω R RX, S_Hoist__check_idle ds ω R RX → ds.length = ["self"].length := by
  rintro ds ω R RX ⟨x, dx, ts, es, t, rfl, _⟩
  rfl
theorem rd_Hoist__check_idle : ∀ ds ω R RX, S_Hoist__check_idle ds ω R RX → T_Hoist__check_idle (noS RX) { nx := fun _ ω' => R .non ω', rt := R } (startD ["self"] ds) ω := by
  rintro ds ω R RX ⟨x, dx, ts, es, t, rfl, hx, q⟩
  show T_Hoist__check_idle _ _ [some (.raw (.ref x))] ω
  unfold T_Hoist__check_idle
  walk_at "ds"
  refine ⟨_, _, .own hx, rfl, ?_⟩
  walk_at "ds"
  exact q

def T_Hoist__check_edit : DXS → TSD := fun RX => (dSeq (dDrop (dMeth "Hoist" "_check_idle" S_Hoist__check_idle RX (dVar 0) dNil))
    (dIfS (dTst (dBin (dEq false) (dCall dLen (dCons (dFld "Hoist" "_edits" (dVar 0)) dNil)) (dC (.int 60)))) dNever dNext))

def S_Hoist__check_edit : SpDX := fun ds ω R RX => ∃ (x dx : Addr) (ts es : List D) (t : D), ds = [.raw (.ref x)] ∧ ω x = some (.ins (Ers.ad "Hoist") dx (hoF (ts ++ [t]) es)) ∧ es.length < 60 ∧ R .non ω
theorem ar_Hoist__check_edit : ∀ ds ω R RX, S_Hoist__check_edit ds ω R RX → ds.length = ["self"].length := by
  rintro ds ω R RX ⟨x, dx, ts, es, t, rfl, _⟩
  rfl
theorem rd_Hoist__check_edit : ∀ ds ω R RX, S_Hoist__check_edit ds ω R RX → T_Hoist__check_edit (noS RX) { nx := fun _ ω' => R .non ω', rt := R } (startD ["self"] ds) ω := by
  rintro ds ω R RX ⟨x, dx, ts, es, t, rfl, hx, hl, q⟩
  show T_Hoist__check_edit _ _ [some (.raw (.ref x))] ω
  unfold T_Hoist__check_edit
  walk_at "ds"
  refine ⟨⟨_, .own hx, rfl⟩, x, dx, ts, es, t, rfl, hx, ?_⟩
  walk_at "ds"
  refine ⟨_, _, .own hx, rfl, ?_⟩
  walk_at "ds"
  refine st_dec (fun c => (by omega : False).elim) fun c => ?_
  exact q

def T_Hoist__check_tower : DXS → TSD := fun RX => dNext

def S_Hoist__check_tower : SpDX := fun ds ω R RX => ∃ y z, ds = [y, z] ∧ R .non ω
theorem ar_Hoist__check_tower : ∀ ds ω R RX, S_Hoist__check_tower ds ω R RX → ds.length = ["self", "tower"].length := by
  rintro ds ω R RX ⟨y, z, rfl, _⟩
  rfl
theorem rd_Hoist__check_tower : ∀ ds ω R RX, S_Hoist__check_tower ds ω R RX → T_Hoist__check_tower (noS RX) { nx := fun _ ω' => R .non ω', rt := R } (startD ["self", "tower"] ds) ω := by
  rintro ds ω R RX ⟨y, z, rfl, q⟩
  show T_Hoist__check_tower _ _ [some y, some z] ω
  unfold T_Hoist__check_tower
  walk_at "ds"
  exact q

def T_Hoist__keep : DXS → TSD := fun RX => (dSeq (dDrop (dMeth "Hoist" "_check_tower" S_Hoist__check_tower RX (dVar 0) (dCons (dVar 2) dNil)))
    (dSeq (dFldS "Hoist" "_towers" (dVar 0) (dTup (dStar (dFld "Hoist" "_towers" (dVar 0)) (dCons (dVar 2) dNil))))
    (dSeq (dFldS "Hoist" "_edits" (dVar 0) (dTup (dStar (dFld "Hoist" "_edits" (dVar 0)) (dCons (dVar 1) dNil))))
    (dRet (dCall dLen (dCons (dFld "Hoist" "_edits" (dVar 0)) dNil))))))

def S_Hoist__keep : SpDX := fun ds ω R RX => ∃ (x dx : Addr) (ts es : List D) (ed tw : D), ds = [.raw (.ref x), ed, tw] ∧ ω x = some (.ins (Ers.ad "Hoist") dx (hoF ts es)) ∧ ts.length ≤ 100 ∧ es.length ≤ 100 ∧ R (.int (es.length + 1 : Nat)) (oset ω x (.ins (Ers.ad "Hoist") dx (hoF (ts ++ [tw]) (es ++ [ed]))))
theorem ar_Hoist__keep : ∀ ds ω R RX, S_Hoist__keep ds ω R RX → ds.length = ["self", "edit", "tower"].length := by
  rintro ds ω R RX ⟨x, dx, ts, es, ed, tw, rfl, _⟩
  rfl
theorem rd_Hoist__keep : ∀ ds ω R RX, S_Hoist__keep ds ω R RX → T_Hoist__keep (noS RX) { nx := fun _ ω' => R .non ω', rt := R } (startD ["self", "edit", "tower"] ds) ω := by
  rintro ds ω R RX ⟨x, dx, ts, es, ed, tw, rfl, hx, l1, l2, q⟩
  show T_Hoist__keep _ _ [some (.raw (.ref x)), some ed, some tw] ω
  unfold T_Hoist__keep
  walk_at "ds"
  refine ⟨⟨_, .own hx, rfl⟩, ?_⟩
  walk_at "ds"
  refine ⟨_, tw, rfl, ?_⟩
  walk_at "ds"
  refine ⟨_, _, .own hx, rfl, ?_⟩
  walk_at "ds"
  refine ⟨size100 (by rw [List.length_append]; exact Nat.succ_le_succ l1), ?_⟩
  walk_at "ds"
  refine ⟨x, dx, _, rfl, hx, (by show 3 < 1000; decide), ?_⟩
  rw [hoF_t]
  walk_at "ds"
  refine ⟨_, _, .own oset_same, rfl, ?_⟩
  walk_at "ds"
  refine ⟨size100 (by rw [List.length_append]; exact Nat.succ_le_succ l2), ?_⟩
  walk_at "ds"
  refine ⟨x, dx, _, rfl, oset_same, (by show 3 < 1000; decide), ?_⟩
  rw [hoF_e, oset2]
  walk_at "ds"
  refine ⟨_, _, .own oset_same, rfl, ?_⟩
  walk_at "ds"
  rw [List.length_append]
  exact q

def T_Hoist_tower : DXS → TSD := fun RX => (dRet (dBin dIx (dFld "Hoist" "_towers" (dVar 0)) (dUn dNeg (dC (.int 1)))))

def S_Hoist_tower : SpDX := fun ds ω R RX => ∃ (x dx : Addr) (ts es : List D) (t : D), ds = [.raw (.ref x)] ∧ ω x = some (.ins (Ers.ad "Hoist") dx (hoF (ts ++ [t]) es)) ∧ R t ω
theorem ar_Hoist_tower : ∀ ds ω R RX, S_Hoist_tower ds ω R RX → ds.length = ["self"].length := by
  rintro ds ω R RX ⟨x, dx, ts, es, t, rfl, _⟩
  rfl
theorem rd_Hoist_tower : ∀ ds ω R RX, S_Hoist_tower ds ω R RX → T_Hoist_tower (noS RX) { nx := fun _ ω' => R .non ω', rt := R } (startD ["self"] ds) ω := by
  rintro ds ω R RX ⟨x, dx, ts, es, t, rfl, hx, q⟩
  show T_Hoist_tower _ _ [some (.raw (.ref x))] ω
  unfold T_Hoist_tower
  walk_at "ds"
  refine ⟨_, _, .own hx, rfl, ?_⟩
  walk_at "ds"
  refine st_ixT atI_last' ?_
  exact q

def T_Hoist_come : DXS → TSD := fun RX => (dSeq (dDrop (dMeth "Hoist" "_check_edit" S_Hoist__check_edit RX (dVar 0) dNil))
    (dSeq (dIfS (dNotT (dTst (dCall (S_is_weight) (dCons (dVar 1) dNil)))) dNever dNext)
    (dSeq (dAsg (dProp "Hoist" S_Hoist_tower (dVar 0)) (dgTup 2 (dgCons (dgName 2) (dgCons (dgName 3) dgNil))))
    (dSeq (dIfS (dTst (dBin (dEq false) (dCall dLen (dCons (dVar 3) dNil)) (dC (.int 24)))) dNever dNext)
    (dRet (dMeth "Hoist" "_keep" S_Hoist__keep RX (dVar 0) (dCons (dTup (dCons (dC (.str "come")) (dCons (dVar 1) dNil))) (dCons (dTup (dCons (dVar 2) (dCons (dTup (dStar (dVar 3) (dCons (dVar 1) dNil))) dNil))) dNil))))))))

def S_Hoist_come : SpDX := fun ds ω R RX => ∃ (x dx : Addr) (ts es : List D) (e : Int) (ws : List Int) (w : Int), ds = [.raw (.ref x), .int w] ∧ ω x = some (.ins (Ers.ad "Hoist") dx (hoF (ts ++ [towD e ws]) es)) ∧ es.length < 60 ∧ ts.length ≤ 98 ∧ ws.length ≤ 24 ∧ Ed.can ws (.come w) ∧ R (.int (es.length + 1 : Nat)) (oset ω x (.ins (Ers.ad "Hoist") dx (hoF ((ts ++ [towD e ws]) ++ [towD (Ed.e e (.come w)) (Ed.ws ws (.come w))]) (es ++ [Ed.d (.come w)]))))
theorem ar_Hoist_come : ∀ ds ω R RX, S_Hoist_come ds ω R RX → ds.length = ["self", "weight"].length := by
  rintro ds ω R RX ⟨x, dx, ts, es, e, ws, w, rfl, _⟩
  rfl
theorem rd_Hoist_come : ∀ ds ω R RX, S_Hoist_come ds ω R RX → T_Hoist_come (noS RX) { nx := fun _ ω' => R .non ω', rt := R } (startD ["self", "weight", "excess", "weights"] ds) ω := by
  rintro ds ω R RX ⟨x, dx, ts, es, e, ws, w, rfl, hx, hl, hl2, h24, ⟨c0, c1, c2⟩, q⟩
  show T_Hoist_come _ _ [some (.raw (.ref x)), some (.int w), none, none] ω
  unfold T_Hoist_come
  walk_at "ds"
  refine ⟨⟨_, .own hx, rfl⟩, x, dx, ts, es, _, rfl, hx, hl, ?_⟩
  walk_at "ds"
  refine ⟨_, rfl, rfl, ?_⟩
  rw [show numB (.int w) 1 1000000 = true from decide_eq_true ⟨c0, c1⟩]
  walk_at "ds"
  refine ⟨⟨_, .own hx⟩, x, dx, ts, es, _, rfl, hx, ?_⟩
  walk_at "ds"
  refine st_dec (fun c => (by rw [List.length_map] at c; omega : False).elim) fun c => ?_
  walk_at "ds"
  refine ⟨⟨_, .own hx, rfl⟩, ?_⟩
  walk_at "ds"
  rw [show ws.map D.int ++ [D.int w] = (ws ++ [w]).map D.int by rw [List.map_append]; rfl]
  refine ⟨size100 (by rw [List.length_map, List.length_append]; exact Nat.le_trans c2 (by decide)), ?_⟩
  walk_at "ds"
  refine ⟨x, dx, ts ++ [towD e ws], es, _, _, rfl, hx, by rw [List.length_append]; show ts.length + 1 ≤ 100; omega, by omega, ?_⟩
  exact q

def T_Hoist__check_person : DXS → TSD := fun RX => (dSeq (dAsg (dProp "Hoist" S_Hoist_tower (dVar 0)) (dgTup 2 (dgCons (dgName 2) (dgCons (dgName 3) dgNil))))
    (dIfS (dNotT (dTst (dCall (S_is_number_between) (dCons (dVar 1) (dCons (dC (.int 0)) (dCons (dBin dSub (dCall dLen (dCons (dVar 3) dNil)) (dC (.int 1))) dNil)))))) dNever dNext))

def S_Hoist__check_person : SpDX := fun ds ω R RX => ∃ (x dx : Addr) (ts es : List D) (e : Int) (ws : List Int) (k : Int), ds = [.raw (.ref x), .int k] ∧ ω x = some (.ins (Ers.ad "Hoist") dx (hoF (ts ++ [towD e ws]) es)) ∧ 0 ≤ k ∧ k < ws.length ∧ R .non ω
theorem ar_Hoist__check_person : ∀ ds ω R RX, S_Hoist__check_person ds ω R RX → ds.length = ["self", "person"].length := by
  rintro ds ω R RX ⟨x, dx, ts, es, e, ws, k, rfl, _⟩
  rfl
theorem rd_Hoist__check_person : ∀ ds ω R RX, S_Hoist__check_person ds ω R RX → T_Hoist__check_person (noS RX) { nx := fun _ ω' => R .non ω', rt := R } (startD ["self", "person", "_", "weights"] ds) ω := by
  rintro ds ω R RX ⟨x, dx, ts, es, e, ws, k, rfl, hx, k0, k1, q⟩
  show T_Hoist__check_person _ _ [some (.raw (.ref x)), some (.int k), none, none] ω
  unfold T_Hoist__check_person
  walk_at "ds"
  refine ⟨⟨_, .own hx⟩, x, dx, ts, es, _, rfl, hx, ?_⟩
  walk_at "ds"
  refine ⟨_, 0, _, rfl, rfl, ?_⟩
  rw [List.length_map, show numB (.int k) 0 ((ws.length : Int) - 1) = true from decide_eq_true ⟨k0, by omega⟩]
  walk_at "ds"
  exact q

def T_Hoist_leave : DXS → TSD := fun RX => (dSeq (dDrop (dMeth "Hoist" "_check_edit" S_Hoist__check_edit RX (dVar 0) dNil))
    (dSeq (dDrop (dMeth "Hoist" "_check_person" S_Hoist__check_person RX (dVar 0) (dCons (dVar 1) dNil)))
    (dSeq (dAsg (dProp "Hoist" S_Hoist_tower (dVar 0)) (dgTup 2 (dgCons (dgName 2) (dgCons (dgName 3) dgNil))))
    (dRet (dMeth "Hoist" "_keep" S_Hoist__keep RX (dVar 0) (dCons (dTup (dCons (dC (.str "leave")) (dCons (dVar 1) dNil))) (dCons (dTup (dCons (dVar 2) (dCons (dTup (dStar (dSl (dVar 3) dNoP (dPart (dVar 1))) (dStar (dSl (dVar 3) (dPart (dBin dAdd (dVar 1) (dC (.int 1)))) dNoP) dNil))) dNil))) dNil)))))))

def S_Hoist_leave : SpDX := fun ds ω R RX => ∃ (x dx : Addr) (ts es : List D) (e : Int) (ws : List Int) (k : Int), ds = [.raw (.ref x), .int k] ∧ ω x = some (.ins (Ers.ad "Hoist") dx (hoF (ts ++ [towD e ws]) es)) ∧ es.length < 60 ∧ ts.length ≤ 98 ∧ ws.length ≤ 24 ∧ Ed.can ws (.leave k) ∧ R (.int (es.length + 1 : Nat)) (oset ω x (.ins (Ers.ad "Hoist") dx (hoF ((ts ++ [towD e ws]) ++ [towD (Ed.e e (.leave k)) (Ed.ws ws (.leave k))]) (es ++ [Ed.d (.leave k)]))))
theorem ar_Hoist_leave : ∀ ds ω R RX, S_Hoist_leave ds ω R RX → ds.length = ["self", "person"].length := by
  rintro ds ω R RX ⟨x, dx, ts, es, e, ws, k, rfl, _⟩
  rfl
theorem rd_Hoist_leave : ∀ ds ω R RX, S_Hoist_leave ds ω R RX → T_Hoist_leave (noS RX) { nx := fun _ ω' => R .non ω', rt := R } (startD ["self", "person", "excess", "weights"] ds) ω := by
  rintro ds ω R RX ⟨x, dx, ts, es, e, ws, k, rfl, hx, hl, hl2, h24, ⟨c0, c1⟩, q⟩
  show T_Hoist_leave _ _ [some (.raw (.ref x)), some (.int k), none, none] ω
  unfold T_Hoist_leave
  walk_at "ds"
  refine ⟨⟨_, .own hx, rfl⟩, x, dx, ts, es, _, rfl, hx, hl, ?_⟩
  walk_at "ds"
  refine ⟨⟨_, .own hx, rfl⟩, ?_⟩
  walk_at "ds"
  refine ⟨x, dx, ts, es, e, ws, k, rfl, hx, c0, c1, ?_⟩
  walk_at "ds"
  refine ⟨⟨_, .own hx⟩, x, dx, ts, es, _, rfl, hx, ?_⟩
  walk_at "ds"
  refine ⟨⟨_, .own hx, rfl⟩, ?_⟩
  walk_at "ds"
  rw [cut_to c0, cut_from (show 0 ≤ k + 1 by omega), show List.take k.toNat (ws.map D.int) ++ (List.drop (k + 1).toNat (ws.map D.int) ++ []) = (ws.take k.toNat ++ ws.drop (k + 1).toNat).map D.int by simp [List.map_take, List.map_drop]]
  refine ⟨size100 (by simp only [List.length_map, List.length_append, List.length_cons, List.length_take, List.length_drop]; omega), ?_⟩
  walk_at "ds"
  refine ⟨x, dx, ts ++ [towD e ws], es, _, _, rfl, hx, by rw [List.length_append]; show ts.length + 1 ≤ 100; omega, by omega, ?_⟩
  exact q

def T_Hoist_loosen : DXS → TSD := fun RX => (dSeq (dDrop (dMeth "Hoist" "_check_edit" S_Hoist__check_edit RX (dVar 0) dNil))
    (dSeq (dIfS (dNotT (dTst (dCall (S_is_excess) (dCons (dVar 1) dNil)))) dNever dNext)
    (dSeq (dAsg (dProp "Hoist" S_Hoist_tower (dVar 0)) (dgTup 2 (dgCons (dgName 2) (dgCons (dgName 3) dgNil))))
    (dRet (dMeth "Hoist" "_keep" S_Hoist__keep RX (dVar 0) (dCons (dTup (dCons (dC (.str "loosen")) (dCons (dVar 1) dNil))) (dCons (dTup (dCons (dVar 1) (dCons (dVar 3) dNil))) dNil)))))))

def S_Hoist_loosen : SpDX := fun ds ω R RX => ∃ (x dx : Addr) (ts es : List D) (e : Int) (ws : List Int) (u : Int), ds = [.raw (.ref x), .int u] ∧ ω x = some (.ins (Ers.ad "Hoist") dx (hoF (ts ++ [towD e ws]) es)) ∧ es.length < 60 ∧ ts.length ≤ 98 ∧ ws.length ≤ 24 ∧ Ed.can ws (.loosen u) ∧ R (.int (es.length + 1 : Nat)) (oset ω x (.ins (Ers.ad "Hoist") dx (hoF ((ts ++ [towD e ws]) ++ [towD (Ed.e e (.loosen u)) (Ed.ws ws (.loosen u))]) (es ++ [Ed.d (.loosen u)]))))
theorem ar_Hoist_loosen : ∀ ds ω R RX, S_Hoist_loosen ds ω R RX → ds.length = ["self", "excess"].length := by
  rintro ds ω R RX ⟨x, dx, ts, es, e, ws, u, rfl, _⟩
  rfl
theorem rd_Hoist_loosen : ∀ ds ω R RX, S_Hoist_loosen ds ω R RX → T_Hoist_loosen (noS RX) { nx := fun _ ω' => R .non ω', rt := R } (startD ["self", "excess", "_", "weights"] ds) ω := by
  rintro ds ω R RX ⟨x, dx, ts, es, e, ws, u, rfl, hx, hl, hl2, h24, ⟨c0, c1⟩, q⟩
  show T_Hoist_loosen _ _ [some (.raw (.ref x)), some (.int u), none, none] ω
  unfold T_Hoist_loosen
  walk_at "ds"
  refine ⟨⟨_, .own hx, rfl⟩, x, dx, ts, es, _, rfl, hx, hl, ?_⟩
  walk_at "ds"
  refine ⟨_, rfl, rfl, ?_⟩
  rw [show numB (.int u) 1 1000000 = true from decide_eq_true ⟨c0, c1⟩]
  walk_at "ds"
  refine ⟨⟨_, .own hx⟩, x, dx, ts, es, _, rfl, hx, ?_⟩
  walk_at "ds"
  refine ⟨⟨_, .own hx, rfl⟩, ?_⟩
  walk_at "ds"
  refine ⟨x, dx, ts ++ [towD e ws], es, _, _, rfl, hx, by rw [List.length_append]; show ts.length + 1 ≤ 100; omega, by omega, ?_⟩
  exact q

def T_Hoist_weigh : DXS → TSD := fun RX => (dSeq (dDrop (dMeth "Hoist" "_check_edit" S_Hoist__check_edit RX (dVar 0) dNil))
    (dSeq (dDrop (dMeth "Hoist" "_check_person" S_Hoist__check_person RX (dVar 0) (dCons (dVar 1) dNil)))
    (dSeq (dIfS (dNotT (dTst (dCall (S_is_weight) (dCons (dVar 2) dNil)))) dNever dNext)
    (dSeq (dAsg (dProp "Hoist" S_Hoist_tower (dVar 0)) (dgTup 2 (dgCons (dgName 3) (dgCons (dgName 4) dgNil))))
    (dRet (dMeth "Hoist" "_keep" S_Hoist__keep RX (dVar 0) (dCons (dTup (dCons (dC (.str "weigh")) (dCons (dVar 1) (dCons (dVar 2) dNil)))) (dCons (dTup (dCons (dVar 3) (dCons (dTup (dStar (dSl (dVar 4) dNoP (dPart (dVar 1))) (dCons (dVar 2) (dStar (dSl (dVar 4) (dPart (dBin dAdd (dVar 1) (dC (.int 1)))) dNoP) dNil)))) dNil))) dNil))))))))

def S_Hoist_weigh : SpDX := fun ds ω R RX => ∃ (x dx : Addr) (ts es : List D) (e : Int) (ws : List Int) (k w : Int), ds = [.raw (.ref x), .int k, .int w] ∧ ω x = some (.ins (Ers.ad "Hoist") dx (hoF (ts ++ [towD e ws]) es)) ∧ es.length < 60 ∧ ts.length ≤ 98 ∧ ws.length ≤ 24 ∧ Ed.can ws (.weigh k w) ∧ R (.int (es.length + 1 : Nat)) (oset ω x (.ins (Ers.ad "Hoist") dx (hoF ((ts ++ [towD e ws]) ++ [towD (Ed.e e (.weigh k w)) (Ed.ws ws (.weigh k w))]) (es ++ [Ed.d (.weigh k w)]))))
theorem ar_Hoist_weigh : ∀ ds ω R RX, S_Hoist_weigh ds ω R RX → ds.length = ["self", "person", "weight"].length := by
  rintro ds ω R RX ⟨x, dx, ts, es, e, ws, k, w, rfl, _⟩
  rfl
theorem rd_Hoist_weigh : ∀ ds ω R RX, S_Hoist_weigh ds ω R RX → T_Hoist_weigh (noS RX) { nx := fun _ ω' => R .non ω', rt := R } (startD ["self", "person", "weight", "excess", "weights"] ds) ω := by
  rintro ds ω R RX ⟨x, dx, ts, es, e, ws, k, w, rfl, hx, hl, hl2, h24, ⟨c0, c1, c2, c3⟩, q⟩
  show T_Hoist_weigh _ _ [some (.raw (.ref x)), some (.int k), some (.int w), none, none] ω
  unfold T_Hoist_weigh
  walk_at "ds"
  refine ⟨⟨_, .own hx, rfl⟩, x, dx, ts, es, _, rfl, hx, hl, ?_⟩
  walk_at "ds"
  refine ⟨⟨_, .own hx, rfl⟩, ?_⟩
  walk_at "ds"
  refine ⟨x, dx, ts, es, e, ws, k, rfl, hx, c0, c1, ?_⟩
  walk_at "ds"
  refine ⟨_, rfl, rfl, ?_⟩
  rw [show numB (.int w) 1 1000000 = true from decide_eq_true ⟨c2, c3⟩]
  walk_at "ds"
  refine ⟨⟨_, .own hx⟩, x, dx, ts, es, _, rfl, hx, ?_⟩
  walk_at "ds"
  refine ⟨⟨_, .own hx, rfl⟩, ?_⟩
  walk_at "ds"
  rw [cut_to c0, cut_from (show 0 ≤ k + 1 by omega), show List.take k.toNat (ws.map D.int) ++ D.int w :: (List.drop (k + 1).toNat (ws.map D.int) ++ []) = (ws.take k.toNat ++ w :: ws.drop (k + 1).toNat).map D.int by simp [List.map_take, List.map_drop]]
  refine ⟨size100 (by simp only [List.length_map, List.length_append, List.length_cons, List.length_take, List.length_drop]; omega), ?_⟩
  walk_at "ds"
  refine ⟨x, dx, ts ++ [towD e ws], es, _, _, rfl, hx, by rw [List.length_append]; show ts.length + 1 ≤ 100; omega, by omega, ?_⟩
  exact q

def T__law_do : TSD := (dSeq (dIfS (dTst (dBin (dEq false) (dBin dIx (dVar 1) (dC (.int 0))) (dC (.str "come")))) (dRet (dMeth "Hoist" "come" S_Hoist_come noX (dVar 0) (dCons (dBin dIx (dVar 1) (dC (.int 1))) dNil))) dNext)
    (dSeq (dIfS (dTst (dBin (dEq false) (dBin dIx (dVar 1) (dC (.int 0))) (dC (.str "leave")))) (dRet (dMeth "Hoist" "leave" S_Hoist_leave noX (dVar 0) (dCons (dBin dIx (dVar 1) (dC (.int 1))) dNil))) dNext)
    (dSeq (dIfS (dTst (dBin (dEq false) (dBin dIx (dVar 1) (dC (.int 0))) (dC (.str "weigh")))) (dRet (dMeth "Hoist" "weigh" S_Hoist_weigh noX (dVar 0) (dCons (dBin dIx (dVar 1) (dC (.int 1))) (dCons (dBin dIx (dVar 1) (dC (.int 2))) dNil)))) dNext)
    (dRet (dMeth "Hoist" "loosen" S_Hoist_loosen noX (dVar 0) (dCons (dBin dIx (dVar 1) (dC (.int 1))) dNil))))))

def S__law_do : SpD := fun ds ω R => ∃ (x dx : Addr) (ts es : List D) (e : Int) (ws : List Int) (d : Ed), ds = [.raw (.ref x), d.d] ∧ ω x = some (.ins (Ers.ad "Hoist") dx (hoF (ts ++ [towD e ws]) es)) ∧ es.length < 60 ∧ ts.length ≤ 98 ∧ ws.length ≤ 24 ∧ d.can ws ∧ R (.int (es.length + 1 : Nat)) (oset ω x (.ins (Ers.ad "Hoist") dx (hoF ((ts ++ [towD e ws]) ++ [towD (Ed.e e (d)) (Ed.ws ws (d))]) (es ++ [Ed.d (d)]))))
theorem ar__law_do : ∀ ds ω R, S__law_do ds ω R → ds.length = ["table", "edit"].length := by
  rintro ds ω R ⟨x, dx, ts, es, e, ws, d, rfl, _⟩
  rfl
theorem rd__law_do : ∀ ds ω R, S__law_do ds ω R → T__law_do { nx := fun _ ω' => R .non ω', rt := R } (startD ["table", "edit"] ds) ω := by
  rintro ds ω R ⟨x, dx, ts, es, e, ws, d, rfl, hx, hl, hl2, h24, hc, q⟩
  cases d with
  | come w =>
    show T__law_do _ [some (.raw (.ref x)), some (.tup [.str "come", .int w])] ω
    unfold T__law_do
    walk_at "ds"
    refine st_ixT (i := 0) rfl ?_
    walk_at "ds"
    refine ⟨⟨_, .own hx, rfl⟩, ?_⟩
    walk_at "ds"
    refine st_ixT (i := 1) rfl ?_
    walk_at "ds"
    exact ⟨x, dx, ts, es, e, ws, w, rfl, hx, hl, hl2, h24, hc, q⟩
  | leave k =>
    show T__law_do _ [some (.raw (.ref x)), some (.tup [.str "leave", .int k])] ω
    unfold T__law_do
    walk_at "ds"
    refine st_ixT (i := 0) rfl ?_
    walk_at "ds"
    rw [if_neg (by decide)]
    walk_at "ds"
    refine st_ixT (i := 0) rfl ?_
    walk_at "ds"
    refine ⟨⟨_, .own hx, rfl⟩, ?_⟩
    walk_at "ds"
    refine st_ixT (i := 1) rfl ?_
    walk_at "ds"
    exact ⟨x, dx, ts, es, e, ws, k, rfl, hx, hl, hl2, h24, hc, q⟩
  | weigh k w =>
    show T__law_do _ [some (.raw (.ref x)), some (.tup [.str "weigh", .int k, .int w])] ω
    unfold T__law_do
    walk_at "ds"
    refine st_ixT (i := 0) rfl ?_
    walk_at "ds"
    rw [if_neg (by decide)]
    walk_at "ds"
    refine st_ixT (i := 0) rfl ?_
    walk_at "ds"
    rw [if_neg (by decide)]
    walk_at "ds"
    refine st_ixT (i := 0) rfl ?_
    walk_at "ds"
    refine ⟨⟨_, .own hx, rfl⟩, ?_⟩
    walk_at "ds"
    refine st_ixT (i := 1) rfl ?_
    walk_at "ds"
    refine st_ixT (i := 2) rfl ?_
    walk_at "ds"
    exact ⟨x, dx, ts, es, e, ws, k, w, rfl, hx, hl, hl2, h24, hc, q⟩
  | loosen u =>
    show T__law_do _ [some (.raw (.ref x)), some (.tup [.str "loosen", .int u])] ω
    unfold T__law_do
    walk_at "ds"
    refine st_ixT (i := 0) rfl ?_
    walk_at "ds"
    rw [if_neg (by decide)]
    walk_at "ds"
    refine st_ixT (i := 0) rfl ?_
    walk_at "ds"
    rw [if_neg (by decide)]
    walk_at "ds"
    refine st_ixT (i := 0) rfl ?_
    walk_at "ds"
    rw [if_neg (by decide)]
    walk_at "ds"
    refine ⟨⟨_, .own hx, rfl⟩, ?_⟩
    walk_at "ds"
    refine st_ixT (i := 1) rfl ?_
    walk_at "ds"
    exact ⟨x, dx, ts, es, e, ws, u, rfl, hx, hl, hl2, h24, hc, q⟩

def T_Load___init__ : DXS → TSD := fun RX => (dSeq (dIfS (dOrT (dNotT (dTst (dCall dIsi (dCons (dVar 1) (dCons (dC (.raw (.ty "tuple"))) dNil))))) (dTst (dBin dGt (dCall dLen (dCons (dVar 1) dNil)) (dC (.int 100))))) dNever dNext)
    (dSeq (dIfS (dNotT (dTst (dCall dAllL (dCons (dLc (dItems (dVar 1)) (dgName 2) dYes (dCall (S_is_weight) (dCons (dVar 2) dNil)) [2]) dNil)))) dNever dNext)
    (dSeq (dFldS "Load" "_weights" (dVar 0) (dCall dTupN (dCons (dCall dSortedA (dCons (dVar 1) dNil)) dNil)))
    (dFldS "Load" "_total" (dVar 0) (dCall dSumT (dCons (dVar 1) dNil))))))

theorem numV_eq (d : D) (lo hi : Int) : numB d lo hi = numV d lo hi := by cases d <;> rfl
theorem okI : ∀ ws : List Int, okAll (ws.map D.int) = true
  | [] => rfl
  | w :: ws => by simp [okAll, D.ok, okI ws]
def S_Load___init__ : SpDX := fun ds ω R RX => ∃ (x dx : Addr) (ws : List Int), ds = [.raw (.ref x), .tup (ws.map D.int)] ∧ ω x = some (.ins (Ers.ad "Load") dx []) ∧ LoadW ws ∧ R .non (oset ω x (.ins (Ers.ad "Load") dx (loadFN ws)))
theorem ar_Load___init__ : ∀ ds ω R RX, S_Load___init__ ds ω R RX → ds.length = ["self", "weights"].length := by
  rintro ds ω R RX ⟨x, dx, ws, rfl, _⟩
  rfl
theorem rd_Load___init__ : ∀ ds ω R RX, S_Load___init__ ds ω R RX → T_Load___init__ (noS RX) { nx := fun _ ω' => R .non ω', rt := R } (startD ["self", "weights", "weight"] ds) ω := by
  rintro ds ω R RX ⟨x, dx, ws, rfl, hx, hw, q⟩
  show T_Load___init__ _ _ [some (.raw (.ref x)), some (.tup (ws.map D.int)), none] ω
  unfold T_Load___init__
  walk_at "ds"
  have l := hw.1
  refine st_dec (fun c => (by rw [List.length_map] at c; omega : False).elim) fun c => ?_
  walk_at "ds"
  refine lc_fun (fun _ => true) (fun d => D.bl (numV d 1 1000000)) (by rw [List.length_map]; exact Nat.le_trans l (by decide)) trivial (fun d Z acc hd hac k1 k2 => ?_) ?_
  · walk_at "ds"
    exact ⟨d, rfl, ok_items (okI ws) d hd, hac, by rw [numV_eq]; exact k1 rfl⟩
  rw [List.filter_eq_self.mpr fun _ _ => rfl]
  walk_at "ds"
  have e3 : ∀ l : List D, (l.map fun d => D.bl (numV d 1 1000000)) = (l.map fun d => numV d 1 1000000).map D.bl := fun l => by rw [List.map_map]; rfl
  refine ⟨_, (ws.map D.int).map fun d => numV d 1 1000000, rfl, by rw [e3]; rfl, ?_⟩
  have ea : (((ws.map D.int).map fun d => numV d 1 1000000).all id) = true := by
    rw [List.all_eq_true]
    intro b hb
    obtain ⟨d, hd, rfl⟩ := List.mem_map.mp hb
    obtain ⟨w, hm, rfl⟩ := List.mem_map.mp hd
    exact decide_eq_true (hw.2 w hm)
  rw [ea]
  walk_at "ds"
  refine st_sortedT fun ns' hp hs => ?_
  have es : ns' = srt ws := srt_eq hp hs
  subst es
  walk_at "ds"
  refine ⟨x, dx, [], rfl, hx, by decide, ?_⟩
  walk_at "ds"
  refine ⟨ws, rfl, ?_⟩
  walk_at "ds"
  refine ⟨x, dx, _, rfl, oset_same, (by show 1 < 1000; decide), ?_⟩
  rw [oset2]
  show R .non _
  rw [show dput "_weights" (D.tpn ((srt ws).map D.int)) [] = ([("_weights", D.tpn ((srt ws).map D.int))] : List (Str × D)) from rfl, dput_ne (by decide), show dput "_total" (D.int ws.sum) [] = ([("_total", D.int ws.sum)] : List (Str × D)) from rfl]
  exact q

def T__law_load : TSD := (dRet (dMake "Load" S_Load___init__ noX (dCons (dCall dTupOf (dCons (dLc (dItems (dVar 1)) (dgName 2) dYes (dBin dIx (dVar 0) (dVar 2)) [2]) dNil)) dNil)))

def S__law_load : SpD := fun ds ω R => ∃ ws g : List Int, ds = [.tup (ws.map D.int), .tup (g.map D.int)] ∧ (∀ n ∈ g, 0 ≤ n ∧ n < ws.length) ∧ g.length ≤ 100 ∧ (∀ w ∈ ws, 1 ≤ w ∧ w ≤ 1000000) ∧ R (loadN (g.map (wAt ws))) ω
theorem ar__law_load : ∀ ds ω R, S__law_load ds ω R → ds.length = ["weights", "group"].length := by
  rintro ds ω R ⟨ws, g, rfl, _⟩
  rfl
theorem loadw_g {ws g : List Int} (hn : ∀ n ∈ g, 0 ≤ n ∧ n < ws.length) (hl : g.length ≤ 100) (hw : ∀ w ∈ ws, 1 ≤ w ∧ w ≤ 1000000) : LoadW (g.map (wAt ws)) := by
  refine ⟨by rw [List.length_map]; exact hl, fun w hwm => ?_⟩
  obtain ⟨n, hnm, rfl⟩ := List.mem_map.mp hwm
  have := hn n hnm
  exact hw _ (wAt_mem this.1 this.2)
theorem rd__law_load : ∀ ds ω R, S__law_load ds ω R → T__law_load { nx := fun _ ω' => R .non ω', rt := R } (startD ["weights", "group", "one"] ds) ω := by
  rintro ds ω R ⟨ws, g, rfl, hn, hl, hw, q⟩
  show T__law_load _ [some (.tup (ws.map D.int)), some (.tup (g.map D.int)), none] ω
  unfold T__law_load
  walk_at "ds"
  refine lc_fun (fun _ => true) (fun d => match d with | .int n => .int (wAt ws n) | _ => .non) (by rw [List.length_map]; exact Nat.le_trans hl (by decide)) trivial (fun d Z acc hd hac k1 k2 => ?_) ?_
  · obtain ⟨n, hnm, rfl⟩ := List.mem_map.mp hd
    have := hn n hnm
    walk_at "ds"
    refine st_ixT (at_w this.1 this.2) ?_
    exact ⟨hac, k1 rfl⟩
  have e2 : ((g.map D.int).filter fun _ => true).map (fun d => match d with | .int n => D.int (wAt ws n) | _ => .non) = (g.map (wAt ws)).map D.int := by
    rw [List.filter_eq_self.mpr fun _ _ => rfl, List.map_map, List.map_map]
    rfl
  rw [e2]
  walk_at "ds"
  intro x dx hx hd ne
  refine ⟨x, dx, _, rfl, oset_same, loadw_g hn hl hw, rfl, dx, _, by rw [oset2, oset_same], ?_⟩
  rw [oset2, oera_oset hx]
  walk_at "ds"
  exact q

def T_Basket___call__ : DXS → TSD := fun RX => (dSeq (dFor (dItems (dTup (dCons (dVar 1) (dCons (dVar 2) dNil)))) (dgName 3) (dIfS (dNotT (dTst (dCall (dIsO "Load") (dCons (dVar 3) (dCons (dC (clsD "Load")) dNil))))) dNever dNext))
    (dSeq (dAsg (dBin dSub (dFld "Load" "_total" (dVar 1)) (dFld "Load" "_total" (dVar 2))) (dgName 4))
    (dSeq (dIfS (dNotT (dTst (dCall (S_is_number_between) (dCons (dVar 4) (dCons (dC (.int 1)) (dCons (dFld "Basket" "_excess" (dVar 0)) dNil)))))) (dRet (dC .non)) dNext)
    (dSeq (dFldAug "Basket" "_rides" (dVar 0) (dC (.int 1)))
    (dRet (dVar 4))))))

def S_Basket___call__ : SpDX := fun ds ω R RX => ∃ (b dx : Addr) (e r : Int) (ws vs : List Int), ds = [.raw (.ref b), loadN ws, loadN vs] ∧ ω b = some (.ins (Ers.ad "Basket") dx (baskF e r)) ∧
  R (rideD e ws vs) (if rideB e ws vs = true then oset ω b (.ins (Ers.ad "Basket") dx (baskF e (r + 1))) else ω)
theorem ar_Basket___call__ : ∀ ds ω R RX, S_Basket___call__ ds ω R RX → ds.length = ["self", "one", "other"].length := by
  rintro ds ω R RX ⟨b, dx, e, r, ws, vs, rfl, _⟩
  rfl
theorem rd_Basket___call__ : ∀ ds ω R RX, S_Basket___call__ ds ω R RX → T_Basket___call__ (noS RX) { nx := fun _ ω' => R .non ω', rt := R } (startD ["self", "one", "other", "value", "difference"] ds) ω := by
  rintro ds ω R RX ⟨b, dx, e, r, ws, vs, rfl, hb, q⟩
  show T_Basket___call__ _ _ [some (.raw (.ref b)), some (loadN ws), some (loadN vs), none, none] ω
  unfold T_Basket___call__
  walk_at "ds"
  refine ⟨fun i ρ ω' => ∃ v3, ρ = [some (.raw (.ref b)), some (loadN ws), some (loadN vs), v3, none] ∧ ω' = ω, ⟨_, rfl, rfl⟩, fun _ _ _ _ => trivial, ?_, ?_⟩
  · rintro i d ρ ω' ed ⟨v3, rfl, rfl⟩
    have hd : ∃ us, d = loadN us := by
      have := List.mem_of_getElem? ed
      rcases List.mem_cons.mp this with rfl | m
      · exact ⟨_, rfl⟩
      · rcases List.mem_cons.mp m with rfl | m
        · exact ⟨_, rfl⟩
        · cases m
    obtain ⟨us, rfl⟩ := hd
    walk_at "ds"
    refine st_isO true (.inl ⟨rfl, _, .obj⟩) ?_
    walk_at "ds"
    exact ⟨_, rfl, rfl⟩
  · rintro ρ ω' ⟨v3, rfl, rfl⟩
    walk_at "ds"
    refine ⟨_, _, .obj, rfl, ?_⟩
    walk_at "ds"
    refine ⟨_, _, .obj, rfl, ?_⟩
    walk_at "ds"
    refine ⟨_, _, .own hb, rfl, ?_⟩
    walk_at "ds"
    refine ⟨_, 1, e, rfl, rfl, ?_⟩
    rw [show numB (.int (ws.sum - vs.sum)) 1 e = rideB e ws vs from rfl]
    unfold rideD at q
    cases hr : rideB e ws vs with
    | false =>
      rw [hr, if_neg (by decide), if_neg (by decide)] at q
      walk_at "ds"
      exact q
    | true =>
      rw [hr, if_pos rfl, if_pos rfl] at q
      walk_at "ds"
      refine ⟨b, dx, _, r, rfl, hb, rfl, ?_⟩
      walk_at "ds"
      refine ⟨1, dx, _, rfl, hb, (by show 2 < 1000; decide), ?_⟩
      rw [show dput "_rides" (D.int (r + 1)) (baskF e r) = baskF e (r + 1) by unfold baskF; rw [dput_ne (by decide), dput_eq]]
      walk_at "ds"
      exact q

def T_Basket___init__ : DXS → TSD := fun RX => (dSeq (dIfS (dNotT (dTst (dCall (S_is_excess) (dCons (dVar 1) dNil)))) dNever dNext)
    (dSeq (dFldS "Basket" "_excess" (dVar 0) (dVar 1))
    (dFldS "Basket" "_rides" (dVar 0) (dC (.int 0)))))

def S_Basket___init__ : SpDX := fun ds ω R RX => ∃ (x dx : Addr) (e : Int), ds = [.raw (.ref x), .int e] ∧ 1 ≤ e ∧ e ≤ 1000000 ∧ ω x = some (.ins (Ers.ad "Basket") dx []) ∧ R .non (oset ω x (.ins (Ers.ad "Basket") dx (baskF e 0)))
theorem ar_Basket___init__ : ∀ ds ω R RX, S_Basket___init__ ds ω R RX → ds.length = ["self", "excess"].length := by
  rintro ds ω R RX ⟨x, dx, e, rfl, _⟩
  rfl
theorem rd_Basket___init__ : ∀ ds ω R RX, S_Basket___init__ ds ω R RX → T_Basket___init__ (noS RX) { nx := fun _ ω' => R .non ω', rt := R } (startD ["self", "excess"] ds) ω := by
  rintro ds ω R RX ⟨x, dx, e, rfl, e1, e2, hx, q⟩
  show T_Basket___init__ _ _ [some (.raw (.ref x)), some (.int e)] ω
  unfold T_Basket___init__
  walk_at "ds"
  refine ⟨_, rfl, rfl, ?_⟩
  rw [show numB (.int e) 1 1000000 = true from decide_eq_true ⟨e1, e2⟩]
  walk_at "ds"
  refine ⟨x, dx, [], rfl, hx, by decide, ?_⟩
  walk_at "ds"
  refine ⟨x, dx, _, rfl, oset_same, (by show 1 < 1000; decide), ?_⟩
  rw [oset2]
  show R .non _
  rw [show dput "_excess" (D.int e) [] = ([("_excess", D.int e)] : List (Str × D)) from rfl, show dput "_rides" (D.int 0) ([("_excess", D.int e)] : List (Str × D)) = (([("_excess", D.int e), ("_rides", D.int 0)]) : List (Str × D)) from if_neg (by decide)]
  exact q

def T_Load___add__ : DXS → TSD := fun RX => (dSeq (dIfS (dNotT (dTst (dCall (dIsO "Load") (dCons (dVar 1) (dCons (dC (clsD "Load")) dNil))))) (dRet dNoE) dNext)
    (dSeq (dIfS (dTst (dBin dGt (dBin dAdd (dCall dLenN (dCons (dFld "Load" "_weights" (dVar 0)) dNil)) (dCall dLenN (dCons (dFld "Load" "_weights" (dVar 1)) dNil))) (dC (.int 100)))) dNever dNext)
    (dRet (dMake "Load" S_Load___init__ RX (dCons (dTup (dStarN (dFld "Load" "_weights" (dVar 0)) (dStarN (dFld "Load" "_weights" (dVar 1)) dNil))) dNil)))))

theorem loadw_app {xs ys : List Int} (hx : LoadW xs) (hy : LoadW ys) (l : xs.length + ys.length ≤ 100) : LoadW (srt xs ++ srt ys) :=
  ⟨by rw [List.length_append, (srt_perm xs).length_eq, (srt_perm ys).length_eq]; exact l, fun w hm => by
    rcases List.mem_append.mp hm with h | h
    · exact hx.2 w ((srt_perm xs).mem_iff.mp h)
    · exact hy.2 w ((srt_perm ys).mem_iff.mp h)⟩
def S_Load___add__ : SpDX := fun ds ω R RX => ∃ xs ys : List Int, ds = [loadN xs, loadN ys] ∧ LoadW xs ∧ LoadW ys ∧
  xs.length + ys.length ≤ 100 ∧ R (loadN (xs ++ ys)) ω
theorem ar_Load___add__ : ∀ ds ω R RX, S_Load___add__ ds ω R RX → ds.length = ["self", "other"].length := by
  rintro ds ω R RX ⟨xs, ys, rfl, _⟩
  rfl
theorem rd_Load___add__ : ∀ ds ω R RX, S_Load___add__ ds ω R RX → T_Load___add__ (noS RX) { nx := fun _ ω' => R .non ω', rt := R } (startD ["self", "other"] ds) ω := by
  rintro ds ω R RX ⟨xs, ys, rfl, hx, hy, hs, q⟩
  show T_Load___add__ _ _ [some (loadN xs), some (loadN ys)] ω
  unfold T_Load___add__
  walk_at "ds"
  refine st_isO true (.inl ⟨rfl, _, .obj⟩) ?_
  walk_at "ds"
  refine ⟨_, _, .obj, rfl, ?_⟩
  walk_at "ds"
  refine ⟨_, _, .obj, rfl, ?_⟩
  walk_at "ds"
  rw [List.length_map, List.length_map, (srt_perm xs).length_eq, (srt_perm ys).length_eq]
  refine st_dec (fun c => (by omega : False).elim) fun c => ?_
  walk_at "ds"
  refine ⟨_, _, .obj, rfl, ?_⟩
  walk_at "ds"
  refine ⟨_, _, .obj, rfl, ?_⟩
  walk_at "ds"
  refine ⟨by rw [List.length_append, List.length_append, List.length_map, List.length_map, (srt_perm xs).length_eq, (srt_perm ys).length_eq]; exact Nat.le_trans (m := 100) (by simp only [List.length_nil]; omega) (by decide), ?_⟩
  walk_at "ds"
  intro x dx hx' hd ne
  refine ⟨x, dx, srt xs ++ srt ys, by rw [List.append_nil, List.map_append], oset_same, loadw_app hx hy (by omega), rfl, dx, _, by rw [oset2, oset_same], ?_⟩
  rw [oset2, oera_oset hx']
  walk_at "ds"
  have e : loadN (srt xs ++ srt ys) = loadN (xs ++ ys) := loadN_perm ((srt_perm xs).append (srt_perm ys))
  rw [← e] at q
  exact q

def T_Load___contains__ : DXS → TSD := fun RX => (dRet (dAndV (dCall (dIsO "Load") (dCons (dVar 1) (dCons (dC (clsD "Load")) dNil))) (dBin (dIsN false) (dCall (S_missing_weight) (dCons (dFld "Load" "_weights" (dVar 0)) (dCons (dFld "Load" "_weights" (dVar 1)) dNil))) (dC .non))))

def S_Load___contains__ : SpDX := fun ds ω R RX => ∃ (xs : List Int) (v : D), ds = [loadN xs, v] ∧ ((∃ ys, v = loadN ys ∧ R (.bl (inB xs ys)) ω) ∨ (∃ t, tyN v = some t ∧ R (.bl false) ω))
theorem ar_Load___contains__ : ∀ ds ω R RX, S_Load___contains__ ds ω R RX → ds.length = ["self", "value"].length := by
  rintro ds ω R RX ⟨xs, v, rfl, _⟩
  rfl
theorem rd_Load___contains__ : ∀ ds ω R RX, S_Load___contains__ ds ω R RX → T_Load___contains__ (noS RX) { nx := fun _ ω' => R .non ω', rt := R } (startD ["self", "value"] ds) ω := by
  rintro ds ω R RX ⟨xs, v, rfl, h⟩
  show T_Load___contains__ _ _ [some (loadN xs), some v] ω
  unfold T_Load___contains__
  rcases h with ⟨ys, rfl, q⟩ | ⟨t, ht, q⟩
  · walk_at "ds"
    refine st_isO true (.inl ⟨rfl, _, .obj⟩) ?_
    walk_at "ds"
    refine ⟨_, _, .obj, rfl, ?_⟩
    walk_at "ds"
    refine ⟨_, _, .obj, rfl, ?_⟩
    walk_at "ds"
    refine ⟨srt xs, srt ys, rfl, ?_⟩
    walk_at "ds"
    unfold inB at q
    cases hm : missW (srt xs) (srt ys) with
    | none => rw [hm] at q; exact q
    | some w => rw [hm] at q; exact q
  · walk_at "ds"
    refine st_isO false (.inr ⟨rfl, t, ht⟩) ?_
    walk_at "ds"
    exact q

def T_Load___eq__ : DXS → TSD := fun RX => (dRet (dAndV (dCall (dIsO "Load") (dCons (dVar 1) (dCons (dC (clsD "Load")) dNil))) (dBin (dEq false) (dFld "Load" "_weights" (dVar 0)) (dFld "Load" "_weights" (dVar 1)))))

theorem st_eqIntsN {neg : Bool} {ns ms : List Int} {ω : Om} {Q : DQ} (h : Q (.bl (if neg then !decide (ns = ms) else decide (ns = ms))) ω) : dEq neg (.tpn (ns.map D.int)) (.tpn (ms.map D.int)) ω Q := by
  show eqD _ _ ∧ Q _ ω
  have sh : ∀ ns : List Int, SeqAt.shaped (D.tpn (ns.map D.int)).py = true := fun ns => by
    have := shaped_intsT ns
    simpa only [D.py] using this
  refine ⟨⟨by simpa [D.flat] using flat_ints ns, by simpa [D.flat] using flat_ints ms, sh ns, sh ms⟩, ?_⟩
  have e := eqv_tups ns ms
  simp only [D.py] at e ⊢
  rw [e]
  exact h
def S_Load___eq__ : SpDX := fun ds ω R RX => ∃ xs ys : List Int, ds = [loadN xs, loadN ys] ∧ R (.bl (decide (srt xs = srt ys))) ω
theorem ar_Load___eq__ : ∀ ds ω R RX, S_Load___eq__ ds ω R RX → ds.length = ["self", "other"].length := by
  rintro ds ω R RX ⟨xs, ys, rfl, _⟩
  rfl
theorem rd_Load___eq__ : ∀ ds ω R RX, S_Load___eq__ ds ω R RX → T_Load___eq__ (noS RX) { nx := fun _ ω' => R .non ω', rt := R } (startD ["self", "other"] ds) ω := by
  rintro ds ω R RX ⟨xs, ys, rfl, q⟩
  show T_Load___eq__ _ _ [some (loadN xs), some (loadN ys)] ω
  unfold T_Load___eq__
  walk_at "ds"
  refine st_isO true (.inl ⟨rfl, _, .obj⟩) ?_
  walk_at "ds"
  refine ⟨_, _, .obj, rfl, ?_⟩
  walk_at "ds"
  refine ⟨_, _, .obj, rfl, ?_⟩
  exact st_eqIntsN q

def T_Load___sub__ : DXS → TSD := fun RX => (dSeq (dIfS (dNotT (dTst (dCall (dIsO "Load") (dCons (dVar 1) (dCons (dC (clsD "Load")) dNil))))) (dRet dNoE) dNext)
    (dSeq (dAsg (dCall (S_missing_weight) (dCons (dFld "Load" "_weights" (dVar 0)) (dCons (dFld "Load" "_weights" (dVar 1)) dNil))) (dgName 2))
    (dSeq (dIfS (dTst (dBin (dIsN true) (dVar 2) (dC .non))) (dRaise "Missing" "weight" (dVar 2) RX) dNext)
    (dSeq (dAsg (dCall dLstN (dCons (dFld "Load" "_weights" (dVar 0)) dNil)) (dgName 3))
    (dSeq (dFor (dItems (dFld "Load" "_weights" (dVar 1))) (dgName 4) (dDrop (dRemO (dVar 3) (dVar 4))))
    (dRet (dMake "Load" S_Load___init__ RX (dCons (dCall dTupOf (dCons (dVar 3) dNil)) dNil))))))))

def S_Load___sub__ : SpDX := fun ds ω R RX => ∃ xs ys : List Int, ds = [loadN xs, loadN ys] ∧ LoadW xs ∧ LoadW ys ∧
  (missW (srt xs) (srt ys) = none → ∀ ω', Ext ω ω' → R (loadN (minusW (srt xs) (srt ys))) ω') ∧ (∀ w, missW (srt xs) (srt ys) = some w → RX "Missing" (some [("weight", .int w)]) ω)
theorem ar_Load___sub__ : ∀ ds ω R RX, S_Load___sub__ ds ω R RX → ds.length = ["self", "other"].length := by
  rintro ds ω R RX ⟨xs, ys, rfl, _⟩
  rfl
theorem loadw_minus {xs ys : List Int} (hx : LoadW xs) : LoadW (minusW (srt xs) ys) :=
  ⟨Nat.le_trans (minusW_sub ys _).length_le (by rw [(srt_perm xs).length_eq]; exact hx.1), fun w hm => hx.2 w ((srt_perm xs).mem_iff.mp ((minusW_sub ys _).subset hm))⟩
theorem rd_Load___sub__ : ∀ ds ω R RX, S_Load___sub__ ds ω R RX → T_Load___sub__ (noS RX) { nx := fun _ ω' => R .non ω', rt := R } (startD ["self", "other", "missing", "rest", "weight"] ds) ω := by
  rintro ds ω R RX ⟨xs, ys, rfl, hx, hy, q, qx⟩
  show T_Load___sub__ _ _ [some (loadN xs), some (loadN ys), none, none, none] ω
  unfold T_Load___sub__
  walk_at "ds"
  refine st_isO true (.inl ⟨rfl, _, .obj⟩) ?_
  walk_at "ds"
  refine ⟨_, _, .obj, rfl, ?_⟩
  walk_at "ds"
  refine ⟨_, _, .obj, rfl, ?_⟩
  walk_at "ds"
  refine ⟨srt xs, srt ys, rfl, ?_⟩
  cases hm : missW (srt xs) (srt ys) with
  | some w =>
    rw [show optI (some w) = .int w from rfl]
    walk_at "ds"
    rw [if_pos (show (!isNonD (D.int w)) = true from rfl)]
    walk_at "ds"
    exact qx w hm
  | none =>
    rw [show optI none = .non from rfl]
    walk_at "ds"
    rw [if_neg (show ¬ (!isNonD D.non) = true by decide)]
    walk_at "ds"
    refine ⟨_, _, .obj, rfl, ?_⟩
    walk_at "ds"
    intro p hp
    walk_at "ds"
    refine ⟨_, _, .obj, rfl, ?_⟩
    walk_at "ds"
    refine ⟨fun i ρ ω' => (∃ d, ρ = [some (loadN xs), some (loadN ys), some .non, some (.raw (.ref p)), d]) ∧ ω' = oset ω p (.lst ((minusW (srt xs) ((srt ys).take i)).map D.int)), ⟨⟨_, rfl⟩, rfl⟩, fun _ _ _ _ => trivial, ?_, ?_⟩
    · rintro i d ρ ω' hd ⟨⟨d0, rfl⟩, rfl⟩
      rw [List.getElem?_map] at hd
      cases hi : (srt ys)[i]? with
      | none => rw [hi] at hd; cases hd
      | some y =>
        rw [hi] at hd
        cases hd
        obtain ⟨li, ei⟩ := List.getElem?_eq_some_iff.mp hi
        walk_at "ds"
        refine ⟨p, rfl, ⟨_, oset_same⟩, ?_⟩
        walk_at "ds"
        refine ⟨_, y, rfl, oset_same, ?_, ?_⟩
        · refine List.count_pos_iff.mp ?_
          rw [count_minusW]
          have h1 := missW_none.mp hm y
          have h2 : (srt ys).count y = ((srt ys).take i).count y + ((srt ys).drop i).count y := by rw [← List.count_append, List.take_append_drop]
          have h3 : 0 < ((srt ys).drop i).count y := List.count_pos_iff.mpr (by
            rw [List.drop_eq_getElem_cons li, ei]
            exact List.mem_cons_self)
          omega
        · walk_at "ds"
          refine ⟨⟨_, rfl⟩, ?_⟩
          rw [oset2, ← minusW_app, List.take_succ, hi]
          rfl
    · rintro ρ ω' ⟨⟨d0, rfl⟩, rfl⟩
      rw [List.length_map, List.take_length]
      walk_at "ds"
      refine ⟨_, _, rfl, .inr (lst_raw oset_same), ?_⟩
      walk_at "ds"
      intro x dx hx' hd ne
      have ep : ∀ ω1 : Om, True := fun _ => trivial
      refine ⟨x, dx, minusW (srt xs) (srt ys), rfl, oset_same, loadw_minus hx, rfl, dx, _, by rw [oset2, oset_same], ?_⟩
      rw [oset2, oera_oset hx']
      walk_at "ds"
      exact q hm _ (Ext.xd hp)

def T__law_plan_right : TSD := (dSeq (dAsg (dVar 0) (dgTup 2 (dgCons (dgName 3) (dgCons (dgName 4) dgNil))))
    (dSeq (dPar3 5 6 7 (dCons (dMakeO "Basket" S_Basket___init__ noX (dCons (dVar 3) dNil)) (dCons (dMake "Load" S_Load___init__ noX (dCons (dVar 4) dNil)) (dCons (dMake "Load" S_Load___init__ noX (dCons (dTup dNil) dNil)) dNil))))
    (dSeq (dFor (dEnum (dCons (dVar 1) dNil)) (dgTup 2 (dgCons (dgName 8) (dgCons (dgTup 2 (dgCons (dgName 9) (dgCons (dgName 10) dgNil))) dgNil))) (dSeq (dPar3 11 12 13 (dCons (dCall (S__law_load) (dCons (dVar 4) (dCons (dVar 9) dNil))) (dCons (dCall (S__law_load) (dCons (dVar 4) (dCons (dVar 10) dNil))) (dCons (dFld "Load" "_total" (dVar 7)) dNil))))
    (dSeq (dAsg (dCallM "Basket" S_Basket___call__ noX (dVar 5) (dCons (dVar 11) (dCons (dVar 12) dNil))) (dgName 14))
    (dSeq (dIfS (dOrT (dTst (dBin (dIsN false) (dVar 14) (dC .non))) (dOrT (dTst (dBin (dInM true "Load" S_Load___contains__) (dVar 12) (dVar 7))) (dTst (dBin (dInM true "Load" S_Load___contains__) (dVar 11) (dBinM "Load" S_Load___sub__ noX (dVar 6) (dVar 7)))))) (dRet (dC (.bl false))) dNext)
    (dSeq (dAsg (dBinM "Load" S_Load___add__ noX (dBinM "Load" S_Load___sub__ noX (dVar 7) (dVar 12)) (dVar 11)) (dgName 7))
    (dIfS (dOrT (dTst (dBin (dEq true) (dFld "Load" "_total" (dVar 7)) (dBin dAdd (dVar 13) (dVar 14)))) (dOrT (dTst (dBin (dEq true) (dFld "Basket" "_rides" (dVar 5)) (dBin dAdd (dVar 8) (dC (.int 1))))) (dTst (dBin (dIsN true) (dCallM "Basket" S_Basket___call__ noX (dVar 5) (dCons (dVar 12) (dCons (dVar 11) dNil))) (dC .non))))) (dRet (dC (.bl false))) dNext))))))
    (dRet (dAndV (dBin (dEqM false "Load" S_Load___eq__) (dVar 7) (dCall (S__law_load) (dCons (dVar 4) (dCons (dVar 2) dNil)))) (dAndV (dBin (dEq false) (dFld "Basket" "_excess" (dVar 5)) (dVar 3)) (dBin (dEqM false "Load" S_Load___eq__) (dVar 6) (dMake "Load" S_Load___init__ noX (dCons (dRev (dVar 4)) dNil)))))))))

theorem miss_none {xs ys zs : List Int} (h : xs.Perm (ys ++ zs)) : missW (srt xs) (srt ys) = none := missW_none.mpr fun y => by
  rw [(srt_perm xs).count_eq, (srt_perm ys).count_eq, h.count_eq, List.count_append]
  omega
theorem minus_perm {xs ys zs : List Int} (h : xs.Perm (ys ++ zs)) : (minusW (srt xs) (srt ys)).Perm zs := List.perm_iff_count.mpr fun y => by
  rw [count_minusW, (srt_perm xs).count_eq, (srt_perm ys).count_eq, h.count_eq, List.count_append]
  omega
theorem inB_perm {xs ys zs : List Int} (h : xs.Perm (ys ++ zs)) : inB xs ys = true := by
  unfold inB
  rw [miss_none h]
  rfl
theorem ups_at (ws : List Int) : (ups ws.length).map (wAt ws) = ws := by
  refine List.ext_getElem (by rw [List.length_map]; unfold ups; rw [List.length_map, List.length_range]) fun j h1 h2 => ?_
  rw [List.getElem_map]
  unfold ups wAt
  rw [List.getElem_map, List.getElem_range, Int.toNat_natCast, List.getD_eq_getElem?_getD, List.getElem?_eq_getElem h2]
  rfl
/-- a part and the others -/
theorem part_perm {n : Nat} {f : Int → Int} {bs as : List Int} (hb : GrpI n bs) (ha : GrpI n as) (s : ∀ k ∈ as, k ∈ bs) : (bs.map f).Perm (as.map f ++ (bs.filter fun k => !decide (k ∈ as)).map f) := by
  have eun : (bs.filter fun k => decide (k ∈ as)) = as := sorted_eq (hb.2.filter _) ha.2 fun k => by
    rw [List.mem_filter, decide_eq_true_eq]
    exact ⟨fun h => h.2, fun h => ⟨s k h, h⟩⟩
  have h := List.filter_append_perm (fun k => decide (k ∈ as)) bs
  rw [eun] at h
  rw [← List.map_append]
  exact (h.map _).symm
theorem filt_grp {n : Nat} {gs : List Int} (t : Int → Bool) (h : GrpI n gs) : GrpI n (gs.filter t) := ⟨fun k hk => h.1 k (List.mem_filter.mp hk).1, h.2.filter _⟩
theorem plan_in {x : Int} {ws : List Int} : ∀ {ms : List Mv} {g : List Int}, GrpI ws.length g → planL x ws g (ms.map mvD) = true → ∀ {k : Nat} {m : Mv}, ms[k]? = some m →
    (∀ p ∈ m.1, p ∉ after g (ms.take k)) ∧ ∀ p ∈ m.2, p ∈ after g (ms.take k)
  | [], _, _, _, k, m, e => by simp at e
  | m0 :: ms, g, hg, h, k, m, e => by
    have h : movB x ws g (mvD m0) = true ∧ planL x ws (stepG g (mvD m0)) (ms.map mvD) = true := by simpa [planL] using h
    obtain ⟨dn, un, e0, h1, h2, h3, h4⟩ := mov_get h.1
    obtain rfl : m0 = (dn, un) := mvD_inj e0
    have hs : stepG g (mvD (dn, un)) = moved g dn un := stepG_pair
    cases k with
    | zero =>
      cases e
      exact ⟨h3, h4⟩
    | succ k =>
      have e : ms[k]? = some m := e
      have z := plan_in (by rw [hs]; exact moved_grp hg (fun k hk => ⟨(h1.1 k hk).1, (h1.1 k hk).2, h3 k hk⟩) h1.2) h.2 e
      rw [hs] at z
      exact z
theorem mvs_inj : ∀ {as bs : List Mv}, as.map mvD = bs.map mvD → as = bs
  | [], [], _ => rfl
  | [], _ :: _, h => nomatch h
  | _ :: _, [], h => nomatch h
  | a :: as, b :: bs, h => by
    rw [List.map_cons, List.map_cons] at h
    injection h with h1 h2
    rw [mvD_inj h1, mvs_inj h2]
def S__law_plan_right : SpD := fun ds ω R => ∃ (x : Int) (ws h : List Int) (r : List (List Int)), ds = [.tup [.int x, .tup (ws.map D.int)], .tup ((mvsOf r).map mvD), .tup (h.map D.int)] ∧ Route x ws [] h r ∧ r.length ≤ 300 ∧ 1 ≤ x ∧ x ≤ 1000000 ∧ ws.length ≤ 8 ∧ (∀ w ∈ ws, 1 ≤ w ∧ w ≤ 1000000) ∧ GrpI ws.length h ∧ ∀ ω', Ext ω ω' → R (.bl true) ω'
theorem ar__law_plan_right : ∀ ds ω R, S__law_plan_right ds ω R → ds.length = ["tower", "plan", "goal"].length := by
  rintro ds ω R ⟨x, ws, h, r, rfl, _⟩
  rfl
theorem rd__law_plan_right : ∀ ds ω R, S__law_plan_right ds ω R → T__law_plan_right { nx := fun _ ω' => R .non ω', rt := R } (startD ["tower", "plan", "goal", "excess", "weights", "basket", "every", "bottom", "time", "down", "up", "one", "other", "before", "gain"] ds) ω := by
  rintro ds ω R ⟨x, ws, h, r, rfl, rt, rl, x1, x2, wl, hw, hgh, q⟩
  show T__law_plan_right _ [some (.tup [.int x, .tup (ws.map D.int)]), some (.tup ((mvsOf r).map mvD)), some (.tup (h.map D.int)), none, none, none, none, none, none, none, none, none, none, none, none] ω
  unfold T__law_plan_right
  obtain ⟨hp, he⟩ := route_plan rt
  have ml := mvs_len r
  generalize mvsOf r = ms at hp he ml ⊢
  obtain ⟨ms', e1, th, e3, e4⟩ := plan_ms (show ws.length ≤ 24 by omega) (grp_nil _) hp
  obtain rfl : ms = ms' := mvs_inj e1
  have ea : after [] ms = h := e3.trans he
  have at_ := fun {k : Nat} {m : Mv} (e : ms[k]? = some m) => plan_at (grp_nil _) hp e
  have in_ := fun {k : Nat} {m : Mv} (e : ms[k]? = some m) => plan_in (grp_nil _) hp e
  have hW : LoadW ws := ⟨by omega, hw⟩
  have gU : GrpI ws.length (ups ws.length) := grp_ups _
  walk_at "ds"
  intro b dx hb hdx ne
  have hb0 := hb
  refine ⟨b, dx, x, rfl, x1, x2, oset_same, rfl, ?_⟩
  rw [oset2]
  have xb : Ext ω (oset ω b (.ins (Ers.ad "Basket") dx (baskF x 0))) := Ext.xd hb
  have b1 : (oset ω b (.ins (Ers.ad "Basket") dx (baskF x 0))) b = some (.ins (Ers.ad "Basket") dx (baskF x 0)) := oset_same
  generalize oset ω b (.ins (Ers.ad "Basket") dx (baskF x 0)) = ω1 at xb b1 ⊢
  walk_at "ds"
  intro y dy hy hdy ney
  refine ⟨y, dy, ws, rfl, oset_same, hW, rfl, dy, _, by rw [oset2, oset_same], ?_⟩
  rw [oset2, oera_oset hy]
  walk_at "ds"
  intro y2 dy2 hy2 hdy2 ney2
  refine ⟨y2, dy2, [], rfl, oset_same, ⟨by decide, fun _ h => nomatch h⟩, rfl, dy2, _, by rw [oset2, oset_same], ?_⟩
  rw [oset2, oera_oset hy2]
  walk_at "ds"
  refine ⟨fun k ρ ω' => ∃ (v8 v9 v10 v11 v12 v13 v14 : Option D), ρ = [some (.tup [.int x, .tup (ws.map D.int)]), some (.tup (ms.map mvD)), some (.tup (h.map D.int)), some (.int x), some (.tup (ws.map D.int)), some (.raw (.ref b)), some (loadN ws), some (loadN ((after [] (ms.take k)).map (wAt ws))), v8, v9, v10, v11, v12, v13, v14] ∧ k ≤ ms.length ∧ ω' b = some (.ins (Ers.ad "Basket") dx (baskF x k)) ∧ Ext ω ω', ⟨_, _, _, _, _, _, _, rfl, Nat.zero_le _, b1, xb⟩, fun _ _ _ _ => trivial, ?_, ?_⟩
  · rintro k d ρ ω4 ed ⟨v8, v9, v10, v11, v12, v13, v14, rfl, hk, b4, x4⟩
    obtain ⟨m, em⟩ : ∃ m, ms[k]? = some m := by
      have z := (List.getElem?_eq_some_iff.mp ed).1
      rw [enumD_len, List.length_map] at z
      exact ⟨_, List.getElem?_eq_getElem z⟩
    have lk : k < ms.length := (List.getElem?_eq_some_iff.mp em).1
    have ed2 := enumD_get (show (ms.map mvD)[k]? = some (mvD m) by rw [List.getElem?_map, em]; rfl)
    rw [ed2] at ed
    cases ed
    obtain ⟨g1, g2, g3, ew, g4, y1, y2⟩ := at_ em
    obtain ⟨n1, n2⟩ := in_ em
    have l1 := g1.len
    have l2 := g2.len
    have l3 := g3.len
    have l4 := g4.len
    have gO : GrpI ws.length ((ups ws.length).filter fun n => !decide (n ∈ after [] (ms.take k))) := filt_grp _ gU
    have pW : ws.Perm ((after [] (ms.take k)).map (wAt ws) ++ ((ups ws.length).filter fun n => !decide (n ∈ after [] (ms.take k))).map (wAt ws)) := by
      have z := part_perm (f := wAt ws) gU g3 fun p hp => mem_ups.mpr (g3.1 p hp)
      rwa [ups_at] at z
    have pO := part_perm (f := wAt ws) gO g1 fun p hp => List.mem_filter.mpr ⟨mem_ups.mpr (g1.1 p hp), by simp [n1 p hp]⟩
    have pG := part_perm (f := wAt ws) g3 g2 n2
    have pN : (((after [] (ms.take k)).filter fun p => !decide (p ∈ m.2)).map (wAt ws) ++ m.1.map (wAt ws)).Perm ((after [] (ms.take (k + 1))).map (wAt ws)) := by
      rw [← List.map_append, after_step em]
      exact ((srt_perm _).symm).map _
    have w1 := loadw_g g1.1 (by omega) hw
    have w2 := loadw_g g2.1 (by omega) hw
    have w3 := loadw_g g3.1 (by omega) hw
    have w4 := loadw_g gO.1 (by have := gO.len; omega) hw
    have w5 : LoadW (((after [] (ms.take k)).filter fun p => !decide (p ∈ m.2)).map (wAt ws)) := loadw_g (filt_grp _ g3).1 (by have := (filt_grp (fun p => !decide (p ∈ m.2)) g3).len; omega) hw
    have s1 : (m.1.map (wAt ws)).sum = wt ws m.1 := rfl
    have s2 : (m.2.map (wAt ws)).sum = wt ws m.2 := rfl
    have s3 : ((after [] (ms.take k)).map (wAt ws)).sum = wt ws (after [] (ms.take k)) := rfl
    have s4 : ((after [] (ms.take (k + 1))).map (wAt ws)).sum = wt ws (after [] (ms.take (k + 1))) := rfl
    have rd : rideB x (m.1.map (wAt ws)) (m.2.map (wAt ws)) = true := by
      unfold rideB
      rw [s1, s2]
      exact decide_eq_true ⟨y1, y2⟩
    have rb : rideB x (m.2.map (wAt ws)) (m.1.map (wAt ws)) = false := by
      unfold rideB
      rw [s1, s2]
      exact decide_eq_false (by omega)
    generalize hG : (after [] (ms.take k)).map (wAt ws) = G at *
    generalize hO : ((ups ws.length).filter fun n => !decide (n ∈ after [] (ms.take k))).map (wAt ws) = O at *
    generalize hF : ((after [] (ms.take k)).filter fun p => !decide (p ∈ m.2)).map (wAt ws) = F at *
    generalize hN : (after [] (ms.take (k + 1))).map (wAt ws) = N at *
    rw [show mvD m = D.tup [.tup (m.1.map D.int), .tup (m.2.map D.int)] from rfl]
    walk_at "ds"
    refine ⟨ws, m.1, rfl, g1.1, by omega, hw, ?_⟩
    walk_at "ds"
    refine ⟨ws, m.2, rfl, g2.1, by omega, hw, ?_⟩
    walk_at "ds"
    refine ⟨_, _, .obj, rfl, ?_⟩
    walk_at "ds"
    refine ⟨⟨_, .own b4⟩, ?_⟩
    walk_at "ds"
    refine ⟨_, .own b4, b, dx, x, k, _, _, rfl, b4, ?_⟩
    unfold rideD
    rw [if_pos rd, if_pos rd, s1, s2]
    have b5 : (oset ω4 b (.ins (Ers.ad "Basket") dx (baskF x (k + 1)))) b = some (.ins (Ers.ad "Basket") dx (baskF x (k + 1))) := oset_same
    have x5 : Ext ω (oset ω4 b (.ins (Ers.ad "Basket") dx (baskF x (k + 1)))) := fun c hc => (oset_ne fun z => hc (by rw [z]; exact hb0)).trans (x4 c hc)
    generalize oset ω4 b (.ins (Ers.ad "Basket") dx (baskF x (k + 1))) = ω5 at b5 x5 ⊢
    walk_at "ds"
    rw [show isNonD (D.int (wt ws m.1 - wt ws m.2)) = false from rfl]
    walk_at "ds"
    refine st_inM .obj ⟨_, _, rfl, .inl ⟨_, rfl, _, rfl, ?_⟩⟩
    rw [inB_perm pG]
    walk_at "ds"
    refine ⟨_, _, .obj, .obj, _, _, rfl, hW, w3, fun _ ω6 x6 => ?_, fun w h => by rw [miss_none pW] at h; cases h⟩
    rw [loadN_perm (minus_perm pW)]
    walk_at "ds"
    refine st_inM .obj ⟨_, _, rfl, .inl ⟨_, rfl, _, rfl, ?_⟩⟩
    rw [inB_perm pO]
    walk_at "ds"
    refine ⟨_, _, .obj, .obj, _, _, rfl, w3, w2, fun _ ω7 x7 => ?_, fun w h => by rw [miss_none pG] at h; cases h⟩
    rw [loadN_perm (minus_perm pG)]
    walk_at "ds"
    have lF : F.length + (m.1.map (wAt ws)).length ≤ 24 := by
      have z := pN.length_eq
      rw [List.length_append] at z
      rw [z, ← hN, List.length_map]
      omega
    refine ⟨_, _, .obj, .obj, _, _, rfl, w5, w1, by omega, ?_⟩
    rw [loadN_perm pN]
    have b7 := x7.cell (x6.cell b5)
    have x7 := x5.trans (x6.trans x7)
    walk_at "ds"
    refine ⟨_, _, .obj, rfl, ?_⟩
    walk_at "ds"
    rw [s4, ew, s3]
    refine st_ndec (fun c => absurd rfl c) fun _ => ?_
    walk_at "ds"
    refine ⟨_, _, .own b7, rfl, ?_⟩
    walk_at "ds"
    refine st_ndec (fun c => absurd rfl c) fun _ => ?_
    walk_at "ds"
    refine ⟨⟨_, .own b7⟩, ?_⟩
    walk_at "ds"
    refine ⟨_, .own b7, b, dx, x, _, _, _, rfl, b7, ?_⟩
    unfold rideD
    rw [rb, if_neg (by decide), if_neg (by decide)]
    walk_at "ds"
    rw [show (!isNonD D.non) = false from rfl]
    walk_at "ds"
    refine ⟨_, _, _, _, _, _, _, by rw [← hN]; rfl, lk, by exact_mod_cast b7, x7⟩
  · rintro ρ ω4 ⟨v8, v9, v10, v11, v12, v13, v14, rfl, hk, b4, x4⟩
    walk_at "ds"
    rw [enumD_len, List.length_map] at b4 ⊢
    rw [List.take_length, ea]
    refine ⟨ws, h, rfl, hgh.1, by have := hgh.len; omega, hw, ?_⟩
    walk_at "ds"
    refine st_eqM .obj .obj ⟨_, _, rfl, _, rfl, ?_⟩
    rw [decide_eq_true rfl]
    walk_at "ds"
    refine ⟨_, _, .own b4, rfl, ?_⟩
    walk_at "ds"
    refine st_dec (fun _ => ?_) fun c => absurd rfl c
    walk_at "ds"
    intro y dy hy hdy ney
    rw [← List.map_reverse]
    have pR : ws.reverse.Perm ws := List.reverse_perm ws
    refine ⟨y, dy, ws.reverse, rfl, oset_same, ⟨by rw [List.length_reverse]; omega, fun w hm => hw w (List.mem_reverse.mp hm)⟩, rfl, dy, _, by rw [oset2, oset_same], ?_⟩
    rw [oset2, oera_oset hy]
    walk_at "ds"
    rw [loadFN_perm pR]
    refine st_eqM .obj .obj ⟨_, _, rfl, _, rfl, ?_⟩
    rw [decide_eq_true rfl]
    exact q _ x4

def T_Hoist___len__ : DXS → TSD := fun RX => (dRet (dCall dLen (dCons (dFld "Hoist" "_edits" (dVar 0)) dNil)))

def S_Hoist___len__ : SpDX := fun ds ω R RX => ∃ (x dx : Addr) (ts es : List D) (t : D), ds = [.raw (.ref x)] ∧ ω x = some (.ins (Ers.ad "Hoist") dx (hoF (ts ++ [t]) es)) ∧ R (.int es.length) ω
theorem ar_Hoist___len__ : ∀ ds ω R RX, S_Hoist___len__ ds ω R RX → ds.length = ["self"].length := by
  rintro ds ω R RX ⟨x, dx, ts, es, t, rfl, _⟩
  rfl
theorem rd_Hoist___len__ : ∀ ds ω R RX, S_Hoist___len__ ds ω R RX → T_Hoist___len__ (noS RX) { nx := fun _ ω' => R .non ω', rt := R } (startD ["self"] ds) ω := by
  rintro ds ω R RX ⟨x, dx, ts, es, t, rfl, hx, q⟩
  show T_Hoist___len__ _ _ [some (.raw (.ref x))] ω
  unfold T_Hoist___len__
  walk_at "ds"
  refine ⟨_, _, .own hx, rfl, ?_⟩
  walk_at "ds"
  exact q

def T__law_edit_right : TSD := (dSeq (dAsg (dBin dIx (dProp "Hoist" S_Hoist_tower (dVar 0)) (dC (.int 1))) (dgName 2))
    (dSeq (dAsg (dCall (dLenM "Hoist" S_Hoist___len__) (dCons (dVar 0) dNil)) (dgName 3))
    (dSeq (dIfS (dTst (dBin (dEq true) (dCall (S__law_do) (dCons (dVar 0) (dCons (dVar 1) dNil))) (dBin dAdd (dVar 3) (dC (.int 1))))) (dRet (dC (.bl false))) dNext)
    (dSeq (dPar 4 5 (dCons (dMake "Load" S_Load___init__ noX (dCons (dVar 2) dNil)) (dCons (dMake "Load" S_Load___init__ noX (dCons (dBin dIx (dProp "Hoist" S_Hoist_tower (dVar 0)) (dC (.int 1))) dNil)) dNil)))
    (dSeq (dIfS (dTst (dBin (dEq false) (dBin dIx (dVar 1) (dC (.int 0))) (dC (.str "come")))) (dRet (dAndV (dBin (dEqM false "Load" S_Load___eq__) (dBinM "Load" S_Load___add__ noX (dVar 4) (dMake "Load" S_Load___init__ noX (dCons (dTup (dCons (dBin dIx (dVar 1) (dC (.int 1))) dNil)) dNil))) (dVar 5)) (dAndV (dBin (dInM false "Load" S_Load___contains__) (dVar 4) (dVar 5)) (dBin (dInM true "Load" S_Load___contains__) (dVar 5) (dVar 4))))) dNext)
    (dSeq (dIfS (dTst (dBin (dEq false) (dBin dIx (dVar 1) (dC (.int 0))) (dC (.str "leave")))) (dRet (dAndV (dBin (dEqM false "Load" S_Load___eq__) (dBinM "Load" S_Load___sub__ noX (dVar 4) (dMake "Load" S_Load___init__ noX (dCons (dTup (dCons (dBin dIx (dVar 2) (dBin dIx (dVar 1) (dC (.int 1)))) dNil)) dNil))) (dVar 5)) (dBin (dInM false "Load" S_Load___contains__) (dVar 5) (dVar 4)))) dNext)
    (dRet (dOrV (dBin (dEq false) (dBin dIx (dVar 1) (dC (.int 0))) (dC (.str "weigh"))) (dBin (dEqM false "Load" S_Load___eq__) (dVar 4) (dVar 5))))))))))

theorem inB_no {ws : List Int} {w : Int} : inB ws (ws ++ [w]) = false := by
  unfold inB
  cases hm : missW (srt ws) (srt (ws ++ [w])) with
  | some _ => rfl
  | none =>
    have z := missW_none.mp hm w
    rw [(srt_perm _).count_eq, (srt_perm _).count_eq, List.count_append, List.count_singleton_self] at z
    omega
theorem leave_perm {ws : List Int} {k : Int} (k0 : 0 ≤ k) (k1 : k < ws.length) : ws.Perm ([wAt ws k] ++ (ws.take k.toNat ++ ws.drop (k + 1).toNat)) := by
  obtain ⟨j, rfl⟩ : ∃ j : Nat, k = j := ⟨k.toNat, by omega⟩
  have lj : j < ws.length := by omega
  have e1 : ((j : Int) + 1).toNat = j + 1 := by omega
  have e2 : wAt ws (j : Int) = ws[j] := by
    unfold wAt
    rw [Int.toNat_natCast, List.getD_eq_getElem?_getD, List.getElem?_eq_getElem lj]
    rfl
  rw [e1, e2, Int.toNat_natCast]
  have e3 : ws = ws.take j ++ ws[j] :: ws.drop (j + 1) := by rw [← List.drop_eq_getElem_cons lj, List.take_append_drop]
  exact (List.Perm.of_eq e3).trans List.perm_middle
def S__law_edit_right : SpD := fun ds ω R => ∃ (x dx : Addr) (ts es : List D) (e : Int) (ws : List Int) (d : Ed), ds = [.raw (.ref x), d.d] ∧ ω x = some (.ins (Ers.ad "Hoist") dx (hoF (ts ++ [towD e ws]) es)) ∧ es.length < 60 ∧ ts.length ≤ 98 ∧ TowOk e ws ∧ d.can ws ∧
  ∀ ω', Ext (oset ω x (.ins (Ers.ad "Hoist") dx (hoF ((ts ++ [towD e ws]) ++ [towD (Ed.e e d) (Ed.ws ws d)]) (es ++ [Ed.d d])))) ω' → R (.bl true) ω'
theorem ar__law_edit_right : ∀ ds ω R, S__law_edit_right ds ω R → ds.length = ["table", "edit"].length := by
  rintro ds ω R ⟨x, dx, ts, es, e, ws, d, rfl, _⟩
  rfl
theorem rd__law_edit_right : ∀ ds ω R, S__law_edit_right ds ω R → T__law_edit_right { nx := fun _ ω' => R .non ω', rt := R } (startD ["table", "edit", "before", "many", "one", "other"] ds) ω := by
  rintro ds ω R ⟨x, dx, ts, es, e, ws, d, rfl, hx, hl, hl2, tk, hc, q⟩
  show T__law_edit_right _ [some (.raw (.ref x)), some d.d, none, none, none, none] ω
  unfold T__law_edit_right
  have tk2 := tk.go hc
  have w1 : LoadW ws := ⟨Nat.le_trans tk.2.2.1 (by decide), tk.2.2.2⟩
  have w2 : LoadW (d.ws ws) := ⟨Nat.le_trans tk2.2.2.1 (by decide), tk2.2.2.2⟩
  walk_at "ds"
  refine ⟨⟨_, .own hx⟩, x, dx, ts, es, _, rfl, hx, ?_⟩
  unfold towD
  walk_at "ds"
  refine st_ixT (i := 1) (d := .tup (ws.map D.int)) rfl ?_
  walk_at "ds"
  refine st_lenM (.own hx) ⟨x, dx, ts, es, _, rfl, hx, es.length, rfl, by omega, by omega, ?_⟩
  walk_at "ds"
  refine ⟨x, dx, ts, es, e, ws, d, rfl, hx, hl, hl2, tk.2.2.1, hc, ?_⟩
  have x1 : (oset ω x (.ins (Ers.ad "Hoist") dx (hoF ((ts ++ [towD e ws]) ++ [towD (Ed.e e d) (Ed.ws ws d)]) (es ++ [Ed.d d])))) x = some (.ins (Ers.ad "Hoist") dx (hoF ((ts ++ [towD e ws]) ++ [towD (Ed.e e d) (Ed.ws ws d)]) (es ++ [Ed.d d]))) := oset_same
  generalize oset ω x (.ins (Ers.ad "Hoist") dx (hoF ((ts ++ [towD e ws]) ++ [towD (Ed.e e d) (Ed.ws ws d)]) (es ++ [Ed.d d]))) = ω1 at x1 q ⊢
  walk_at "ds"
  refine st_ndec (fun c => absurd (by omega) c) fun _ => ?_
  walk_at "ds"
  intro y dy hy hdy ney
  refine ⟨y, dy, ws, rfl, oset_same, w1, rfl, dy, _, by rw [oset2, oset_same], ?_⟩
  rw [oset2, oera_oset hy]
  walk_at "ds"
  refine ⟨⟨_, .own x1⟩, x, dx, ts ++ [towD e ws], _, _, rfl, x1, ?_⟩
  unfold towD
  walk_at "ds"
  refine st_ixT (i := 1) (d := .tup ((d.ws ws).map D.int)) rfl ?_
  walk_at "ds"
  intro y2 dy2 hy2 hdy2 ney2
  refine ⟨y2, dy2, d.ws ws, rfl, oset_same, w2, rfl, dy2, _, by rw [oset2, oset_same], ?_⟩
  rw [oset2, oera_oset hy2]
  cases d with
  | come w =>
    obtain ⟨c0, c1, c2⟩ := hc
    walk_at "ds"
    refine st_ixT (i := 0) (d := .str "come") rfl ?_
    walk_at "ds"
    refine st_ixT (i := 1) (d := .int w) rfl ?_
    walk_at "ds"
    intro y3 dy3 hy3 hdy3 ney3
    refine ⟨y3, dy3, [w], rfl, oset_same, ⟨by show 1 ≤ 100; decide, fun u h => by rw [List.mem_singleton.mp h]; exact ⟨c0, c1⟩⟩, rfl, dy3, _, by rw [oset2, oset_same], ?_⟩
    rw [oset2, oera_oset hy3]
    walk_at "ds"
    refine ⟨_, _, .obj, .obj, _, _, rfl, w1, ⟨by show 1 ≤ 100; decide, fun u h => by rw [List.mem_singleton.mp h]; exact ⟨c0, c1⟩⟩, by rw [List.length_singleton]; omega, ?_⟩
    walk_at "ds"
    refine st_eqM .obj .obj ⟨_, _, rfl, _, rfl, ?_⟩
    rw [show srt (ws ++ [w]) = srt (Ed.ws ws (Ed.come w)) from rfl, decide_eq_true rfl]
    walk_at "ds"
    refine st_inM .obj ⟨_, _, rfl, .inl ⟨_, rfl, _, rfl, ?_⟩⟩
    rw [inB_perm (show (Ed.ws ws (Ed.come w)).Perm (ws ++ [w]) from .refl _)]
    walk_at "ds"
    refine st_inM .obj ⟨_, _, rfl, .inl ⟨_, rfl, _, rfl, ?_⟩⟩
    rw [show inB ws (Ed.ws ws (Ed.come w)) = false from inB_no]
    exact q _ Ext.refl
  | leave k =>
    obtain ⟨c0, c1⟩ := hc
    have pl := leave_perm c0 c1
    have wm := tk.2.2.2 _ (wAt_mem c0 c1)
    walk_at "ds"
    refine st_ixT (i := 0) (d := .str "leave") rfl ?_
    walk_at "ds"
    refine st_dec (fun c => absurd c (by decide)) fun _ => ?_
    walk_at "ds"
    refine st_ixT (i := 0) (d := .str "leave") rfl ?_
    walk_at "ds"
    refine st_ixT (i := 1) (d := .int k) rfl ?_
    walk_at "ds"
    refine st_ixT (at_w c0 c1) ?_
    walk_at "ds"
    intro y3 dy3 hy3 hdy3 ney3
    refine ⟨y3, dy3, [wAt ws k], rfl, oset_same, ⟨by show 1 ≤ 100; decide, fun u h => by rw [List.mem_singleton.mp h]; exact ⟨wm.1, wm.2⟩⟩, rfl, dy3, _, by rw [oset2, oset_same], ?_⟩
    rw [oset2, oera_oset hy3]
    walk_at "ds"
    refine ⟨_, _, .obj, .obj, _, _, rfl, w1, ⟨by show 1 ≤ 100; decide, fun u h => by rw [List.mem_singleton.mp h]; exact wm⟩, fun _ ω7 x7 => ?_, fun w h => by rw [miss_none pl] at h; cases h⟩
    rw [loadN_perm (minus_perm pl)]
    walk_at "ds"
    refine st_eqM .obj .obj ⟨_, _, rfl, _, rfl, ?_⟩
    rw [show Ed.ws ws (Ed.leave k) = ws.take k.toNat ++ ws.drop (k + 1).toNat from rfl, decide_eq_true rfl]
    walk_at "ds"
    refine st_inM .obj ⟨_, _, rfl, .inl ⟨_, rfl, _, rfl, ?_⟩⟩
    rw [inB_perm (pl.trans List.perm_append_comm)]
    exact q _ x7
  | weigh k w =>
    walk_at "ds"
    refine st_ixT (i := 0) (d := .str "weigh") rfl ?_
    walk_at "ds"
    refine st_dec (fun c => absurd c (by decide)) fun _ => ?_
    walk_at "ds"
    refine st_ixT (i := 0) (d := .str "weigh") rfl ?_
    walk_at "ds"
    refine st_dec (fun c => absurd c (by decide)) fun _ => ?_
    walk_at "ds"
    refine st_ixT (i := 0) (d := .str "weigh") rfl ?_
    walk_at "ds"
    exact q _ Ext.refl
  | loosen z =>
    walk_at "ds"
    refine st_ixT (i := 0) (d := .str "loosen") rfl ?_
    walk_at "ds"
    refine st_dec (fun c => absurd c (by decide)) fun _ => ?_
    walk_at "ds"
    refine st_ixT (i := 0) (d := .str "loosen") rfl ?_
    walk_at "ds"
    refine st_dec (fun c => absurd c (by decide)) fun _ => ?_
    walk_at "ds"
    refine st_ixT (i := 0) (d := .str "loosen") rfl ?_
    walk_at "ds"
    refine st_dec (fun c => absurd c (by decide)) fun _ => ?_
    walk_at "ds"
    refine st_eqM .obj .obj ⟨_, _, rfl, _, rfl, ?_⟩
    rw [show Ed.ws ws (Ed.loosen z) = ws from rfl, decide_eq_true rfl]
    exact q _ Ext.refl

def T_Hoist___init__ : DXS → TSD := fun RX => (dSeq (dAsg (dCall (S_tower_error) (dCons (dVar 1) dNil)) (dgName 2))
    (dSeq (dIfS (dTst (dBin (dIsN true) (dVar 2) (dC .non))) dNever dNext)
    (dSeq (dFldS "Hoist" "_towers" (dVar 0) (dTup (dCons (dVar 1) dNil)))
    (dSeq (dFldS "Hoist" "_edits" (dVar 0) (dTup dNil))
    (dFldS "Hoist" "_watched" (dVar 0) (dC (.bl false)))))))

def S_Hoist___init__ : SpDX := fun ds ω R RX => ∃ (x dx : Addr) (e : Int) (ws : List Int), ds = [.raw (.ref x), towD e ws] ∧ ω x = some (.ins (Ers.ad "Hoist") dx []) ∧ 1 ≤ e ∧ e ≤ 1000000 ∧ ws.length ≤ 24 ∧ (∀ w ∈ ws, 1 ≤ w ∧ w ≤ 1000000) ∧ R .non (oset ω x (.ins (Ers.ad "Hoist") dx (hoF [towD e ws] [])))
theorem ar_Hoist___init__ : ∀ ds ω R RX, S_Hoist___init__ ds ω R RX → ds.length = ["self", "tower"].length := by
  rintro ds ω R RX ⟨x, dx, e, ws, rfl, _⟩
  rfl
theorem rd_Hoist___init__ : ∀ ds ω R RX, S_Hoist___init__ ds ω R RX → T_Hoist___init__ (noS RX) { nx := fun _ ω' => R .non ω', rt := R } (startD ["self", "tower", "error"] ds) ω := by
  rintro ds ω R RX ⟨x, dx, e, ws, rfl, hx, e0, e1, wl, hw, q⟩
  show T_Hoist___init__ _ _ [some (.raw (.ref x)), some (towD e ws), none] ω
  unfold T_Hoist___init__
  walk_at "ds"
  refine ⟨e, ws, rfl, e0, e1, wl, hw, ?_⟩
  walk_at "ds"
  rw [if_neg (by decide)]
  walk_at "ds"
  refine ⟨x, dx, _, rfl, hx, (by show 0 < 1000; decide), ?_⟩
  walk_at "ds"
  refine ⟨x, dx, _, rfl, oset_same, (by show 1 < 1000; decide), ?_⟩
  rw [oset2]
  walk_at "ds"
  refine ⟨x, dx, _, rfl, oset_same, (by show 2 < 1000; decide), ?_⟩
  rw [oset2, hoF_0]
  exact q

def T_Hoist_state : DXS → TSD := fun RX => (dSeq (dIfS (dTst (dBin (dIsN false) (dVar 1) (dC .non))) (dRet (dProp "Hoist" S_Hoist_tower (dVar 0))) dNext)
    (dSeq (dIfS (dNotT (dTst (dCall (S_is_number_between) (dCons (dVar 1) (dCons (dC (.int 0)) (dCons (dCall dLen (dCons (dFld "Hoist" "_edits" (dVar 0)) dNil)) dNil)))))) dNever dNext)
    (dRet (dBin dIx (dFld "Hoist" "_towers" (dVar 0)) (dVar 1)))))

def S_Hoist_state : SpDX := fun ds ω R RX => ∃ (x dx : Addr) (ts es : List D) (t : D), ds = [.raw (.ref x), .non] ∧ ω x = some (.ins (Ers.ad "Hoist") dx (hoF (ts ++ [t]) es)) ∧ R t ω
theorem ar_Hoist_state : ∀ ds ω R RX, S_Hoist_state ds ω R RX → ds.length = ["self", "version"].length := by
  rintro ds ω R RX ⟨x, dx, ts, es, t, rfl, _⟩
  rfl
theorem rd_Hoist_state : ∀ ds ω R RX, S_Hoist_state ds ω R RX → T_Hoist_state (noS RX) { nx := fun _ ω' => R .non ω', rt := R } (startD ["self", "version"] ds) ω := by
  rintro ds ω R RX ⟨x, dx, ts, es, t, rfl, hx, q⟩
  show T_Hoist_state _ _ [some (.raw (.ref x)), some .non] ω
  unfold T_Hoist_state
  walk_at "ds"
  rw [if_pos (show isNonD D.non = true from rfl)]
  walk_at "ds"
  exact ⟨⟨_, .own hx⟩, x, dx, ts, es, t, rfl, hx, q⟩

def T_Hoist_certificate : DXS → TSD := fun RX => (dSeq (dAsg (dMethKw "Hoist" "state" S_Hoist_state RX (dVar 0) dNil (dVar 2)) (dgName 3))
    (dSeq (dDrop (dCall (S_check_small) (dCons (dVar 3) dNil)))
    (dSeq (dIfS (dNotT (dTst (dCall (S_is_group) (dCons (dVar 3) (dCons (dVar 1) dNil))))) dNever dNext)
    (dRet (dCall (S_certificate) (dCons (dVar 3) (dCons (dTup dNil) (dCons (dVar 1) dNil))))))))

def S_Hoist_certificate : SpDX := fun ds ω R RX => ∃ (x dx : Addr) (ts es : List D) (e : Int) (ws h : List Int), ds = [.raw (.ref x), .tup (h.map D.int), .non] ∧ ω x = some (.ins (Ers.ad "Hoist") dx (hoF (ts ++ [towD e ws]) es)) ∧ ws.length ≤ 8 ∧ 0 ≤ e ∧ (∀ w ∈ ws, 1 ≤ w) ∧ GrpI ws.length h ∧
  (fewN e ws [] h = none → ∀ ω', Ext ω ω' → R (barD e ws (wt ws []) (wt ws h)) ω') ∧ (∀ r, r = rowF e ws [] h → Route e ws [] h r → fewN e ws [] h = some (r.length - 1) → r.length ≤ 300 → ∀ ω', Ext ω ω' → R (certD (.plan (.tup ((mvsOf r).map mvD)))) ω')
theorem ar_Hoist_certificate : ∀ ds ω R RX, S_Hoist_certificate ds ω R RX → ds.length = ["self", "goal", "version"].length := by
  rintro ds ω R RX ⟨x, dx, ts, es, e, ws, h, rfl, _⟩
  rfl
theorem rd_Hoist_certificate : ∀ ds ω R RX, S_Hoist_certificate ds ω R RX → T_Hoist_certificate (noS RX) { nx := fun _ ω' => R .non ω', rt := R } (startD ["self", "goal", "version", "tower"] ds) ω := by
  rintro ds ω R RX ⟨x, dx, ts, es, e, ws, h, rfl, hx, wl, e0, h1, hg, qn, qs⟩
  show T_Hoist_certificate _ _ [some (.raw (.ref x)), some (.tup (h.map D.int)), some .non, none] ω
  unfold T_Hoist_certificate
  walk_at "ds"
  refine ⟨⟨_, .own hx, rfl⟩, ?_⟩
  walk_at "ds"
  refine ⟨x, dx, ts, es, _, rfl, hx, ?_⟩
  unfold towD
  walk_at "ds"
  refine ⟨_, ws, rfl, wl, ?_⟩
  walk_at "ds"
  refine ⟨_, ws, _, rfl, by simpa [D.okV] using okV_ints h, ?_⟩
  rw [hg.ok]
  walk_at "ds"
  exact ⟨e, ws, [], h, rfl, wl, e0, h1, grp_nil _, hg, qn, qs⟩

def T_law : TSD := (dSeq (dAsg (dCall (S__law_deck) (dCons (dVar 0) dNil)) (dgName 1))
    (dSeq (dFor (dRng1 (dCons (dC (.int 3)) dNil)) (dgName 2) (dSeq (dAsg (dCall (S__law_tower) (dCons (dVar 1) (dCons (dC (.int 6)) dNil))) (dgName 3))
    (dSeq (dAsg (dMakeO "Hoist" S_Hoist___init__ noX (dCons (dVar 3) dNil)) (dgName 4))
    (dSeq (dFor (dRng1 (dCons (dC (.int 4)) dNil)) (dgName 5) (dSeq (dAsg (dCall dTupOf (dCons (dLc (dRng1 (dCons (dCall dLen (dCons (dBin dIx (dVar 3) (dC (.int 1))) dNil)) dNil)) (dgName 7) (dTst (dBin (dEq false) (dCall (S__law_draw) (dCons (dVar 1) (dCons (dC (.int 2)) dNil))) (dC (.int 0)))) (dVar 7) [7]) dNil)) (dgName 6))
    (dSeq (dAsg (dMethNA "Hoist" "certificate" S_Hoist_certificate noX (dVar 4) (dCons (dVar 6) dNil)) (dgName 8))
    (dIfS (dTst (dBin (dEq false) (dBin dIx (dVar 8) (dC (.int 0))) (dC (.str "plan")))) (dIfS (dNotT (dTst (dCall (S__law_plan_right) (dCons (dVar 3) (dCons (dBin dIx (dVar 8) (dC (.int 1))) (dCons (dVar 6) dNil)))))) (dRet (dC (.bl false))) dNext) (dIfS (dOrT (dTst (dBin (dEq true) (dBin dIx (dVar 8) (dC (.int 0))) (dC (.str "gap")))) (dTst (dChain dLt dLt (dBin dIx (dVar 8) (dC (.int 1))) (dFld "Load" "_total" (dCall (S__law_load) (dCons (dBin dIx (dVar 3) (dC (.int 1))) (dCons (dVar 6) dNil)))) (dBin dIx (dVar 8) (dC (.int 2)))))) (dRet (dC (.bl false))) dNext)))))
    (dFor (dRng1 (dCons (dBin dAdd (dC (.int 1)) (dCall (S__law_draw) (dCons (dVar 1) (dCons (dC (.int 6)) dNil)))) dNil)) (dgName 5) (dIfS (dNotT (dTst (dCall (S__law_edit_right) (dCons (dVar 4) (dCons (dCall (S__law_edit) (dCons (dVar 1) (dCons (dProp "Hoist" S_Hoist_tower (dVar 4)) dNil))) dNil))))) (dRet (dC (.bl false))) dNext))))))
    (dRet (dC (.bl true)))))

/-- numbers found so far, below the next one -/
def Low (i : Nat) (acc : List D) : Prop := ∃ ns : List Int, acc = ns.map D.int ∧ (∀ n ∈ ns, 0 ≤ n ∧ n < (i : Int)) ∧ ns.Pairwise (· < ·)
theorem Low.nil : Low 0 [] := ⟨[], rfl, fun _ h => (nomatch h), .nil⟩
theorem Low.skip {i : Nat} {acc : List D} (h : Low i acc) : Low (i + 1) acc := by
  obtain ⟨ns, e, h1, h2⟩ := h
  exact ⟨ns, e, fun n hn => by have := h1 n hn; omega, h2⟩
theorem Low.more {i : Nat} {acc : List D} {k : Int} (h : Low i acc) (e : k = i) : Low (i + 1) (acc ++ [.int k]) := by
  obtain ⟨ns, rfl, h1, h2⟩ := h
  subst e
  refine ⟨ns ++ [(i : Int)], by rw [List.map_append]; rfl, fun n hn => ?_, List.pairwise_append.mpr ⟨h2, List.pairwise_singleton _ _, fun x hx y hy => ?_⟩⟩
  · rcases List.mem_append.mp hn with z | z
    · have := h1 n z
      omega
    · rw [List.mem_singleton] at z
      omega
  · rw [List.mem_singleton] at hy
    have := h1 x hx
    omega
def S_law : SpD := spLaw fun _ => True
theorem ar_law : ∀ ds ω R, S_law ds ω R → ds.length = ["script"].length := by
  rintro ds ω R ⟨ns, rfl, _⟩
  rfl
theorem rd_law : ∀ ds ω R, S_law ds ω R → T_law { nx := fun _ ω' => R .non ω', rt := R } (startD ["script", "deck", "turn", "tower", "table", "time", "goal", "k", "found"] ds) ω := by
  rintro ds ω R ⟨ns, rfl, hl, _, hω, q⟩
  show T_law _ [some (.lst (ns.map D.int)), none, none, none, none, none, none, none, none] ω
  unfold T_law
  walk_at "ds"
  refine ⟨ns, rfl, fun a p ω1 d1 ha hp => ?_⟩
  walk_at "ds"
  refine st_rng1' (by decide) (by decide) ?_
  refine ⟨fun i ρ ω' => i ≤ 3 ∧ (∃ v2 v3 v4 v5 v6 v7 v8, ρ = [some (.lst (ns.map D.int)), some (.raw (.ref a)), v2, v3, v4, v5, v6, v7, v8]) ∧ DeckX ω ω' a p (1000 * i), ⟨by decide, ⟨_, _, _, _, _, _, _, rfl⟩, by simpa using d1⟩, fun _ _ _ _ => trivial, ?_, ?_⟩
  · rintro i d ρ ω2 ed ⟨i3, ⟨v2, v3, v4, v5, v6, v7, v8, rfl⟩, d2⟩
    have li : i < 3 := by
      have z := (List.getElem?_eq_some_iff.mp ed).1
      rw [rngD_len] at z
      exact z
    rw [rngD_get (show i < Int.toNat 3 from li)] at ed
    obtain rfl := Option.some.inj ed
    walk_at "ds"
    refine ⟨ω, a, p, _, 6, rfl, d2, by omega, by decide, by decide, fun e ws ω3 e0 e1 wl hw d3 => ?_⟩
    have tk : TowOk e ws := ⟨e0, e1, by omega, hw⟩
    have wl : ws.length ≤ 6 := by omega
    have h1 : ∀ w ∈ ws, 1 ≤ w := fun w h => (hw w h).1
    walk_at "ds"
    intro x dx hx0 hdx ne
    obtain ⟨xa, xp⟩ := d3.has hx0
    have x0 := d3.free hx0
    refine ⟨x, dx, e, ws, rfl, oset_same, e0, e1, tk.2.2.1, hw, rfl, ?_⟩
    rw [oset2]
    have d5 := d3.set (c := .ins (Ers.ad "Hoist") dx (hoF [towD e ws] [])) xa xp x0
    have x5 : (oset ω3 x (.ins (Ers.ad "Hoist") dx (hoF [towD e ws] []))) x = some (.ins (Ers.ad "Hoist") dx (hoF (([] : List D) ++ [towD e ws]) [])) := oset_same
    generalize oset ω3 x (.ins (Ers.ad "Hoist") dx (hoF [towD e ws] [])) = ω5 at d5 x5 ⊢
    walk_at "ds"
    refine st_rng1' (by decide) (by decide) ?_
    refine ⟨fun j ρ ω' => (∃ v5 v6 v7 v8, ρ = [some (.lst (ns.map D.int)), some (.raw (.ref a)), some (.int (0 + (i : Nat))), some (towD e ws), some (.raw (.ref x)), v5, v6, v7, v8]) ∧ ω' x = some (.ins (Ers.ad "Hoist") dx (hoF (([] : List D) ++ [towD e ws]) [])) ∧ j ≤ 4 ∧ DeckX ω ω' a p (1000 * i + 200 + 30 * j), ⟨⟨_, _, _, _, rfl⟩, x5, by decide, d5⟩, fun _ _ _ _ => trivial, ?_, ?_⟩
    · rintro j d ρ ω6 ed' ⟨⟨v5, v6, v7, v8, rfl⟩, x6, hj, d6⟩
      have lj : j < 4 := by
        have z := (List.getElem?_eq_some_iff.mp ed').1
        rw [rngD_len] at z
        exact z
      rw [rngD_get (show j < Int.toNat 4 from lj)] at ed'
      obtain rfl := Option.some.inj ed'
      walk_at "ds"
      refine st_ixT (i := 1) (d := .tup (ws.map D.int)) rfl ?_
      walk_at "ds"
      rw [List.length_map]
      refine st_rng1' (by omega) (by omega) ?_
      have rl : (rngD 0 ((ws.length : Nat) : Int).toNat).length = ws.length := by rw [rngD_len, Int.toNat_natCast]
      refine lc_inv (fun k acc ω' => Low k acc ∧ k ≤ 6 ∧ ω' x = some (.ins (Ers.ad "Hoist") dx (hoF (([] : List D) ++ [towD e ws]) [])) ∧ DeckX ω ω' a p (1000 * i + 200 + 30 * j + k)) ⟨Low.nil, by decide, x6, d6⟩ (fun _ _ _ _ => trivial) (by rw [rl, show sizeLine = 16777216 from by decide]; omega) (fun k d ω' Z acc ed hw' hac k1 k2 => ?_) fun acc ω7 hl' hw' => ?_
      · obtain ⟨lk, _⟩ := List.getElem?_eq_some_iff.mp ed
        rw [rl] at lk
        rw [rngD_get (by rw [Int.toNat_natCast]; exact lk)] at ed
        cases ed
        obtain ⟨lo, k6, xk, dk⟩ := hw'
        walk_at "ds"
        refine st_drawFX dk (by omega) (by decide) (by decide) fun y ω8 y0 y1 d8 fr8 => ?_
        have x8 := (fr8 x xa xp).trans xk
        walk_at "ds"
        refine st_dec (fun _ => ?_) fun _ => ?_
        · walk_at "ds"
          exact ⟨hac, k1 _ _ ⟨lo.more (by omega), by omega, x8, d8⟩⟩
        · exact k2 _ ⟨lo.skip, by omega, x8, d8⟩
      rw [rl] at hw'
      obtain ⟨⟨g, rfl, hms, pms⟩, _, x7, d7⟩ := hw'
      have hg : GrpI ws.length g := ⟨hms, pms⟩
      walk_at "ds"
      refine ⟨⟨_, .own x7, rfl⟩, ?_⟩
      walk_at "ds"
      refine ⟨x, dx, [], [], e, ws, g, rfl, x7, by omega, by omega, h1, hg, fun hn ω8 y8 => ?_, fun r er rt hr rl' ω8 y8 => ?_⟩
      · have x8 := y8.cell x7
        have d8 : DeckX ω ω8 a p (1000 * i + 200 + 30 * j + 6) := ⟨(d7.1.le (by omega)).ext y8, d7.2.trans (ExtA.of y8)⟩
        obtain ⟨pq, ep, nl⟩ := bar_gap h1 hg hn
        have ev : barD e ws (wt ws []) (wt ws g) = .tup [.str "gap", .int pq.1, .int pq.2] := by unfold barD; rw [if_neg nl, ep]
        obtain ⟨pm, px⟩ := gapL_some ep
        obtain ⟨m1, m2⟩ := adj_mem pm
        have m2 := (mem_btw.mp m2).2
        rw [ev]
        walk_at "ds"
        refine st_ixT (i := 0) (d := .str "gap") rfl ?_
        walk_at "ds"
        refine st_dec (fun c => absurd c (by decide)) fun _ => ?_
        walk_at "ds"
        refine st_ixT (i := 0) (d := .str "gap") rfl ?_
        walk_at "ds"
        refine st_ixT (i := 1) (d := .int pq.1) rfl ?_
        walk_at "ds"
        refine st_ixT (i := 1) (d := .tup (ws.map D.int)) rfl ?_
        walk_at "ds"
        refine ⟨ws, g, rfl, hg.1, by have := hg.len; omega, hw, ?_⟩
        have es : (g.map (wAt ws)).sum = wt ws g := rfl
        refine ⟨_, _, .obj, rfl, ?_⟩
        walk_at "ds"
        rw [es]
        refine st_dec (fun _ => ?_) fun _ => ?_
        · walk_at "ds"
          refine st_ixT (i := 2) (d := .int pq.2) rfl ?_
          walk_at "ds"
          refine st_dec (fun c => (by omega : False).elim) fun _ => ?_
          walk_at "ds"
          exact ⟨⟨_, _, _, _, rfl⟩, x8, by omega, d8.le (by omega)⟩
        · walk_at "ds"
          exact ⟨⟨_, _, _, _, rfl⟩, x8, by omega, d8.le (by omega)⟩
      · have x8 := y8.cell x7
        have d8 : DeckX ω ω8 a p (1000 * i + 200 + 30 * j + 6) := ⟨(d7.1.le (by omega)).ext y8, d7.2.trans (ExtA.of y8)⟩
        walk_at "ds"
        refine st_ixT (i := 0) (d := .str "plan") rfl ?_
        walk_at "ds"
        refine st_ixT (i := 1) rfl ?_
        walk_at "ds"
        refine ⟨e, ws, g, r, rfl, rt, rl', e0, e1, by omega, hw, hg, fun ω9 y9 => ?_⟩
        walk_at "ds"
        exact ⟨⟨_, _, _, _, rfl⟩, y9.cell x8, by omega, ⟨(d8.1.le (by omega)).ext y9, d8.2.trans (ExtA.of y9)⟩⟩
    · rintro ρ ω6 ⟨⟨v5, v6, v7, v8, rfl⟩, x6, hj, d6⟩
      rw [rngD_len] at d6
      walk_at "ds"
      refine st_drawFX d6 (by omega) (by decide) (by decide) fun cnt ω7 c0 c1 d7 fr7 => ?_
      have x7 := (fr7 x xa xp).trans x6
      walk_at "ds"
      refine st_rng1' (by omega) (by omega) ?_
      refine ⟨fun j ρ ω' => ∃ (v5 : Option D) (ts : List D) (es : List Ed) (e' : Int) (ws' : List Int), ρ = [some (.lst (ns.map D.int)), some (.raw (.ref a)), some (.int (0 + (i : Nat))), some (towD e ws), some (.raw (.ref x)), v5, v6, v7, v8] ∧ TowOk e' ws' ∧ es.length = j ∧ ts.length = j ∧ (j : Int) ≤ 1 + cnt ∧ ω' x = some (.ins (Ers.ad "Hoist") dx (hoF (ts ++ [towD e' ws']) (es.map Ed.d))) ∧ DeckX ω ω' a p (1000 * i + 400 + 11 * j), ⟨_, [], [], e, ws, rfl, tk, rfl, rfl, by omega, x7, d7.le (by omega)⟩, fun _ _ _ _ => trivial, ?_, ?_⟩
      · rintro j d ρ ω8 ed' ⟨v5, ts, es, e', ws', rfl, tk', le, lt, lj, x8, d8⟩
        have lj' : (j : Int) < 1 + cnt := by
          have z := (List.getElem?_eq_some_iff.mp ed').1
          rw [rngD_len] at z
          omega
        walk_at "ds"
        refine ⟨⟨_, .own x8⟩, x, dx, ts, _, _, rfl, x8, ?_⟩
        walk_at "ds"
        refine ⟨ω8, a, p, _, e', ws', rfl, ⟨d8.1, fun _ _ _ _ => rfl⟩, by omega, tk', fun u ω9 hu d9 => ?_⟩
        have x9 := d9.2.cell xa xp x8
        have d9 := d8.go d9
        walk_at "ds"
        refine ⟨x, dx, ts, _, e', ws', u, rfl, x9, by rw [List.length_map]; omega, by omega, tk', hu, fun ω10 y10 => ?_⟩
        have x10 := y10.cell oset_same
        have d10 := d9.set (c := .ins (Ers.ad "Hoist") dx (hoF ((ts ++ [towD e' ws']) ++ [towD (Ed.e e' u) (Ed.ws ws' u)]) (es.map Ed.d ++ [Ed.d u]))) xa xp x0
        have d11 : DeckX ω ω10 a p (1000 * i + 400 + 11 * j + 10) := ⟨d10.1.ext y10, d10.2.trans (ExtA.of y10)⟩
        walk_at "ds"
        exact ⟨_, ts ++ [towD e' ws'], es ++ [u], _, _, rfl, tk'.go hu, by rw [List.length_append, le]; rfl, by rw [List.length_append, lt]; rfl, by omega, by rw [List.map_append]; exact x10, d11.le (by omega)⟩
      · rintro ρ ω8 ⟨v5, ts, es, e', ws', rfl, tk', le, lt, lj, x8, d8⟩
        rw [rngD_len] at lj d8
        walk_at "ds"
        exact ⟨by omega, ⟨_, _, _, _, _, _, _, rfl⟩, d8.le (by omega)⟩
  · rintro ρ ω2 ⟨i3, ⟨v2, v3, v4, v5, v6, v7, v8, rfl⟩, d2⟩
    walk_at "ds"
    exact q _

end K54

namespace K54
open PySem PySem.Spec L2 DL
variable [Ers]
/-! ### the text by places -/
def top (i : Nat) : Stmt := PySem.Challenge.pw_basketrope_k54_whole_hoists_and_values.main.body.getD i (.Pass ⟨0, 0, 0, 0⟩)
structure Txt (mg : Str → Option Value) : Prop where
  c_MAX_EDITS : ∃ t, mg "MAX_EDITS" = some (.int 60 t)
  c_MAX_EXCESS : ∃ t, mg "MAX_EXCESS" = some (.int 1000000 t)
  c_MAX_LOAD : ∃ t, mg "MAX_LOAD" = some (.int 100 t)
  c_MAX_PEOPLE : ∃ t, mg "MAX_PEOPLE" = some (.int 24 t)
  c_MAX_WEIGHT : ∃ t, mg "MAX_WEIGHT" = some (.int 1000000 t)
  c_SMALL : ∃ t, mg "SMALL" = some (.int 8 t)
  b_abs : mg "abs" = none
  b_all : mg "all" = none
  b_bool : mg "bool" = none
  b_enumerate : mg "enumerate" = none
  b_int : mg "int" = none
  b_isinstance : mg "isinstance" = none
  b_len : mg "len" = none
  b_list : mg "list" = none
  b_max : mg "max" = none
  b_min : mg "min" = none
  b_range : mg "range" = none
  b_sorted : mg "sorted" = none
  b_sum : mg "sum" = none
  b_tuple : mg "tuple" = none
  b_zip : mg "zip" = none
  l_certificate_plans : mg "certificate_plans" = mg "certificate"
  k_Load : mg "Load" = some (.ref (Ers.ad "Load"))
  k_Missing : mg "Missing" = some (.ref (Ers.ad "Missing"))
theorem sc_is_number_between : FnScope ["value", "low", "high"] ["value", "low", "high"] (defScope (top 9)) := ⟨rfl, rfl, rfl, by decide +kernel, rfl, by decide +kernel, by decide +kernel⟩
theorem sc_is_excess : FnScope ["value"] ["value"] (defScope (top 30)) := ⟨rfl, rfl, rfl, by decide +kernel, rfl, by decide +kernel, by decide +kernel⟩
theorem sc_is_weight : FnScope ["value"] ["value"] (defScope (top 31)) := ⟨rfl, rfl, rfl, by decide +kernel, rfl, by decide +kernel, by decide +kernel⟩
theorem sc_tower_error : FnScope ["value", "excess", "weights", "person", "weight"] ["value"] (defScope (top 32)) := ⟨rfl, rfl, rfl, by decide +kernel, rfl, by decide +kernel, by decide +kernel⟩
theorem sc_is_group : FnScope ["tower", "value", "_", "weights", "least", "person"] ["tower", "value"] (defScope (top 33)) := ⟨rfl, rfl, rfl, by decide +kernel, rfl, by decide +kernel, by decide +kernel⟩
theorem sc_weight_of : FnScope ["tower", "group", "_", "weights", "person"] ["tower", "group"] (defScope (top 34)) := ⟨rfl, rfl, rfl, by decide +kernel, rfl, by decide +kernel, by decide +kernel⟩
theorem sc_missing_weight : FnScope ["weights", "others", "weight"] ["weights", "others"] (defScope (top 36)) := ⟨rfl, rfl, rfl, by decide +kernel, rfl, by decide +kernel, by decide +kernel⟩
theorem sc_without : FnScope ["group", "others", "person"] ["group", "others"] (defScope (top 40)) := ⟨rfl, rfl, rfl, by decide +kernel, rfl, by decide +kernel, by decide +kernel⟩
theorem sc_is_move : FnScope ["tower", "group", "value", "down", "up", "excess", "_"] ["tower", "group", "value"] (defScope (top 41)) := ⟨rfl, rfl, rfl, by decide +kernel, rfl, by decide +kernel, by decide +kernel⟩
theorem sc_move_between : FnScope ["tower", "start", "goal", "move"] ["tower", "start", "goal"] (defScope (top 42)) := ⟨rfl, rfl, rfl, by decide +kernel, rfl, by decide +kernel, by decide +kernel⟩
theorem sc_check_small : FnScope ["tower", "_", "weights"] ["tower"] (defScope (top 44)) := ⟨rfl, rfl, rfl, by decide +kernel, rfl, by decide +kernel, by decide +kernel⟩
theorem sc_groups_by_weight : FnScope ["tower", "_", "weights", "groups", "person", "weight", "without_person", "total", "group"] ["tower"] (defScope (top 45)) := ⟨rfl, rfl, rfl, by decide +kernel, rfl, by decide +kernel, by decide +kernel⟩
theorem sc_sums_of : FnScope ["tower"] ["tower"] (defScope (top 46)) := ⟨rfl, rfl, rfl, by decide +kernel, rfl, by decide +kernel, by decide +kernel⟩
theorem sc_sums_between : FnScope ["tower", "start", "goal", "low", "high", "total"] ["tower", "start", "goal"] (defScope (top 47)) := ⟨rfl, rfl, rfl, by decide +kernel, rfl, by decide +kernel, by decide +kernel⟩
theorem sc_find_bar : FnScope ["tower", "start", "goal", "excess", "_", "sums", "low", "high"] ["tower", "start", "goal"] (defScope (top 48)) := ⟨rfl, rfl, rfl, by decide +kernel, rfl, by decide +kernel, by decide +kernel⟩
theorem sc_stops_between : FnScope ["tower", "start", "goal", "excess", "_", "stops", "sums", "total", "beyond"] ["tower", "start", "goal"] (defScope (top 49)) := ⟨rfl, rfl, rfl, by decide +kernel, rfl, by decide +kernel, by decide +kernel⟩
theorem sc_certificate : FnScope ["tower", "start", "goal", "plan"] ["tower", "start", "goal"] (defScope (top 50)) := ⟨rfl, rfl, rfl, by decide +kernel, rfl, by decide +kernel, by decide +kernel⟩
theorem sc_find_plan : FnScope ["tower", "start", "goal", "groups", "route", "stop", "here", "there"] ["tower", "start", "goal"] (defScope (top 52)) := ⟨rfl, rfl, rfl, by decide +kernel, rfl, by decide +kernel, by decide +kernel⟩
theorem sc__law_deck : FnScope ["script", "cell"] ["script"] (defScope (top 73)) := ⟨rfl, rfl, rfl, by decide +kernel, rfl, by decide +kernel, by decide +kernel⟩
theorem sc__law_draw : FnScope ["deck", "many", "cell", "place"] ["deck", "many"] (defScope (top 74)) := ⟨rfl, rfl, rfl, by decide +kernel, rfl, by decide +kernel, by decide +kernel⟩
theorem sc__law_weight : FnScope ["deck", "excess", "weights", "total", "some"] ["deck", "excess", "weights"] (defScope (top 75)) := ⟨rfl, rfl, rfl, by decide +kernel, rfl, by decide +kernel, by decide +kernel⟩
theorem sc__law_tower : FnScope ["deck", "most", "excess", "weights", "k", "at"] ["deck", "most"] (defScope (top 76)) := ⟨rfl, rfl, rfl, by decide +kernel, rfl, by decide +kernel, by decide +kernel⟩
theorem sc__law_edit : FnScope ["deck", "tower", "excess", "weights", "way", "near"] ["deck", "tower"] (defScope (top 77)) := ⟨rfl, rfl, rfl, by decide +kernel, rfl, by decide +kernel, by decide +kernel⟩
theorem sc__law_do : FnScope ["table", "edit"] ["table", "edit"] (defScope (top 78)) := ⟨rfl, rfl, rfl, by decide +kernel, rfl, by decide +kernel, by decide +kernel⟩
theorem sc__law_load : FnScope ["weights", "group", "one"] ["weights", "group"] (defScope (top 79)) := ⟨rfl, rfl, rfl, by decide +kernel, rfl, by decide +kernel, by decide +kernel⟩
theorem sc__law_plan_right : FnScope ["tower", "plan", "goal", "excess", "weights", "basket", "every", "bottom", "time", "down", "up", "one", "other", "before", "gain"] ["tower", "plan", "goal"] (defScope (top 80)) := ⟨rfl, rfl, rfl, by decide +kernel, rfl, by decide +kernel, by decide +kernel⟩
theorem sc__law_edit_right : FnScope ["table", "edit", "before", "many", "one", "other"] ["table", "edit"] (defScope (top 81)) := ⟨rfl, rfl, rfl, by decide +kernel, rfl, by decide +kernel, by decide +kernel⟩
theorem sc_law : FnScope ["script", "deck", "turn", "tower", "table", "time", "goal", "k", "found"] ["script"] (defScope (top 82)) := ⟨rfl, rfl, rfl, by decide +kernel, rfl, by decide +kernel, by decide +kernel⟩
theorem sc_Load___init__ : FnScope ["self", "weights", "weight"] ["self", "weights"] (defScope (memb (top 37) 0)) := ⟨rfl, rfl, rfl, by decide +kernel, rfl, by decide +kernel, by decide +kernel⟩
theorem sc_Load___add__ : FnScope ["self", "other"] ["self", "other"] (defScope (memb (top 37) 5)) := ⟨rfl, rfl, rfl, by decide +kernel, rfl, by decide +kernel, by decide +kernel⟩
theorem sc_Load___sub__ : FnScope ["self", "other", "missing", "rest", "weight"] ["self", "other"] (defScope (memb (top 37) 6)) := ⟨rfl, rfl, rfl, by decide +kernel, rfl, by decide +kernel, by decide +kernel⟩
theorem sc_Load___eq__ : FnScope ["self", "other"] ["self", "other"] (defScope (memb (top 37) 10)) := ⟨rfl, rfl, rfl, by decide +kernel, rfl, by decide +kernel, by decide +kernel⟩
theorem sc_Load___contains__ : FnScope ["self", "value"] ["self", "value"] (defScope (memb (top 37) 7)) := ⟨rfl, rfl, rfl, by decide +kernel, rfl, by decide +kernel, by decide +kernel⟩
theorem sc_Basket___init__ : FnScope ["self", "excess"] ["self", "excess"] (defScope (memb (top 38) 0)) := ⟨rfl, rfl, rfl, by decide +kernel, rfl, by decide +kernel, by decide +kernel⟩
theorem sc_Basket___call__ : FnScope ["self", "one", "other", "value", "difference"] ["self", "one", "other"] (defScope (memb (top 38) 3)) := ⟨rfl, rfl, rfl, by decide +kernel, rfl, by decide +kernel, by decide +kernel⟩
theorem sc_Hoist___init__ : FnScope ["self", "tower", "error"] ["self", "tower"] (defScope (memb (top 69) 1)) := ⟨rfl, rfl, rfl, by decide +kernel, rfl, by decide +kernel, by decide +kernel⟩
theorem sc_Hoist_come : FnScope ["self", "weight", "excess", "weights"] ["self", "weight"] (defScope (memb (top 69) 5)) := ⟨rfl, rfl, rfl, by decide +kernel, rfl, by decide +kernel, by decide +kernel⟩
theorem sc_Hoist_leave : FnScope ["self", "person", "excess", "weights"] ["self", "person"] (defScope (memb (top 69) 6)) := ⟨rfl, rfl, rfl, by decide +kernel, rfl, by decide +kernel, by decide +kernel⟩
theorem sc_Hoist_weigh : FnScope ["self", "person", "weight", "excess", "weights"] ["self", "person", "weight"] (defScope (memb (top 69) 7)) := ⟨rfl, rfl, rfl, by decide +kernel, rfl, by decide +kernel, by decide +kernel⟩
theorem sc_Hoist_loosen : FnScope ["self", "excess", "_", "weights"] ["self", "excess"] (defScope (memb (top 69) 8)) := ⟨rfl, rfl, rfl, by decide +kernel, rfl, by decide +kernel, by decide +kernel⟩
theorem sc_Hoist___len__ : FnScope ["self"] ["self"] (defScope (memb (top 69) 16)) := ⟨rfl, rfl, rfl, by decide +kernel, rfl, by decide +kernel, by decide +kernel⟩
theorem sc_Hoist__check_idle : FnScope ["self"] ["self"] (defScope (memb (top 69) 19)) := ⟨rfl, rfl, rfl, by decide +kernel, rfl, by decide +kernel, by decide +kernel⟩
theorem sc_Hoist__check_edit : FnScope ["self"] ["self"] (defScope (memb (top 69) 20)) := ⟨rfl, rfl, rfl, by decide +kernel, rfl, by decide +kernel, by decide +kernel⟩
theorem sc_Hoist__check_person : FnScope ["self", "person", "_", "weights"] ["self", "person"] (defScope (memb (top 69) 21)) := ⟨rfl, rfl, rfl, by decide +kernel, rfl, by decide +kernel, by decide +kernel⟩
theorem sc_Hoist__check_tower : FnScope ["self", "tower"] ["self", "tower"] (defScope (memb (top 69) 22)) := ⟨rfl, rfl, rfl, by decide +kernel, rfl, by decide +kernel, by decide +kernel⟩
theorem sc_Hoist__keep : FnScope ["self", "edit", "tower"] ["self", "edit", "tower"] (defScope (memb (top 69) 23)) := ⟨rfl, rfl, rfl, by decide +kernel, rfl, by decide +kernel, by decide +kernel⟩
theorem sc_Hoist_tower : FnScope ["self"] ["self"] (defScope (memb (top 69) 2)) := ⟨rfl, rfl, rfl, by decide +kernel, rfl, by decide +kernel, by decide +kernel⟩
theorem sc_Hoist_state : FnScope ["self", "version"] ["self", "version"] (defScope (memb (top 69) 11)) := ⟨rfl, rfl, rfl, by decide +kernel, rfl, by decide +kernel, by decide +kernel⟩
theorem sc_Hoist_certificate : FnScope ["self", "goal", "version", "tower"] ["self", "goal", "version"] (defScope (memb (top 69) 12)) := ⟨rfl, rfl, rfl, by decide +kernel, rfl, by decide +kernel, by decide +kernel⟩
structure ObjT (P : Program) (w : World) (K : PySem.W.Frag) (mg : Str → Option Value) (base : Heap) : Prop where
  cls_Basket : Cls K (Ers.ad "Basket")
  cls_Hoist : Cls K (Ers.ad "Hoist")
  cls_Load : Cls K (Ers.ad "Load")
  get_Basket_excess : GetP P w K mg base "Basket" "excess" "_excess"
  get_Basket_rides : GetP P w K mg base "Basket" "rides" "_rides"
  get_Load_total : GetP P w K mg base "Load" "total" "_total"
  get_Load_weights : GetP P w K mg base "Load" "weights" "_weights"
  is_Load : ClsI K (Ers.ad "Load")
  mk_Basket : ClsM K mg "Basket"
  mk_Hoist : ClsM K mg "Hoist"
  mk_Load : ClsM K mg "Load"
  no_Basket__excess : NoAttr K (Ers.ad "Basket") "_excess"
  no_Basket__rides : NoAttr K (Ers.ad "Basket") "_rides"
  no_Hoist__edits : NoAttr K (Ers.ad "Hoist") "_edits"
  no_Hoist__towers : NoAttr K (Ers.ad "Hoist") "_towers"
  no_Hoist__watched : NoAttr K (Ers.ad "Hoist") "_watched"
  no_Load__total : NoAttr K (Ers.ad "Load") "_total"
  no_Load__weights : NoAttr K (Ers.ad "Load") "_weights"
  sf_Load : PySem.W.selfFirst K (Ers.ad "Load") = true
theorem sx_Missing : FnScope ["self", "weight"] ["self", "weight"] (defScope (memb (top 15) 0)) := ⟨rfl, rfl, rfl, by decide +kernel, rfl, by decide +kernel, by decide +kernel⟩
theorem ok_is_number_between {P : Program} {w : World} {K : PySem.W.Frag} {mg : Str → Option Value} {base : Heap} (T : Txt mg) (D : DefAt K mg "is_number_between" (top 9)) : CalD P w K mg base 1 "is_number_between" ["value", "low", "high"] S_is_number_between := by
  refine CalD.mk (T := T_is_number_between) D sc_is_number_between (fun _ _ _ _ _ _ us hl => match us, hl with | [_, _, _], _ => rfl) ar_is_number_between (fun f cdv A fs s hp e hr gd => ?_) rd_is_number_between
  have sc := sc_is_number_between
  have hu := hr.units
  exact (ds_one (ds_ret (de_and (de_callB call_isi ok_isi (by rfl) T.b_isinstance (by decide +kernel) (da_cons (dv 0) (da_cons (de_bltn (v := .ty "int") (by rfl) T.b_int (by decide +kernel) rfl) da_nil))) (de_and (de_not (de_callB call_isi ok_isi (by rfl) T.b_isinstance (by decide +kernel) (da_cons (dv 0) (da_cons (de_bltn (v := .ty "bool") (by rfl) T.b_bool (by decide +kernel) rfl) da_nil)))) (de_one (de_chain op_le ok_b0 op_le ok_b0 (dv 1) (dv 0) (dv 2)))))))

theorem ok_is_excess {P : Program} {w : World} {K : PySem.W.Frag} {mg : Str → Option Value} {base : Heap} (T : Txt mg) (D : DefAt K mg "is_excess" (top 30)) (C_is_number_between : CalD P w K mg base 1 "is_number_between" ["value", "low", "high"] S_is_number_between) : CalD P w K mg base 2 "is_excess" ["value"] S_is_excess := by
  refine CalD.mk (T := T_is_excess) D sc_is_excess (fun _ _ _ _ _ _ us hl => match us, hl with | [_], _ => rfl) ar_is_excess (fun f cdv A fs s hp e hr gd => ?_) rd_is_excess
  have sc := sc_is_excess
  have hu := hr.units
  exact (ds_one (ds_ret (de_call C_is_number_between (hr.mono (by decide)) gd (by rfl) (da_cons (dv 0) (da_cons de_int (da_cons (de_globI2 (by rfl) T.c_MAX_EXCESS) da_nil))))))

theorem ok_is_weight {P : Program} {w : World} {K : PySem.W.Frag} {mg : Str → Option Value} {base : Heap} (T : Txt mg) (D : DefAt K mg "is_weight" (top 31)) (C_is_number_between : CalD P w K mg base 1 "is_number_between" ["value", "low", "high"] S_is_number_between) : CalD P w K mg base 2 "is_weight" ["value"] S_is_weight := by
  refine CalD.mk (T := T_is_weight) D sc_is_weight (fun _ _ _ _ _ _ us hl => match us, hl with | [_], _ => rfl) ar_is_weight (fun f cdv A fs s hp e hr gd => ?_) rd_is_weight
  have sc := sc_is_weight
  have hu := hr.units
  exact (ds_one (ds_ret (de_call C_is_number_between (hr.mono (by decide)) gd (by rfl) (da_cons (dv 0) (da_cons de_int (da_cons (de_globI2 (by rfl) T.c_MAX_WEIGHT) da_nil))))))

theorem ok_tower_error {P : Program} {w : World} {K : PySem.W.Frag} {mg : Str → Option Value} {base : Heap} (T : Txt mg) (D : DefAt K mg "tower_error" (top 32)) (C_is_excess : CalD P w K mg base 2 "is_excess" ["value"] S_is_excess) (C_is_weight : CalD P w K mg base 2 "is_weight" ["value"] S_is_weight) : CalD P w K mg base 3 "tower_error" ["value"] S_tower_error := by
  refine CalD.mk (T := T_tower_error) D sc_tower_error (fun _ _ _ _ _ _ us hl => match us, hl with | [_], _ => rfl) ar_tower_error (fun f cdv A fs s hp e hr gd => ?_) rd_tower_error
  have sc := sc_tower_error
  have hu := hr.units
  exact (ds_cons (ds_if (dt_bool (dw_or (dt_not (dt_val (de_callB call_isi ok_isi (by rfl) T.b_isinstance (by decide +kernel) (da_cons (dv 0) (da_cons (de_bltn (v := .ty "tuple") (by rfl) T.b_tuple (by decide +kernel) rfl) da_nil))))) (dw_or1 (dt_cmp (op_neA hu) ok_ne (de_callB call_len ok_len (by rfl) T.b_len (by decide +kernel) (da_cons (dv 0) da_nil)) de_int)))) (ds_one (ds_ret (de_tup (da_cons de_non (da_cons de_str da_nil))))) ds_nil)
    (ds_cons (ds_asg (dv 0) (dg_tup rfl (dgs_cons (dg_name (i := 1) sc.nd rfl (by first | exact Or.inl rfl | exact Or.inr rfl)) (dgs_cons (dg_name (i := 2) sc.nd rfl (by first | exact Or.inl rfl | exact Or.inr rfl)) dgs_nil))))
    (ds_cons (ds_if (dt_not (dt_val (de_call C_is_excess (hr.mono (by decide)) gd (by rfl) (da_cons (dv 1) da_nil)))) (ds_one (ds_ret (de_tup (da_cons de_non (da_cons de_str da_nil))))) ds_nil)
    (ds_cons (ds_if (dt_bool (dw_or (dt_not (dt_val (de_callB call_isi ok_isi (by rfl) T.b_isinstance (by decide +kernel) (da_cons (dv 2) (da_cons (de_bltn (v := .ty "tuple") (by rfl) T.b_tuple (by decide +kernel) rfl) da_nil))))) (dw_or1 (dt_cmp op_gt ok_b0 (de_callB call_len ok_len (by rfl) T.b_len (by decide +kernel) (da_cons (dv 2) da_nil)) (de_globI2 (by rfl) T.c_MAX_PEOPLE))))) (ds_one (ds_ret (de_tup (da_cons de_non (da_cons de_str da_nil))))) ds_nil)
    (ds_cons (ds_for PassesOwn.never rfl (di_enum (by rfl) T.b_enumerate (da_cons (dv 2) da_nil)) (dg_tup rfl (dgs_cons (dg_name (i := 3) sc.nd rfl (by first | exact Or.inl rfl | exact Or.inr rfl)) (dgs_cons (dg_name (i := 4) sc.nd rfl (by first | exact Or.inl rfl | exact Or.inr rfl)) dgs_nil))) (ds_one (ds_if (dt_not (dt_val (de_call C_is_weight (hr.mono (by decide)) gd (by rfl) (da_cons (dv 4) da_nil)))) (ds_one (ds_ret (de_tup (da_cons (dv 3) (da_cons de_str da_nil))))) ds_nil)))
    (ds_one (ds_ret de_non)))))))

theorem ok_is_group {P : Program} {w : World} {K : PySem.W.Frag} {mg : Str → Option Value} {base : Heap} (T : Txt mg) (D : DefAt K mg "is_group" (top 33)) (C_is_number_between : CalD P w K mg base 1 "is_number_between" ["value", "low", "high"] S_is_number_between) : CalD P w K mg base 2 "is_group" ["tower", "value"] S_is_group := by
  refine CalD.mk (T := T_is_group) D sc_is_group (fun _ _ _ _ _ _ us hl => match us, hl with | [_, _], _ => rfl) ar_is_group (fun f cdv A fs s hp e hr gd => ?_) rd_is_group
  have sc := sc_is_group
  have hu := hr.units
  exact (ds_cons (ds_if (dt_not (dt_val (de_callB call_isi ok_isi (by rfl) T.b_isinstance (by decide +kernel) (da_cons (dv 1) (da_cons (de_bltn (v := .ty "tuple") (by rfl) T.b_tuple (by decide +kernel) rfl) da_nil))))) (ds_one (ds_ret de_bl)) ds_nil)
    (ds_cons (ds_asg (dv 0) (dg_tup rfl (dgs_cons (dg_name (i := 2) sc.nd rfl (by first | exact Or.inl rfl | exact Or.inr rfl)) (dgs_cons (dg_name (i := 3) sc.nd rfl (by first | exact Or.inl rfl | exact Or.inr rfl)) dgs_nil))))
    (ds_cons (ds_set (i := 4) sc.nd rfl (by first | exact Or.inl rfl | exact Or.inr rfl) de_int)
    (ds_cons (ds_for PassesOwn.never rfl (di_seq (dv 1)) (dg_name (i := 5) sc.nd rfl (by first | exact Or.inl rfl | exact Or.inr rfl)) (ds_cons (ds_if (dt_not (dt_val (de_call C_is_number_between (hr.mono (by decide)) gd (by rfl) (da_cons (dv 5) (da_cons (dv 4) (da_cons (de_op op_sub ok_i0 (de_callB call_len ok_len (by rfl) T.b_len (by decide +kernel) (da_cons (dv 3) da_nil)) de_int) da_nil)))))) (ds_one (ds_ret de_bl)) ds_nil)
    (ds_one (ds_set (i := 4) sc.nd rfl (by first | exact Or.inl rfl | exact Or.inr rfl) (de_op op_addA ok_add (dv 5) de_int)))))
    (ds_one (ds_ret de_bl))))))

theorem ok_weight_of {P : Program} {w : World} {K : PySem.W.Frag} {mg : Str → Option Value} {base : Heap} (T : Txt mg) (D : DefAt K mg "weight_of" (top 34)) : CalD P w K mg base 1 "weight_of" ["tower", "group"] S_weight_of := by
  refine CalD.mk (T := T_weight_of) D sc_weight_of (fun _ _ _ _ _ _ us hl => match us, hl with | [_, _], _ => rfl) ar_weight_of (fun f cdv A fs s hp e hr gd => ?_) rd_weight_of
  have sc := sc_weight_of
  have hu := hr.units
  exact (ds_cons (ds_asg (dv 0) (dg_tup rfl (dgs_cons (dg_name (i := 2) sc.nd rfl (by first | exact Or.inl rfl | exact Or.inr rfl)) (dgs_cons (dg_name (i := 3) sc.nd rfl (by first | exact Or.inl rfl | exact Or.inr rfl)) dgs_nil))))
    (ds_one (ds_ret (de_callB (cr_sum rfl) ok_sum (by rfl) T.b_sum (by decide +kernel) (da_cons (de_lc (own := [("person", 4)]) rfl sc.nd (di_seq (dv 1)) (blkOk_by (N := ["tower", "group", "_", "weights", "person"]) (sc := defScope (top 34)) (by decide +kernel)) (fun _ _ _ _ _ => pg_name (i := 4) sc.nd rfl (by first | exact Or.inl rfl | exact Or.inr rfl)) (gok_name (i := 4) (by decide)) (fun _ _ _ _ _ => dts_nil) (fun _ _ _ _ _ => (de_ix (dv 3) (dv 4) (fun _ _ => rfl)))) da_nil)))))

theorem ok_missing_weight {P : Program} {w : World} {K : PySem.W.Frag} {mg : Str → Option Value} {base : Heap} (T : Txt mg) (D : DefAt K mg "missing_weight" (top 36)) : CalD P w K mg base 1 "missing_weight" ["weights", "others"] S_missing_weight := by
  refine CalD.mk (T := T_missing_weight) D sc_missing_weight (fun _ _ _ _ _ _ us hl => match us, hl with | [_, _], _ => rfl) ar_missing_weight (fun f cdv A fs s hp e hr gd => ?_) rd_missing_weight
  have sc := sc_missing_weight
  have hu := hr.units
  exact (ds_cons (ds_for PassesOwn.never rfl (di_seq (dv 1)) (dg_name (i := 2) sc.nd rfl (by first | exact Or.inl rfl | exact Or.inr rfl)) (ds_one (ds_if (dt_cmp op_gt ok_b0 (de_cntN (dv 1) (dv 2)) (de_cntN (dv 0) (dv 2))) (ds_one (ds_ret (dv 2))) ds_nil)))
    (ds_one (ds_ret de_non)))

theorem ok_without {P : Program} {w : World} {K : PySem.W.Frag} {mg : Str → Option Value} {base : Heap} (T : Txt mg) (D : DefAt K mg "without" (top 40)) : CalD P w K mg base 1 "without" ["group", "others"] S_without := by
  refine CalD.mk (T := T_without) D sc_without (fun _ _ _ _ _ _ us hl => match us, hl with | [_, _], _ => rfl) ar_without (fun f cdv A fs s hp e hr gd => ?_) rd_without
  have sc := sc_without
  have hu := hr.units
  exact (ds_one (ds_ret (de_callTy call_tuple_of ok_tupOf (by rfl) T.b_tuple (by decide +kernel) (da_cons (de_lc (own := [("person", 2)]) rfl sc.nd (di_seq (dv 0)) (blkOk_by (N := ["group", "others", "person"]) (sc := defScope (top 40)) (by decide +kernel)) (fun _ _ _ _ _ => pg_name (i := 2) sc.nd rfl (by first | exact Or.inl rfl | exact Or.inr rfl)) (gok_name (i := 2) (by decide)) (fun _ _ _ _ _ => (dts_one (dt_cmp op_notIn_seq ok_inI (dv 2) (dv 1)))) (fun _ _ _ _ _ => (dv 2))) da_nil))))

theorem ok_is_move {P : Program} {w : World} {K : PySem.W.Frag} {mg : Str → Option Value} {base : Heap} (T : Txt mg) (D : DefAt K mg "is_move" (top 41)) (C_is_group : CalD P w K mg base 2 "is_group" ["tower", "value"] S_is_group) (C_weight_of : CalD P w K mg base 1 "weight_of" ["tower", "group"] S_weight_of) (C_without : CalD P w K mg base 1 "without" ["group", "others"] S_without) : CalD P w K mg base 3 "is_move" ["tower", "group", "value"] S_is_move := by
  refine CalD.mk (T := T_is_move) D sc_is_move (fun _ _ _ _ _ _ us hl => match us, hl with | [_, _, _], _ => rfl) ar_is_move (fun f cdv A fs s hp e hr gd => ?_) rd_is_move
  have sc := sc_is_move
  have hu := hr.units
  exact (ds_cons (ds_if (dt_bool (dw_or (dt_not (dt_val (de_callB call_isi ok_isi (by rfl) T.b_isinstance (by decide +kernel) (da_cons (dv 2) (da_cons (de_bltn (v := .ty "tuple") (by rfl) T.b_tuple (by decide +kernel) rfl) da_nil))))) (dw_or1 (dt_cmp (op_neA hu) ok_ne (de_callB call_len ok_len (by rfl) T.b_len (by decide +kernel) (da_cons (dv 2) da_nil)) de_int)))) (ds_one (ds_ret de_bl)) ds_nil)
    (ds_cons (ds_asg (dv 2) (dg_tup rfl (dgs_cons (dg_name (i := 3) sc.nd rfl (by first | exact Or.inl rfl | exact Or.inr rfl)) (dgs_cons (dg_name (i := 4) sc.nd rfl (by first | exact Or.inl rfl | exact Or.inr rfl)) dgs_nil))))
    (ds_cons (ds_if (dt_bool (dw_or (dt_not (dt_val (de_call C_is_group (hr.mono (by decide)) gd (by rfl) (da_cons (dv 0) (da_cons (dv 3) da_nil))))) (dw_or1 (dt_not (dt_val (de_call C_is_group (hr.mono (by decide)) gd (by rfl) (da_cons (dv 0) (da_cons (dv 4) da_nil)))))))) (ds_one (ds_ret de_bl)) ds_nil)
    (ds_cons (ds_if (dt_bool (dw_or (dt_cmp (op_neA hu) ok_ne (de_call C_without (hr.mono (by decide)) gd (by rfl) (da_cons (dv 3) (da_cons (dv 1) da_nil))) (dv 3)) (dw_or1 (dt_cmp (op_neA hu) ok_ne (de_call C_without (hr.mono (by decide)) gd (by rfl) (da_cons (dv 4) (da_cons (dv 1) da_nil))) (de_tup da_nil))))) (ds_one (ds_ret de_bl)) ds_nil)
    (ds_cons (ds_asg (dv 0) (dg_tup rfl (dgs_cons (dg_name (i := 5) sc.nd rfl (by first | exact Or.inl rfl | exact Or.inr rfl)) (dgs_cons (dg_name (i := 6) sc.nd rfl (by first | exact Or.inl rfl | exact Or.inr rfl)) dgs_nil))))
    (ds_one (ds_ret (de_chain op_le ok_b0 op_le ok_b0 de_int (de_op op_sub ok_i0 (de_call C_weight_of (hr.mono (by decide)) gd (by rfl) (da_cons (dv 0) (da_cons (dv 3) da_nil))) (de_call C_weight_of (hr.mono (by decide)) gd (by rfl) (da_cons (dv 0) (da_cons (dv 4) da_nil)))) (dv 5)))))))))

theorem ok_move_between {P : Program} {w : World} {K : PySem.W.Frag} {mg : Str → Option Value} {base : Heap} (T : Txt mg) (D : DefAt K mg "move_between" (top 42)) (C_is_move : CalD P w K mg base 3 "is_move" ["tower", "group", "value"] S_is_move) (C_without : CalD P w K mg base 1 "without" ["group", "others"] S_without) : CalD P w K mg base 4 "move_between" ["tower", "start", "goal"] S_move_between := by
  refine CalD.mk (T := T_move_between) D sc_move_between (fun _ _ _ _ _ _ us hl => match us, hl with | [_, _, _], _ => rfl) ar_move_between (fun f cdv A fs s hp e hr gd => ?_) rd_move_between
  have sc := sc_move_between
  have hu := hr.units
  exact (ds_cons (ds_set (i := 3) sc.nd rfl (by first | exact Or.inl rfl | exact Or.inr rfl) (de_tup (da_cons (de_call C_without (hr.mono (by decide)) gd (by rfl) (da_cons (dv 2) (da_cons (dv 1) da_nil))) (da_cons (de_call C_without (hr.mono (by decide)) gd (by rfl) (da_cons (dv 1) (da_cons (dv 2) da_nil))) da_nil))))
    (ds_one (ds_ret (de_if (dt_val (de_call C_is_move (hr.mono (by decide)) gd (by rfl) (da_cons (dv 0) (da_cons (dv 1) (da_cons (dv 3) da_nil))))) (dv 3) de_non))))

theorem ok_check_small {P : Program} {w : World} {K : PySem.W.Frag} {mg : Str → Option Value} {base : Heap} (T : Txt mg) (D : DefAt K mg "check_small" (top 44)) : CalD P w K mg base 1 "check_small" ["tower"] S_check_small := by
  refine CalD.mk (T := T_check_small) D sc_check_small (fun _ _ _ _ _ _ us hl => match us, hl with | [_], _ => rfl) ar_check_small (fun f cdv A fs s hp e hr gd => ?_) rd_check_small
  have sc := sc_check_small
  have hu := hr.units
  exact (ds_cons (ds_asg (dv 0) (dg_tup rfl (dgs_cons (dg_name (i := 1) sc.nd rfl (by first | exact Or.inl rfl | exact Or.inr rfl)) (dgs_cons (dg_name (i := 2) sc.nd rfl (by first | exact Or.inl rfl | exact Or.inr rfl)) dgs_nil))))
    (ds_one (ds_if (dt_cmp op_gt ok_b0 (de_callB call_len ok_len (by rfl) T.b_len (by decide +kernel) (da_cons (dv 2) da_nil)) (de_globI2 (by rfl) T.c_SMALL)) (ds_one ds_never) ds_nil)))

theorem ok_groups_by_weight {P : Program} {w : World} {K : PySem.W.Frag} {mg : Str → Option Value} {base : Heap} (T : Txt mg) (D : DefAt K mg "groups_by_weight" (top 45)) : CalD P w K mg base 1 "groups_by_weight" ["tower"] S_groups_by_weight := by
  refine CalD.mk (T := T_groups_by_weight) D sc_groups_by_weight (fun _ _ _ _ _ _ us hl => match us, hl with | [_], _ => rfl) ar_groups_by_weight (fun f cdv A fs s hp e hr gd => ?_) rd_groups_by_weight
  have sc := sc_groups_by_weight
  have hu := hr.units
  exact (ds_cons (ds_asg (dv 0) (dg_tup rfl (dgs_cons (dg_name (i := 1) sc.nd rfl (by first | exact Or.inl rfl | exact Or.inr rfl)) (dgs_cons (dg_name (i := 2) sc.nd rfl (by first | exact Or.inl rfl | exact Or.inr rfl)) dgs_nil))))
    (ds_cons (ds_set (i := 3) sc.nd rfl (by first | exact Or.inl rfl | exact Or.inr rfl) (de_dicK de_int (de_tup da_nil)))
    (ds_cons (ds_for PassesOwn.never rfl (di_enum (by rfl) T.b_enumerate (da_cons (dv 2) da_nil)) (dg_tup rfl (dgs_cons (dg_name (i := 4) sc.nd rfl (by first | exact Or.inl rfl | exact Or.inr rfl)) (dgs_cons (dg_name (i := 5) sc.nd rfl (by first | exact Or.inl rfl | exact Or.inr rfl)) dgs_nil))) (ds_cons (ds_set (i := 6) sc.nd rfl (by first | exact Or.inl rfl | exact Or.inr rfl) (de_itemsL rfl (by rfl) T.b_list (dv 3)))
    (ds_one (ds_for PassesOwn.never rfl (di_seq (dv 6)) (dg_tup rfl (dgs_cons (dg_name (i := 7) sc.nd rfl (by first | exact Or.inl rfl | exact Or.inr rfl)) (dgs_cons (dg_name (i := 8) sc.nd rfl (by first | exact Or.inl rfl | exact Or.inr rfl)) dgs_nil))) (ds_one (ds_expr (de_setd (dv 3) (de_op op_addA ok_add (dv 7) (dv 5)) (de_tup (da_star (dv 8) (da_cons (dv 4) da_nil))))))))))
    (ds_one (ds_ret (dv 3))))))

theorem ok_sums_of {P : Program} {w : World} {K : PySem.W.Frag} {mg : Str → Option Value} {base : Heap} (T : Txt mg) (D : DefAt K mg "sums_of" (top 46)) (C_check_small : CalD P w K mg base 1 "check_small" ["tower"] S_check_small) (C_groups_by_weight : CalD P w K mg base 1 "groups_by_weight" ["tower"] S_groups_by_weight) : CalD P w K mg base 2 "sums_of" ["tower"] S_sums_of := by
  refine CalD.mk (T := T_sums_of) D sc_sums_of (fun _ _ _ _ _ _ us hl => match us, hl with | [_], _ => rfl) ar_sums_of (fun f cdv A fs s hp e hr gd => ?_) rd_sums_of
  have sc := sc_sums_of
  have hu := hr.units
  exact (ds_cons (ds_expr (de_call C_check_small (hr.mono (by decide)) gd (by rfl) (da_cons (dv 0) da_nil)))
    (ds_one (ds_ret (de_callTy call_tuple_of ok_tupOf (by rfl) T.b_tuple (by decide +kernel) (da_cons (de_callB (cr_sortDK rfl) ok_sortDK (by rfl) T.b_sorted (by decide +kernel) (da_cons (de_call C_groups_by_weight (hr.mono (by decide)) gd (by rfl) (da_cons (dv 0) da_nil)) da_nil)) da_nil)))))

theorem ok_sums_between {P : Program} {w : World} {K : PySem.W.Frag} {mg : Str → Option Value} {base : Heap} (T : Txt mg) (D : DefAt K mg "sums_between" (top 47)) (C_sums_of : CalD P w K mg base 2 "sums_of" ["tower"] S_sums_of) (C_weight_of : CalD P w K mg base 1 "weight_of" ["tower", "group"] S_weight_of) : CalD P w K mg base 3 "sums_between" ["tower", "start", "goal"] S_sums_between := by
  refine CalD.mk (T := T_sums_between) D sc_sums_between (fun _ _ _ _ _ _ us hl => match us, hl with | [_, _, _], _ => rfl) ar_sums_between (fun f cdv A fs s hp e hr gd => ?_) rd_sums_between
  have sc := sc_sums_between
  have hu := hr.units
  exact (ds_cons (ds_set (i := 3) sc.nd rfl (by first | exact Or.inl rfl | exact Or.inr rfl) (de_call C_weight_of (hr.mono (by decide)) gd (by rfl) (da_cons (dv 0) (da_cons (dv 1) da_nil))))
    (ds_cons (ds_set (i := 4) sc.nd rfl (by first | exact Or.inl rfl | exact Or.inr rfl) (de_call C_weight_of (hr.mono (by decide)) gd (by rfl) (da_cons (dv 0) (da_cons (dv 2) da_nil))))
    (ds_one (ds_ret (de_lc (own := [("total", 5)]) rfl sc.nd (di_seq (de_call C_sums_of (hr.mono (by decide)) gd (by rfl) (da_cons (dv 0) da_nil))) (blkOk_by (N := ["tower", "start", "goal", "low", "high", "total"]) (sc := defScope (top 47)) (by decide +kernel)) (fun _ _ _ _ _ => pg_name (i := 5) sc.nd rfl (by first | exact Or.inl rfl | exact Or.inr rfl)) (gok_name (i := 5) (by decide)) (fun _ _ _ _ _ => (dts_one (dt_chain op_le ok_b0 op_le ok_b0 (dv 3) (dv 5) (dv 4)))) (fun _ _ _ _ _ => (dv 5)))))))

theorem ok_find_bar {P : Program} {w : World} {K : PySem.W.Frag} {mg : Str → Option Value} {base : Heap} (T : Txt mg) (D : DefAt K mg "find_bar" (top 48)) (C_sums_between : CalD P w K mg base 3 "sums_between" ["tower", "start", "goal"] S_sums_between) (C_weight_of : CalD P w K mg base 1 "weight_of" ["tower", "group"] S_weight_of) : CalD P w K mg base 4 "find_bar" ["tower", "start", "goal"] S_find_bar := by
  refine CalD.mk (T := T_find_bar) D sc_find_bar (fun _ _ _ _ _ _ us hl => match us, hl with | [_, _, _], _ => rfl) ar_find_bar (fun f cdv A fs s hp e hr gd => ?_) rd_find_bar
  have sc := sc_find_bar
  have hu := hr.units
  exact (ds_cons (ds_if (dt_cmp op_le ok_b0 (de_call C_weight_of (hr.mono (by decide)) gd (by rfl) (da_cons (dv 0) (da_cons (dv 2) da_nil))) (de_call C_weight_of (hr.mono (by decide)) gd (by rfl) (da_cons (dv 0) (da_cons (dv 1) da_nil)))) (ds_one (ds_ret (de_tup (da_cons de_str da_nil)))) ds_nil)
    (ds_cons (ds_asg (dv 0) (dg_tup rfl (dgs_cons (dg_name (i := 3) sc.nd rfl (by first | exact Or.inl rfl | exact Or.inr rfl)) (dgs_cons (dg_name (i := 4) sc.nd rfl (by first | exact Or.inl rfl | exact Or.inr rfl)) dgs_nil))))
    (ds_cons (ds_set (i := 5) sc.nd rfl (by first | exact Or.inl rfl | exact Or.inr rfl) (de_call C_sums_between (hr.mono (by decide)) gd (by rfl) (da_cons (dv 0) (da_cons (dv 1) (da_cons (dv 2) da_nil)))))
    (ds_cons (ds_for PassesOwn.never rfl (di_zipL (by rfl) T.b_zip (da_cons (dv 5) (da_cons (de_sl (dv 5) (do_some de_int) do_none) da_nil))) (dg_tup rfl (dgs_cons (dg_name (i := 6) sc.nd rfl (by first | exact Or.inl rfl | exact Or.inr rfl)) (dgs_cons (dg_name (i := 7) sc.nd rfl (by first | exact Or.inl rfl | exact Or.inr rfl)) dgs_nil))) (ds_one (ds_if (dt_cmp op_gt ok_b0 (de_op op_sub ok_i0 (dv 7) (dv 6)) (dv 3)) (ds_one (ds_ret (de_tup (da_cons de_str (da_cons (dv 6) (da_cons (dv 7) da_nil)))))) ds_nil)))
    (ds_one (ds_ret de_non))))))

theorem ok_stops_between {P : Program} {w : World} {K : PySem.W.Frag} {mg : Str → Option Value} {base : Heap} (T : Txt mg) (D : DefAt K mg "stops_between" (top 49)) (C_sums_between : CalD P w K mg base 3 "sums_between" ["tower", "start", "goal"] S_sums_between) (C_weight_of : CalD P w K mg base 1 "weight_of" ["tower", "group"] S_weight_of) : CalD P w K mg base 4 "stops_between" ["tower", "start", "goal"] S_stops_between := by
  refine CalD.mk (T := T_stops_between) D sc_stops_between (fun _ _ _ _ _ _ us hl => match us, hl with | [_, _, _], _ => rfl) ar_stops_between (fun f cdv A fs s hp e hr gd => ?_) rd_stops_between
  have sc := sc_stops_between
  have hu := hr.units
  exact (ds_cons (ds_asg (dv 0) (dg_tup rfl (dgs_cons (dg_name (i := 3) sc.nd rfl (by first | exact Or.inl rfl | exact Or.inr rfl)) (dgs_cons (dg_name (i := 4) sc.nd rfl (by first | exact Or.inl rfl | exact Or.inr rfl)) dgs_nil))))
    (ds_cons (ds_set (i := 5) sc.nd rfl (by first | exact Or.inl rfl | exact Or.inr rfl) (de_lstO (da_cons (de_call C_weight_of (hr.mono (by decide)) gd (by rfl) (da_cons (dv 0) (da_cons (dv 1) da_nil))) da_nil)))
    (ds_cons (ds_set (i := 6) sc.nd rfl (by first | exact Or.inl rfl | exact Or.inr rfl) (de_call C_sums_between (hr.mono (by decide)) gd (by rfl) (da_cons (dv 0) (da_cons (dv 1) (da_cons (dv 2) da_nil)))))
    (ds_cons (ds_for PassesOwn.never rfl (di_zipL (by rfl) T.b_zip (da_cons (dv 6) (da_cons (de_sl (dv 6) (do_some de_int) do_none) da_nil))) (dg_tup rfl (dgs_cons (dg_name (i := 7) sc.nd rfl (by first | exact Or.inl rfl | exact Or.inr rfl)) (dgs_cons (dg_name (i := 8) sc.nd rfl (by first | exact Or.inl rfl | exact Or.inr rfl)) dgs_nil))) (ds_one (ds_if (dt_cmp op_gt ok_b0 (de_op op_sub ok_i0 (dv 8) (de_ix (dv 5) (de_un un_neg ok_neg de_int) (fun _ _ => rfl))) (dv 3)) (ds_one (ds_expr (de_app (dv 5) (dv 7)))) ds_nil)))
    (ds_one (ds_ret (de_sl (dv 5) (do_some de_int) do_none)))))))

theorem ok_find_plan {P : Program} {w : World} {K : PySem.W.Frag} {mg : Str → Option Value} {base : Heap} (T : Txt mg) (D : DefAt K mg "find_plan" (top 52)) (C_check_small : CalD P w K mg base 1 "check_small" ["tower"] S_check_small) (C_find_bar : CalD P w K mg base 4 "find_bar" ["tower", "start", "goal"] S_find_bar) (C_groups_by_weight : CalD P w K mg base 1 "groups_by_weight" ["tower"] S_groups_by_weight) (C_move_between : CalD P w K mg base 4 "move_between" ["tower", "start", "goal"] S_move_between) (C_stops_between : CalD P w K mg base 4 "stops_between" ["tower", "start", "goal"] S_stops_between) : CalD P w K mg base 5 "find_plan" ["tower", "start", "goal"] S_find_plan := by
  refine CalD.mk (T := T_find_plan) D sc_find_plan (fun _ _ _ _ _ _ us hl => match us, hl with | [_, _, _], _ => rfl) ar_find_plan (fun f cdv A fs s hp e hr gd => ?_) rd_find_plan
  have sc := sc_find_plan
  have hu := hr.units
  exact (ds_cons (ds_expr (de_call C_check_small (hr.mono (by decide)) gd (by rfl) (da_cons (dv 0) da_nil)))
    (ds_cons (ds_if (dt_cmp (op_eqA hu) ok_eq (dv 1) (dv 2)) (ds_one (ds_ret (de_tup da_nil))) ds_nil)
    (ds_cons (ds_if (dt_cmp op_notN ok_notN (de_call C_find_bar (hr.mono (by decide)) gd (by rfl) (da_cons (dv 0) (da_cons (dv 1) (da_cons (dv 2) da_nil)))) de_non) (ds_one (ds_ret de_non)) ds_nil)
    (ds_cons (ds_set (i := 3) sc.nd rfl (by first | exact Or.inl rfl | exact Or.inr rfl) (de_call C_groups_by_weight (hr.mono (by decide)) gd (by rfl) (da_cons (dv 0) da_nil)))
    (ds_cons (ds_set (i := 4) sc.nd rfl (by first | exact Or.inl rfl | exact Or.inr rfl) (de_lst (da_cons (dv 1) (da_star (de_lc (own := [("stop", 5)]) rfl sc.nd (di_seq (de_call C_stops_between (hr.mono (by decide)) gd (by rfl) (da_cons (dv 0) (da_cons (dv 1) (da_cons (dv 2) da_nil))))) (blkOk_by (N := ["tower", "start", "goal", "groups", "route", "stop", "here", "there"]) (sc := defScope (top 52)) (by decide +kernel)) (fun _ _ _ _ _ => pg_name (i := 5) sc.nd rfl (by first | exact Or.inl rfl | exact Or.inr rfl)) (gok_name (i := 5) (by decide)) (fun _ _ _ _ _ => dts_nil) (fun _ _ _ _ _ => (de_dget hu (dv 3) (dv 5) (fun _ _ => rfl)))) (da_cons (dv 2) da_nil)))))
    (ds_one (ds_ret (de_callTy call_tuple_of ok_tupOf (by rfl) T.b_tuple (by decide +kernel) (da_cons (de_lc (own := [("here", 6), ("there", 7)]) rfl sc.nd (di_zipL (by rfl) T.b_zip (da_cons (dv 4) (da_cons (de_sl (dv 4) (do_some de_int) do_none) da_nil))) (blkOk_by (N := ["tower", "start", "goal", "groups", "route", "stop", "here", "there"]) (sc := defScope (top 52)) (by decide +kernel)) (fun _ _ _ _ _ => pg_tup rfl (pgs_cons (pg_name (i := 6) sc.nd rfl (by first | exact Or.inl rfl | exact Or.inr rfl)) (pgs_cons (pg_name (i := 7) sc.nd rfl (by first | exact Or.inl rfl | exact Or.inr rfl)) pgs_nil))) (gok_two (i := 6) (j := 7) (by decide) (by decide)) (fun _ _ _ _ _ => dts_nil) (fun _ _ _ _ _ => (de_call C_move_between (hr.mono (by decide)) gd (by rfl) (da_cons (dv 0) (da_cons (dv 6) (da_cons (dv 7) da_nil)))))) da_nil)))))))))

theorem ok_certificate {P : Program} {w : World} {K : PySem.W.Frag} {mg : Str → Option Value} {base : Heap} (T : Txt mg) (D : DefAt K mg "certificate" (top 50)) (C_find_bar : CalD P w K mg base 4 "find_bar" ["tower", "start", "goal"] S_find_bar) (C_find_plan : CalD P w K mg base 5 "find_plan" ["tower", "start", "goal"] S_find_plan) : CalD P w K mg base 6 "certificate" ["tower", "start", "goal"] S_certificate := by
  refine CalD.mk (T := T_certificate) D sc_certificate (fun _ _ _ _ _ _ us hl => match us, hl with | [_, _, _], _ => rfl) ar_certificate (fun f cdv A fs s hp e hr gd => ?_) rd_certificate
  have sc := sc_certificate
  have hu := hr.units
  exact (ds_cons (ds_set (i := 3) sc.nd rfl (by first | exact Or.inl rfl | exact Or.inr rfl) (de_call C_find_plan (hr.mono (by decide)) gd (by rfl) (da_cons (dv 0) (da_cons (dv 1) (da_cons (dv 2) da_nil)))))
    (ds_cons (ds_if (dt_cmp op_isN ok_isN (dv 3) de_non) (ds_one (ds_ret (de_call C_find_bar (hr.mono (by decide)) gd (by rfl) (da_cons (dv 0) (da_cons (dv 1) (da_cons (dv 2) da_nil)))))) ds_nil)
    (ds_one (ds_ret (de_tup (da_cons de_str (da_cons (dv 3) da_nil)))))))

theorem ok__law_deck {P : Program} {w : World} {K : PySem.W.Frag} {mg : Str → Option Value} {base : Heap} (T : Txt mg) (D : DefAt K mg "_law_deck" (top 73)) : CalD P w K mg base 1 "_law_deck" ["script"] S__law_deck := by
  refine CalD.mk (T := T__law_deck) D sc__law_deck (fun _ _ _ _ _ _ us hl => match us, hl with | [_], _ => rfl) ar__law_deck (fun f cdv A fs s hp e hr gd => ?_) rd__law_deck
  have sc := sc__law_deck
  have hu := hr.units
  exact (ds_one (ds_ret (de_lstO (da_cons (de_lcO (own := [("cell", 1)]) rfl sc.nd (di_seq (de_sl (dv 0) do_none (do_some de_int))) (blkOk_by (N := ["script", "cell"]) (sc := defScope (top 73)) (by decide +kernel)) (fun _ _ _ _ _ => pg_name (i := 1) sc.nd rfl (by first | exact Or.inl rfl | exact Or.inr rfl)) (gok_name (i := 1) (by decide)) (fun _ _ _ _ _ => dts_nil) (fun _ _ _ _ _ => (de_callB call_abs ok_abs (by rfl) T.b_abs (by decide +kernel) (da_cons (dv 1) da_nil)))) (da_cons de_int da_nil)))))

theorem ok__law_draw {P : Program} {w : World} {K : PySem.W.Frag} {mg : Str → Option Value} {base : Heap} (T : Txt mg) (D : DefAt K mg "_law_draw" (top 74)) : CalD P w K mg base 1 "_law_draw" ["deck", "many"] S__law_draw := by
  refine CalD.mk (T := T__law_draw) D sc__law_draw (fun _ _ _ _ _ _ us hl => match us, hl with | [_, _], _ => rfl) ar__law_draw (fun f cdv A fs s hp e hr gd => ?_) rd__law_draw
  have sc := sc__law_draw
  have hu := hr.units
  exact (ds_cons (ds_asg (de_op op_addA ok_add (de_ix (dv 0) de_int (fun _ _ => rfl)) de_int) (dg_sub (dv 0) de_int))
    (ds_cons (ds_set (i := 2) sc.nd rfl (by first | exact Or.inl rfl | exact Or.inr rfl) de_int)
    (ds_cons (ds_set (i := 3) sc.nd rfl (by first | exact Or.inl rfl | exact Or.inr rfl) (de_un un_neg ok_neg de_int))
    (ds_cons (ds_if (dt_cmp op_gt ok_b0 (de_callB call_len ok_len (by rfl) T.b_len (by decide +kernel) (da_cons (de_ix (dv 0) de_int (fun _ _ => rfl)) da_nil)) de_int) (ds_cons (ds_set (i := 3) sc.nd rfl (by first | exact Or.inl rfl | exact Or.inr rfl) (de_op op_mod ok_i2 (de_ix (dv 0) de_int (fun _ _ => rfl)) (de_callB call_len ok_len (by rfl) T.b_len (by decide +kernel) (da_cons (de_ix (dv 0) de_int (fun _ _ => rfl)) da_nil))))
    (ds_one (ds_set (i := 2) sc.nd rfl (by first | exact Or.inl rfl | exact Or.inr rfl) (de_ix (de_ix (dv 0) de_int (fun _ _ => rfl)) (dv 3) (fun _ _ => rfl))))) ds_nil)
    (ds_cons (ds_if (dt_cmp op_ge ok_b0 (dv 2) (de_op op_pow ok_i2 de_int de_int)) (ds_cons (ds_asg (de_op op_fdivW ok_i2 (dv 2) (dv 1)) (dg_sub (de_ix (dv 0) de_int (fun _ _ => rfl)) (dv 3)))
    (ds_one (ds_ret (de_op op_mod ok_i2 (dv 2) (dv 1))))) ds_nil)
    (ds_one (ds_ret (de_op op_mod ok_i2 (de_op op_mod ok_i2 (de_op op_pow ok_i2 (de_op op_addA ok_add (de_op op_addA ok_add (de_op op_mod ok_i2 (dv 2) de_int) (de_op op_mulA ok_mul de_int (de_ix (dv 0) de_int (fun _ _ => rfl)))) de_int) de_int) de_int) (dv 1)))))))))

theorem ok__law_weight {P : Program} {w : World} {K : PySem.W.Frag} {mg : Str → Option Value} {base : Heap} (T : Txt mg) (D : DefAt K mg "_law_weight" (top 75)) (C__law_draw : CalD P w K mg base 1 "_law_draw" ["deck", "many"] S__law_draw) : CalD P w K mg base 2 "_law_weight" ["deck", "excess", "weights"] S__law_weight := by
  refine CalD.mk (T := T__law_weight) D sc__law_weight (fun _ _ _ _ _ _ us hl => match us, hl with | [_, _, _], _ => rfl) ar__law_weight (fun f cdv A fs s hp e hr gd => ?_) rd__law_weight
  have sc := sc__law_weight
  have hu := hr.units
  exact (ds_cons (ds_set (i := 3) sc.nd rfl (by first | exact Or.inl rfl | exact Or.inr rfl) (de_callB (cr_sumT rfl) ok_sumT (by rfl) T.b_sum (by decide +kernel) (da_cons (dv 2) da_nil)))
    (ds_cons (ds_set (i := 4) sc.nd rfl (by first | exact Or.inl rfl | exact Or.inr rfl) (de_lst (da_cons (de_op op_addA ok_add de_int (de_call C__law_draw (hr.mono (by decide)) gd (by rfl) (da_cons (dv 0) (da_cons de_int da_nil)))) (da_cons (de_op op_addA ok_add (dv 3) (dv 1)) (da_cons (de_op op_addA ok_add (de_op op_addA ok_add (dv 3) (dv 1)) de_int) (da_cons (de_op op_addA ok_add de_int (de_call C__law_draw (hr.mono (by decide)) gd (by rfl) (da_cons (dv 0) (da_cons de_int da_nil)))) (da_cons (de_op op_sub ok_i0 (dv 3) de_int) da_nil)))))))
    (ds_one (ds_ret (de_callB (call_max2 rfl) ok_ii (by rfl) T.b_max (by decide +kernel) (da_cons de_int (da_cons (de_callB (call_min2 rfl) ok_ii (by rfl) T.b_min (by decide +kernel) (da_cons (de_op op_pow ok_i2 de_int de_int) (da_cons (de_ix (de_op op_addA ok_add (dv 4) (de_lst (da_cons (de_op op_addA ok_add de_int (de_call C__law_draw (hr.mono (by decide)) gd (by rfl) (da_cons (dv 0) (da_cons (de_op op_pow ok_i2 de_int de_int) da_nil)))) da_nil))) (de_call C__law_draw (hr.mono (by decide)) gd (by rfl) (da_cons (dv 0) (da_cons de_int da_nil))) (fun _ _ => rfl)) da_nil))) da_nil)))))))

theorem ok__law_tower {P : Program} {w : World} {K : PySem.W.Frag} {mg : Str → Option Value} {base : Heap} (T : Txt mg) (D : DefAt K mg "_law_tower" (top 76)) (C__law_draw : CalD P w K mg base 1 "_law_draw" ["deck", "many"] S__law_draw) (C__law_weight : CalD P w K mg base 2 "_law_weight" ["deck", "excess", "weights"] S__law_weight) : CalD P w K mg base 3 "_law_tower" ["deck", "most"] S__law_tower := by
  refine CalD.mk (T := T__law_tower) D sc__law_tower (fun _ _ _ _ _ _ us hl => match us, hl with | [_, _], _ => rfl) ar__law_tower (fun f cdv A fs s hp e hr gd => ?_) rd__law_tower
  have sc := sc__law_tower
  have hu := hr.units
  exact (ds_cons (ds_par (i := 2) (j := 3) rfl sc.nd rfl rfl (by decide) rfl rfl (da_cons (de_op op_addA ok_add de_int (de_call C__law_draw (hr.mono (by decide)) gd (by rfl) (da_cons (dv 0) (da_cons (de_ix (de_lst (da_cons de_int (da_cons de_int (da_cons (de_op op_pow ok_i2 de_int de_int) da_nil)))) (de_call C__law_draw (hr.mono (by decide)) gd (by rfl) (da_cons (dv 0) (da_cons de_int da_nil))) (fun _ _ => rfl)) da_nil)))) (da_cons (de_tup da_nil) da_nil)) (by rfl))
    (ds_cons (ds_for PassesOwn.never rfl (di_rng1 (by rfl) T.b_range (da_cons (de_call C__law_draw (hr.mono (by decide)) gd (by rfl) (da_cons (dv 0) (da_cons (de_op op_addA ok_add (dv 1) de_int) da_nil))) da_nil)) (dg_name (i := 4) sc.nd rfl (by first | exact Or.inl rfl | exact Or.inr rfl)) (ds_cons (ds_set (i := 5) sc.nd rfl (by first | exact Or.inl rfl | exact Or.inr rfl) (de_call C__law_draw (hr.mono (by decide)) gd (by rfl) (da_cons (dv 0) (da_cons (de_op op_addA ok_add (de_callB call_len ok_len (by rfl) T.b_len (by decide +kernel) (da_cons (dv 3) da_nil)) de_int) da_nil))))
    (ds_one (ds_set (i := 3) sc.nd rfl (by first | exact Or.inl rfl | exact Or.inr rfl) (de_op op_addA ok_add (de_op op_addA ok_add (de_sl (dv 3) do_none (do_some (dv 5))) (de_tup (da_cons (de_call C__law_weight (hr.mono (by decide)) gd (by rfl) (da_cons (dv 0) (da_cons (dv 2) (da_cons (dv 3) da_nil)))) da_nil))) (de_sl (dv 3) (do_some (dv 5)) do_none))))))
    (ds_one (ds_ret (de_tup (da_cons (dv 2) (da_cons (dv 3) da_nil)))))))

theorem ok__law_edit {P : Program} {w : World} {K : PySem.W.Frag} {mg : Str → Option Value} {base : Heap} (T : Txt mg) (D : DefAt K mg "_law_edit" (top 77)) (C__law_draw : CalD P w K mg base 1 "_law_draw" ["deck", "many"] S__law_draw) (C__law_weight : CalD P w K mg base 2 "_law_weight" ["deck", "excess", "weights"] S__law_weight) : CalD P w K mg base 3 "_law_edit" ["deck", "tower"] S__law_edit := by
  refine CalD.mk (T := T__law_edit) D sc__law_edit (fun _ _ _ _ _ _ us hl => match us, hl with | [_, _], _ => rfl) ar__law_edit (fun f cdv A fs s hp e hr gd => ?_) rd__law_edit
  have sc := sc__law_edit
  have hu := hr.units
  exact (ds_cons (ds_asg (dv 1) (dg_tup rfl (dgs_cons (dg_name (i := 2) sc.nd rfl (by first | exact Or.inl rfl | exact Or.inr rfl)) (dgs_cons (dg_name (i := 3) sc.nd rfl (by first | exact Or.inl rfl | exact Or.inr rfl)) dgs_nil))))
    (ds_cons (ds_set (i := 4) sc.nd rfl (by first | exact Or.inl rfl | exact Or.inr rfl) (de_call C__law_draw (hr.mono (by decide)) gd (by rfl) (da_cons (dv 0) (da_cons de_int da_nil))))
    (ds_cons (ds_if (dt_bool (dw_or (dt_cmp (op_eqA hu) ok_eq (dv 4) de_int) (dw_or1 (dt_bool (dw_and (dt_cmp (op_eqA hu) ok_eq (dv 3) (de_tup da_nil)) (dw_and1 (dt_cmp op_lt ok_b0 (dv 4) de_int))))))) (ds_cons (ds_set (i := 5) sc.nd rfl (by first | exact Or.inl rfl | exact Or.inr rfl) (de_lst (da_cons (de_op op_addA ok_add de_int (de_call C__law_draw (hr.mono (by decide)) gd (by rfl) (da_cons (dv 0) (da_cons de_int da_nil)))) (da_cons (de_callB (call_min2 rfl) ok_ii (by rfl) T.b_min (by decide +kernel) (da_cons (de_op op_pow ok_i2 de_int de_int) (da_cons (de_op op_addA ok_add (dv 2) de_int) da_nil))) (da_cons (de_callB (call_max2 rfl) ok_ii (by rfl) T.b_max (by decide +kernel) (da_cons de_int (da_cons (de_op op_sub ok_i0 (dv 2) de_int) da_nil))) da_nil)))))
    (ds_one (ds_ret (de_tup (da_cons de_str (da_cons (de_ix (dv 5) (de_call C__law_draw (hr.mono (by decide)) gd (by rfl) (da_cons (dv 0) (da_cons de_int da_nil))) (fun _ _ => rfl)) da_nil)))))) ds_nil)
    (ds_cons (ds_if (dt_bool (dw_or (dt_cmp (op_eqA hu) ok_eq (dv 4) de_int) (dw_or1 (dt_bool (dw_and (dt_cmp (op_eqA hu) ok_eq (de_callB call_len ok_len (by rfl) T.b_len (by decide +kernel) (da_cons (dv 3) da_nil)) de_int) (dw_and1 (dt_cmp op_gt ok_b0 (dv 4) de_int))))))) (ds_one (ds_ret (de_tup (da_cons de_str (da_cons (de_call C__law_draw (hr.mono (by decide)) gd (by rfl) (da_cons (dv 0) (da_cons (de_callB call_len ok_len (by rfl) T.b_len (by decide +kernel) (da_cons (dv 3) da_nil)) da_nil))) da_nil))))) ds_nil)
    (ds_cons (ds_if (dt_cmp (op_eqA hu) ok_eq (dv 4) de_int) (ds_one (ds_ret (de_tup (da_cons de_str (da_cons (de_call C__law_draw (hr.mono (by decide)) gd (by rfl) (da_cons (dv 0) (da_cons (de_callB call_len ok_len (by rfl) T.b_len (by decide +kernel) (da_cons (dv 3) da_nil)) da_nil))) (da_cons (de_call C__law_weight (hr.mono (by decide)) gd (by rfl) (da_cons (dv 0) (da_cons (dv 2) (da_cons (dv 3) da_nil)))) da_nil)))))) ds_nil)
    (ds_one (ds_ret (de_tup (da_cons de_str (da_cons (de_call C__law_weight (hr.mono (by decide)) gd (by rfl) (da_cons (dv 0) (da_cons (dv 2) (da_cons (dv 3) da_nil)))) da_nil))))))))))

theorem ok_Hoist__check_idle {P : Program} {w : World} {K : PySem.W.Frag} {mg : Str → Option Value} {base : Heap} (T : Txt mg) (D : MethAt K "Hoist" "_check_idle" "Hoist._check_idle" (memb (top 69) 19)) (OT : ObjT P w K mg base) : CalM P w K mg base 3 "Hoist" "_check_idle" ["self"] S_Hoist__check_idle := by
  refine CalM.mk (T := T_Hoist__check_idle) D sc_Hoist__check_idle (fun _ _ _ _ _ _ us hl => match us, hl with | [_], _ => rfl) ar_Hoist__check_idle (fun f cdv A fs s hp e RX I hr gd => ?_) rd_Hoist__check_idle
  have sc := sc_Hoist__check_idle
  have hu := hr.units
  exact (ds_one (ds_if (dt_val (de_fld OT.cls_Hoist OT.no_Hoist__watched (dv 0))) (ds_one ds_never) ds_nil))

theorem ok_Hoist__check_edit {P : Program} {w : World} {K : PySem.W.Frag} {mg : Str → Option Value} {base : Heap} (T : Txt mg) (D : MethAt K "Hoist" "_check_edit" "Hoist._check_edit" (memb (top 69) 20)) (C_Hoist__check_idle : CalM P w K mg base 3 "Hoist" "_check_idle" ["self"] S_Hoist__check_idle) (OT : ObjT P w K mg base) : CalM P w K mg base 5 "Hoist" "_check_edit" ["self"] S_Hoist__check_edit := by
  refine CalM.mk (T := T_Hoist__check_edit) D sc_Hoist__check_edit (fun _ _ _ _ _ _ us hl => match us, hl with | [_], _ => rfl) ar_Hoist__check_edit (fun f cdv A fs s hp e RX I hr gd => ?_) rd_Hoist__check_edit
  have sc := sc_Hoist__check_edit
  have hu := hr.units
  exact (ds_cons (ds_expr (de_meth0K I OT.cls_Hoist C_Hoist__check_idle (hr.mono (by decide)) gd (takes_of rfl rfl rfl rfl) (dv 0)))
    (ds_one (ds_if (dt_cmp (op_eqA hu) ok_eq (de_callB call_len ok_len (by rfl) T.b_len (by decide +kernel) (da_cons (de_fld OT.cls_Hoist OT.no_Hoist__edits (dv 0)) da_nil)) (de_globI2 (by rfl) T.c_MAX_EDITS)) (ds_one ds_never) ds_nil)))

theorem ok_Hoist__check_tower {P : Program} {w : World} {K : PySem.W.Frag} {mg : Str → Option Value} {base : Heap} (T : Txt mg) (D : MethAt K "Hoist" "_check_tower" "Hoist._check_tower" (memb (top 69) 22)) : CalM P w K mg base 1 "Hoist" "_check_tower" ["self", "tower"] S_Hoist__check_tower := by
  refine CalM.mk (T := T_Hoist__check_tower) D sc_Hoist__check_tower (fun _ _ _ _ _ _ us hl => match us, hl with | [_, _], _ => rfl) ar_Hoist__check_tower (fun f cdv A fs s hp e RX I hr gd => ?_) rd_Hoist__check_tower
  have sc := sc_Hoist__check_tower
  have hu := hr.units
  exact (ds_one ds_pass)

theorem ok_Hoist__keep {P : Program} {w : World} {K : PySem.W.Frag} {mg : Str → Option Value} {base : Heap} (T : Txt mg) (D : MethAt K "Hoist" "_keep" "Hoist._keep" (memb (top 69) 23)) (C_Hoist__check_tower : CalM P w K mg base 1 "Hoist" "_check_tower" ["self", "tower"] S_Hoist__check_tower) (OT : ObjT P w K mg base) : CalM P w K mg base 3 "Hoist" "_keep" ["self", "edit", "tower"] S_Hoist__keep := by
  refine CalM.mk (T := T_Hoist__keep) D sc_Hoist__keep (fun _ _ _ _ _ _ us hl => match us, hl with | [_, _, _], _ => rfl) ar_Hoist__keep (fun f cdv A fs s hp e RX I hr gd => ?_) rd_Hoist__keep
  have sc := sc_Hoist__keep
  have hu := hr.units
  exact (ds_cons (ds_expr (de_methK I OT.cls_Hoist C_Hoist__check_tower (hr.mono (by decide)) gd (takes_of rfl rfl rfl rfl) (dv 0) (da_cons (dv 2) da_nil)))
    (ds_cons (ds_fldS OT.cls_Hoist OT.no_Hoist__towers (dv 0) (de_tup (da_star (de_fld OT.cls_Hoist OT.no_Hoist__towers (dv 0)) (da_cons (dv 2) da_nil))))
    (ds_cons (ds_fldS OT.cls_Hoist OT.no_Hoist__edits (dv 0) (de_tup (da_star (de_fld OT.cls_Hoist OT.no_Hoist__edits (dv 0)) (da_cons (dv 1) da_nil))))
    (ds_one (ds_ret (de_callB call_len ok_len (by rfl) T.b_len (by decide +kernel) (da_cons (de_fld OT.cls_Hoist OT.no_Hoist__edits (dv 0)) da_nil)))))))

theorem ok_Hoist_tower {P : Program} {w : World} {K : PySem.W.Frag} {mg : Str → Option Value} {base : Heap} (T : Txt mg) (D : PropAt K "Hoist" "tower" "Hoist.tower" (memb (top 69) 2)) (OT : ObjT P w K mg base) : CalP P w K mg base 3 "Hoist" "tower" S_Hoist_tower := by
  refine CalP.mk (T := T_Hoist_tower) D sc_Hoist_tower (fun _ _ _ _ _ _ us hl => match us, hl with | [_], _ => rfl) ar_Hoist_tower (fun f cdv A fs s hp e RX I hr gd => ?_) rd_Hoist_tower
  have sc := sc_Hoist_tower
  have hu := hr.units
  exact (ds_one (ds_ret (de_ix (de_fld OT.cls_Hoist OT.no_Hoist__towers (dv 0)) (de_un un_neg ok_neg de_int) (fun _ _ => rfl))))

theorem ok_Hoist_come {P : Program} {w : World} {K : PySem.W.Frag} {mg : Str → Option Value} {base : Heap} (T : Txt mg) (D : MethAt K "Hoist" "come" "Hoist.come" (memb (top 69) 5)) (C_Hoist__check_edit : CalM P w K mg base 5 "Hoist" "_check_edit" ["self"] S_Hoist__check_edit) (C_Hoist__keep : CalM P w K mg base 3 "Hoist" "_keep" ["self", "edit", "tower"] S_Hoist__keep) (C_Hoist_tower : CalP P w K mg base 3 "Hoist" "tower" S_Hoist_tower) (C_is_weight : CalD P w K mg base 2 "is_weight" ["value"] S_is_weight) (OT : ObjT P w K mg base) : CalM P w K mg base 7 "Hoist" "come" ["self", "weight"] S_Hoist_come := by
  refine CalM.mk (T := T_Hoist_come) D sc_Hoist_come (fun _ _ _ _ _ _ us hl => match us, hl with | [_, _], _ => rfl) ar_Hoist_come (fun f cdv A fs s hp e RX I hr gd => ?_) rd_Hoist_come
  have sc := sc_Hoist_come
  have hu := hr.units
  exact (ds_cons (ds_expr (de_meth0K I OT.cls_Hoist C_Hoist__check_edit (hr.mono (by decide)) gd (takes_of rfl rfl rfl rfl) (dv 0)))
    (ds_cons (ds_if (dt_not (dt_val (de_call C_is_weight (hr.mono (by decide)) gd (by rfl) (da_cons (dv 1) da_nil)))) (ds_one ds_never) ds_nil)
    (ds_cons (ds_asg (de_propK I OT.cls_Hoist C_Hoist_tower (hr.mono (by decide)) gd (dv 0)) (dg_tup rfl (dgs_cons (dg_name (i := 2) sc.nd rfl (by first | exact Or.inl rfl | exact Or.inr rfl)) (dgs_cons (dg_name (i := 3) sc.nd rfl (by first | exact Or.inl rfl | exact Or.inr rfl)) dgs_nil))))
    (ds_cons (ds_if (dt_cmp (op_eqA hu) ok_eq (de_callB call_len ok_len (by rfl) T.b_len (by decide +kernel) (da_cons (dv 3) da_nil)) (de_globI2 (by rfl) T.c_MAX_PEOPLE)) (ds_one ds_never) ds_nil)
    (ds_one (ds_ret (de_methK I OT.cls_Hoist C_Hoist__keep (hr.mono (by decide)) gd (takes_of rfl rfl rfl rfl) (dv 0) (da_cons (de_tup (da_cons de_str (da_cons (dv 1) da_nil))) (da_cons (de_tup (da_cons (dv 2) (da_cons (de_tup (da_star (dv 3) (da_cons (dv 1) da_nil))) da_nil))) da_nil)))))))))

theorem ok_Hoist__check_person {P : Program} {w : World} {K : PySem.W.Frag} {mg : Str → Option Value} {base : Heap} (T : Txt mg) (D : MethAt K "Hoist" "_check_person" "Hoist._check_person" (memb (top 69) 21)) (C_Hoist_tower : CalP P w K mg base 3 "Hoist" "tower" S_Hoist_tower) (C_is_number_between : CalD P w K mg base 1 "is_number_between" ["value", "low", "high"] S_is_number_between) (OT : ObjT P w K mg base) : CalM P w K mg base 5 "Hoist" "_check_person" ["self", "person"] S_Hoist__check_person := by
  refine CalM.mk (T := T_Hoist__check_person) D sc_Hoist__check_person (fun _ _ _ _ _ _ us hl => match us, hl with | [_, _], _ => rfl) ar_Hoist__check_person (fun f cdv A fs s hp e RX I hr gd => ?_) rd_Hoist__check_person
  have sc := sc_Hoist__check_person
  have hu := hr.units
  exact (ds_cons (ds_asg (de_propK I OT.cls_Hoist C_Hoist_tower (hr.mono (by decide)) gd (dv 0)) (dg_tup rfl (dgs_cons (dg_name (i := 2) sc.nd rfl (by first | exact Or.inl rfl | exact Or.inr rfl)) (dgs_cons (dg_name (i := 3) sc.nd rfl (by first | exact Or.inl rfl | exact Or.inr rfl)) dgs_nil))))
    (ds_one (ds_if (dt_not (dt_val (de_call C_is_number_between (hr.mono (by decide)) gd (by rfl) (da_cons (dv 1) (da_cons de_int (da_cons (de_op op_sub ok_i0 (de_callB call_len ok_len (by rfl) T.b_len (by decide +kernel) (da_cons (dv 3) da_nil)) de_int) da_nil)))))) (ds_one ds_never) ds_nil)))

theorem ok_Hoist_leave {P : Program} {w : World} {K : PySem.W.Frag} {mg : Str → Option Value} {base : Heap} (T : Txt mg) (D : MethAt K "Hoist" "leave" "Hoist.leave" (memb (top 69) 6)) (C_Hoist__check_edit : CalM P w K mg base 5 "Hoist" "_check_edit" ["self"] S_Hoist__check_edit) (C_Hoist__check_person : CalM P w K mg base 5 "Hoist" "_check_person" ["self", "person"] S_Hoist__check_person) (C_Hoist__keep : CalM P w K mg base 3 "Hoist" "_keep" ["self", "edit", "tower"] S_Hoist__keep) (C_Hoist_tower : CalP P w K mg base 3 "Hoist" "tower" S_Hoist_tower) (OT : ObjT P w K mg base) : CalM P w K mg base 7 "Hoist" "leave" ["self", "person"] S_Hoist_leave := by
  refine CalM.mk (T := T_Hoist_leave) D sc_Hoist_leave (fun _ _ _ _ _ _ us hl => match us, hl with | [_, _], _ => rfl) ar_Hoist_leave (fun f cdv A fs s hp e RX I hr gd => ?_) rd_Hoist_leave
  have sc := sc_Hoist_leave
  have hu := hr.units
  exact (ds_cons (ds_expr (de_meth0K I OT.cls_Hoist C_Hoist__check_edit (hr.mono (by decide)) gd (takes_of rfl rfl rfl rfl) (dv 0)))
    (ds_cons (ds_expr (de_methK I OT.cls_Hoist C_Hoist__check_person (hr.mono (by decide)) gd (takes_of rfl rfl rfl rfl) (dv 0) (da_cons (dv 1) da_nil)))
    (ds_cons (ds_asg (de_propK I OT.cls_Hoist C_Hoist_tower (hr.mono (by decide)) gd (dv 0)) (dg_tup rfl (dgs_cons (dg_name (i := 2) sc.nd rfl (by first | exact Or.inl rfl | exact Or.inr rfl)) (dgs_cons (dg_name (i := 3) sc.nd rfl (by first | exact Or.inl rfl | exact Or.inr rfl)) dgs_nil))))
    (ds_one (ds_ret (de_methK I OT.cls_Hoist C_Hoist__keep (hr.mono (by decide)) gd (takes_of rfl rfl rfl rfl) (dv 0) (da_cons (de_tup (da_cons de_str (da_cons (dv 1) da_nil))) (da_cons (de_tup (da_cons (dv 2) (da_cons (de_tup (da_star (de_sl (dv 3) do_none (do_some (dv 1))) (da_star (de_sl (dv 3) (do_some (de_op op_addA ok_add (dv 1) de_int)) do_none) da_nil))) da_nil))) da_nil))))))))

theorem ok_Hoist_loosen {P : Program} {w : World} {K : PySem.W.Frag} {mg : Str → Option Value} {base : Heap} (T : Txt mg) (D : MethAt K "Hoist" "loosen" "Hoist.loosen" (memb (top 69) 8)) (C_Hoist__check_edit : CalM P w K mg base 5 "Hoist" "_check_edit" ["self"] S_Hoist__check_edit) (C_Hoist__keep : CalM P w K mg base 3 "Hoist" "_keep" ["self", "edit", "tower"] S_Hoist__keep) (C_Hoist_tower : CalP P w K mg base 3 "Hoist" "tower" S_Hoist_tower) (C_is_excess : CalD P w K mg base 2 "is_excess" ["value"] S_is_excess) (OT : ObjT P w K mg base) : CalM P w K mg base 7 "Hoist" "loosen" ["self", "excess"] S_Hoist_loosen := by
  refine CalM.mk (T := T_Hoist_loosen) D sc_Hoist_loosen (fun _ _ _ _ _ _ us hl => match us, hl with | [_, _], _ => rfl) ar_Hoist_loosen (fun f cdv A fs s hp e RX I hr gd => ?_) rd_Hoist_loosen
  have sc := sc_Hoist_loosen
  have hu := hr.units
  exact (ds_cons (ds_expr (de_meth0K I OT.cls_Hoist C_Hoist__check_edit (hr.mono (by decide)) gd (takes_of rfl rfl rfl rfl) (dv 0)))
    (ds_cons (ds_if (dt_not (dt_val (de_call C_is_excess (hr.mono (by decide)) gd (by rfl) (da_cons (dv 1) da_nil)))) (ds_one ds_never) ds_nil)
    (ds_cons (ds_asg (de_propK I OT.cls_Hoist C_Hoist_tower (hr.mono (by decide)) gd (dv 0)) (dg_tup rfl (dgs_cons (dg_name (i := 2) sc.nd rfl (by first | exact Or.inl rfl | exact Or.inr rfl)) (dgs_cons (dg_name (i := 3) sc.nd rfl (by first | exact Or.inl rfl | exact Or.inr rfl)) dgs_nil))))
    (ds_one (ds_ret (de_methK I OT.cls_Hoist C_Hoist__keep (hr.mono (by decide)) gd (takes_of rfl rfl rfl rfl) (dv 0) (da_cons (de_tup (da_cons de_str (da_cons (dv 1) da_nil))) (da_cons (de_tup (da_cons (dv 1) (da_cons (dv 3) da_nil))) da_nil))))))))

theorem ok_Hoist_weigh {P : Program} {w : World} {K : PySem.W.Frag} {mg : Str → Option Value} {base : Heap} (T : Txt mg) (D : MethAt K "Hoist" "weigh" "Hoist.weigh" (memb (top 69) 7)) (C_Hoist__check_edit : CalM P w K mg base 5 "Hoist" "_check_edit" ["self"] S_Hoist__check_edit) (C_Hoist__check_person : CalM P w K mg base 5 "Hoist" "_check_person" ["self", "person"] S_Hoist__check_person) (C_Hoist__keep : CalM P w K mg base 3 "Hoist" "_keep" ["self", "edit", "tower"] S_Hoist__keep) (C_Hoist_tower : CalP P w K mg base 3 "Hoist" "tower" S_Hoist_tower) (C_is_weight : CalD P w K mg base 2 "is_weight" ["value"] S_is_weight) (OT : ObjT P w K mg base) : CalM P w K mg base 7 "Hoist" "weigh" ["self", "person", "weight"] S_Hoist_weigh := by
  refine CalM.mk (T := T_Hoist_weigh) D sc_Hoist_weigh (fun _ _ _ _ _ _ us hl => match us, hl with | [_, _, _], _ => rfl) ar_Hoist_weigh (fun f cdv A fs s hp e RX I hr gd => ?_) rd_Hoist_weigh
  have sc := sc_Hoist_weigh
  have hu := hr.units
  exact (ds_cons (ds_expr (de_meth0K I OT.cls_Hoist C_Hoist__check_edit (hr.mono (by decide)) gd (takes_of rfl rfl rfl rfl) (dv 0)))
    (ds_cons (ds_expr (de_methK I OT.cls_Hoist C_Hoist__check_person (hr.mono (by decide)) gd (takes_of rfl rfl rfl rfl) (dv 0) (da_cons (dv 1) da_nil)))
    (ds_cons (ds_if (dt_not (dt_val (de_call C_is_weight (hr.mono (by decide)) gd (by rfl) (da_cons (dv 2) da_nil)))) (ds_one ds_never) ds_nil)
    (ds_cons (ds_asg (de_propK I OT.cls_Hoist C_Hoist_tower (hr.mono (by decide)) gd (dv 0)) (dg_tup rfl (dgs_cons (dg_name (i := 3) sc.nd rfl (by first | exact Or.inl rfl | exact Or.inr rfl)) (dgs_cons (dg_name (i := 4) sc.nd rfl (by first | exact Or.inl rfl | exact Or.inr rfl)) dgs_nil))))
    (ds_one (ds_ret (de_methK I OT.cls_Hoist C_Hoist__keep (hr.mono (by decide)) gd (takes_of rfl rfl rfl rfl) (dv 0) (da_cons (de_tup (da_cons de_str (da_cons (dv 1) (da_cons (dv 2) da_nil)))) (da_cons (de_tup (da_cons (dv 3) (da_cons (de_tup (da_star (de_sl (dv 4) do_none (do_some (dv 1))) (da_cons (dv 2) (da_star (de_sl (dv 4) (do_some (de_op op_addA ok_add (dv 1) de_int)) do_none) da_nil)))) da_nil))) da_nil)))))))))

theorem ok__law_do {P : Program} {w : World} {K : PySem.W.Frag} {mg : Str → Option Value} {base : Heap} (T : Txt mg) (D : DefAt K mg "_law_do" (top 78)) (C_Hoist_come : CalM P w K mg base 7 "Hoist" "come" ["self", "weight"] S_Hoist_come) (C_Hoist_leave : CalM P w K mg base 7 "Hoist" "leave" ["self", "person"] S_Hoist_leave) (C_Hoist_loosen : CalM P w K mg base 7 "Hoist" "loosen" ["self", "excess"] S_Hoist_loosen) (C_Hoist_weigh : CalM P w K mg base 7 "Hoist" "weigh" ["self", "person", "weight"] S_Hoist_weigh) (OT : ObjT P w K mg base) : CalD P w K mg base 9 "_law_do" ["table", "edit"] S__law_do := by
  refine CalD.mk (T := T__law_do) D sc__law_do (fun _ _ _ _ _ _ us hl => match us, hl with | [_, _], _ => rfl) ar__law_do (fun f cdv A fs s hp e hr gd => ?_) rd__law_do
  have sc := sc__law_do
  have hu := hr.units
  exact (ds_cons (ds_if (dt_cmp (op_eqA hu) ok_eq (de_ix (dv 1) de_int (fun _ _ => rfl)) de_str) (ds_one (ds_ret (de_methK ambN OT.cls_Hoist C_Hoist_come (hr.mono (by decide)) gd L2.takes0 (dv 0) (da_cons (de_ix (dv 1) de_int (fun _ _ => rfl)) da_nil)))) ds_nil)
    (ds_cons (ds_if (dt_cmp (op_eqA hu) ok_eq (de_ix (dv 1) de_int (fun _ _ => rfl)) de_str) (ds_one (ds_ret (de_methK ambN OT.cls_Hoist C_Hoist_leave (hr.mono (by decide)) gd L2.takes0 (dv 0) (da_cons (de_ix (dv 1) de_int (fun _ _ => rfl)) da_nil)))) ds_nil)
    (ds_cons (ds_if (dt_cmp (op_eqA hu) ok_eq (de_ix (dv 1) de_int (fun _ _ => rfl)) de_str) (ds_one (ds_ret (de_methK ambN OT.cls_Hoist C_Hoist_weigh (hr.mono (by decide)) gd L2.takes0 (dv 0) (da_cons (de_ix (dv 1) de_int (fun _ _ => rfl)) (da_cons (de_ix (dv 1) de_int (fun _ _ => rfl)) da_nil))))) ds_nil)
    (ds_one (ds_ret (de_methK ambN OT.cls_Hoist C_Hoist_loosen (hr.mono (by decide)) gd L2.takes0 (dv 0) (da_cons (de_ix (dv 1) de_int (fun _ _ => rfl)) da_nil)))))))

theorem ok_Load___init__ {P : Program} {w : World} {K : PySem.W.Frag} {mg : Str → Option Value} {base : Heap} (T : Txt mg) (D : MethAt K "Load" "__init__" "Load.__init__" (memb (top 37) 0)) (C_is_weight : CalD P w K mg base 2 "is_weight" ["value"] S_is_weight) (OT : ObjT P w K mg base) : CalM P w K mg base 3 "Load" "__init__" ["self", "weights"] S_Load___init__ := by
  refine CalM.mk (T := T_Load___init__) D sc_Load___init__ (fun _ _ _ _ _ _ us hl => match us, hl with | [_, _], _ => rfl) ar_Load___init__ (fun f cdv A fs s hp e RX I hr gd => ?_) rd_Load___init__
  have sc := sc_Load___init__
  have hu := hr.units
  exact (ds_cons (ds_if (dt_bool (dw_or (dt_not (dt_val (de_callB call_isi ok_isi (by rfl) T.b_isinstance (by decide +kernel) (da_cons (dv 1) (da_cons (de_bltn (v := .ty "tuple") (by rfl) T.b_tuple (by decide +kernel) rfl) da_nil))))) (dw_or1 (dt_cmp op_gt ok_b0 (de_callB call_len ok_len (by rfl) T.b_len (by decide +kernel) (da_cons (dv 1) da_nil)) (de_globI2 (by rfl) T.c_MAX_LOAD))))) (ds_one ds_never) ds_nil)
    (ds_cons (ds_if (dt_not (dt_val (de_callB (cr_all rfl) ok_allL (by rfl) T.b_all (by decide +kernel) (da_cons (de_lc (own := [("weight", 2)]) rfl sc.nd (di_seq (dv 1)) (blkOk_by (N := ["self", "weights", "weight"]) (sc := defScope (memb (top 37) 0)) (by decide +kernel)) (fun _ _ _ _ _ => pg_name (i := 2) sc.nd rfl (by first | exact Or.inl rfl | exact Or.inr rfl)) (gok_name (i := 2) (by decide)) (fun _ _ _ _ _ => dts_nil) (fun _ _ _ _ _ => (de_call C_is_weight (hr.mono (by decide)) gd (by rfl) (da_cons (dv 2) da_nil)))) da_nil)))) (ds_one ds_never) ds_nil)
    (ds_cons (ds_fldS OT.cls_Load OT.no_Load__weights (dv 0) (de_callTy call_tupN ok_tupN (by rfl) T.b_tuple (by decide +kernel) (da_cons (de_callB cr_sortedA ok_sortedA (by rfl) T.b_sorted (by decide +kernel) (da_cons (dv 1) da_nil)) da_nil)))
    (ds_one (ds_fldS OT.cls_Load OT.no_Load__total (dv 0) (de_callB (cr_sumT rfl) ok_sumT (by rfl) T.b_sum (by decide +kernel) (da_cons (dv 1) da_nil)))))))

theorem ok__law_load {P : Program} {w : World} {K : PySem.W.Frag} {mg : Str → Option Value} {base : Heap} (T : Txt mg) (D : DefAt K mg "_law_load" (top 79)) (C_Load___init__ : CalM P w K mg base 3 "Load" "__init__" ["self", "weights"] S_Load___init__) (OT : ObjT P w K mg base) : CalD P w K mg base 6 "_law_load" ["weights", "group"] S__law_load := by
  refine CalD.mk (T := T__law_load) D sc__law_load (fun _ _ _ _ _ _ us hl => match us, hl with | [_, _], _ => rfl) ar__law_load (fun f cdv A fs s hp e hr gd => ?_) rd__law_load
  have sc := sc__law_load
  have hu := hr.units
  exact (ds_one (ds_ret (de_makeK ambN OT.mk_Load C_Load___init__ (hr.mono (by decide)) gd L2.takes0 (by rfl) (da_cons (de_callTy call_tuple_of ok_tupOf (by rfl) T.b_tuple (by decide +kernel) (da_cons (de_lc (own := [("one", 2)]) rfl sc.nd (di_seq (dv 1)) (blkOk_by (N := ["weights", "group", "one"]) (sc := defScope (top 79)) (by decide +kernel)) (fun _ _ _ _ _ => pg_name (i := 2) sc.nd rfl (by first | exact Or.inl rfl | exact Or.inr rfl)) (gok_name (i := 2) (by decide)) (fun _ _ _ _ _ => dts_nil) (fun _ _ _ _ _ => (de_ix (dv 0) (dv 2) (fun _ _ => rfl)))) da_nil)) da_nil))))

theorem ok_Basket___call__ {P : Program} {w : World} {K : PySem.W.Frag} {mg : Str → Option Value} {base : Heap} (T : Txt mg) (D : MethAt K "Basket" "__call__" "Basket.__call__" (memb (top 38) 3)) (C_is_number_between : CalD P w K mg base 1 "is_number_between" ["value", "low", "high"] S_is_number_between) (OT : ObjT P w K mg base) : CalM P w K mg base 3 "Basket" "__call__" ["self", "one", "other"] S_Basket___call__ := by
  refine CalM.mk (T := T_Basket___call__) D sc_Basket___call__ (fun _ _ _ _ _ _ us hl => match us, hl with | [_, _, _], _ => rfl) ar_Basket___call__ (fun f cdv A fs s hp e RX I hr gd => ?_) rd_Basket___call__
  have sc := sc_Basket___call__
  have hu := hr.units
  exact (ds_cons (ds_for (L2.passes_of rfl) rfl (di_seq (de_tup (da_cons (dv 1) (da_cons (dv 2) da_nil)))) (dg_name (i := 3) sc.nd rfl (by first | exact Or.inl rfl | exact Or.inr rfl)) (ds_one (ds_if (dt_not (dt_val (de_callB call_isi (ok_isO OT.is_Load (by decide)) (by rfl) T.b_isinstance (by decide +kernel) (da_cons (dv 3) (da_cons (de_cls (by rfl) T.k_Load) da_nil))))) (ds_one ds_never) ds_nil)))
    (ds_cons (ds_set (i := 4) sc.nd rfl (by first | exact Or.inl rfl | exact Or.inr rfl) (de_op op_sub ok_i0 (de_propF OT.cls_Load OT.get_Load_total (hr.mono (by decide)) (dv 1)) (de_propF OT.cls_Load OT.get_Load_total (hr.mono (by decide)) (dv 2))))
    (ds_cons (ds_if (dt_not (dt_val (de_call C_is_number_between (hr.mono (by decide)) gd (by rfl) (da_cons (dv 4) (da_cons de_int (da_cons (de_fld OT.cls_Basket OT.no_Basket__excess (dv 0)) da_nil)))))) (ds_one (ds_ret de_non)) ds_nil)
    (ds_cons (ds_fldAug OT.cls_Basket OT.no_Basket__rides (dv 0) de_int)
    (ds_one (ds_ret (dv 4)))))))

theorem ok_Basket___init__ {P : Program} {w : World} {K : PySem.W.Frag} {mg : Str → Option Value} {base : Heap} (T : Txt mg) (D : MethAt K "Basket" "__init__" "Basket.__init__" (memb (top 38) 0)) (C_is_excess : CalD P w K mg base 2 "is_excess" ["value"] S_is_excess) (OT : ObjT P w K mg base) : CalM P w K mg base 3 "Basket" "__init__" ["self", "excess"] S_Basket___init__ := by
  refine CalM.mk (T := T_Basket___init__) D sc_Basket___init__ (fun _ _ _ _ _ _ us hl => match us, hl with | [_, _], _ => rfl) ar_Basket___init__ (fun f cdv A fs s hp e RX I hr gd => ?_) rd_Basket___init__
  have sc := sc_Basket___init__
  have hu := hr.units
  exact (ds_cons (ds_if (dt_not (dt_val (de_call C_is_excess (hr.mono (by decide)) gd (by rfl) (da_cons (dv 1) da_nil)))) (ds_one ds_never) ds_nil)
    (ds_cons (ds_fldS OT.cls_Basket OT.no_Basket__excess (dv 0) (dv 1))
    (ds_one (ds_fldS OT.cls_Basket OT.no_Basket__rides (dv 0) de_int))))

theorem ok_Load___add__ {P : Program} {w : World} {K : PySem.W.Frag} {mg : Str → Option Value} {base : Heap} (T : Txt mg) (D : MethAt K "Load" "__add__" "Load.__add__" (memb (top 37) 5)) (C_Load___init__ : CalM P w K mg base 3 "Load" "__init__" ["self", "weights"] S_Load___init__) (OT : ObjT P w K mg base) : CalM P w K mg base 6 "Load" "__add__" ["self", "other"] S_Load___add__ := by
  refine CalM.mk (T := T_Load___add__) D sc_Load___add__ (fun _ _ _ _ _ _ us hl => match us, hl with | [_, _], _ => rfl) ar_Load___add__ (fun f cdv A fs s hp e RX I hr gd => ?_) rd_Load___add__
  have sc := sc_Load___add__
  have hu := hr.units
  exact (ds_cons (ds_if (dt_not (dt_val (de_callB call_isi (ok_isO OT.is_Load (by decide)) (by rfl) T.b_isinstance (by decide +kernel) (da_cons (dv 1) (da_cons (de_cls (by rfl) T.k_Load) da_nil))))) (ds_one (ds_ret de_no)) ds_nil)
    (ds_cons (ds_if (dt_cmp op_gt ok_b0 (de_op op_addA ok_add (de_callB call_len ok_lenN (by rfl) T.b_len (by decide +kernel) (da_cons (de_fld OT.cls_Load OT.no_Load__weights (dv 0)) da_nil)) (de_callB call_len ok_lenN (by rfl) T.b_len (by decide +kernel) (da_cons (de_propF OT.cls_Load OT.get_Load_weights (hr.mono (by decide)) (dv 1)) da_nil))) (de_globI2 (by rfl) T.c_MAX_LOAD)) (ds_one ds_never) ds_nil)
    (ds_one (ds_ret (de_makeK I OT.mk_Load C_Load___init__ (hr.mono (by decide)) gd (takes_of rfl rfl rfl rfl) (by rfl) (da_cons (de_tup (da_starN (de_fld OT.cls_Load OT.no_Load__weights (dv 0)) (da_starN (de_propF OT.cls_Load OT.get_Load_weights (hr.mono (by decide)) (dv 1)) da_nil))) da_nil))))))

theorem ok_Load___contains__ {P : Program} {w : World} {K : PySem.W.Frag} {mg : Str → Option Value} {base : Heap} (T : Txt mg) (D : MethAt K "Load" "__contains__" "Load.__contains__" (memb (top 37) 7)) (C_missing_weight : CalD P w K mg base 1 "missing_weight" ["weights", "others"] S_missing_weight) (OT : ObjT P w K mg base) : CalM P w K mg base 3 "Load" "__contains__" ["self", "value"] S_Load___contains__ := by
  refine CalM.mk (T := T_Load___contains__) D sc_Load___contains__ (fun _ _ _ _ _ _ us hl => match us, hl with | [_, _], _ => rfl) ar_Load___contains__ (fun f cdv A fs s hp e RX I hr gd => ?_) rd_Load___contains__
  have sc := sc_Load___contains__
  have hu := hr.units
  exact (ds_one (ds_ret (de_and (de_callB call_isi (ok_isO OT.is_Load (by decide)) (by rfl) T.b_isinstance (by decide +kernel) (da_cons (dv 1) (da_cons (de_cls (by rfl) T.k_Load) da_nil))) (de_one (de_cmp op_isN ok_isN (de_call C_missing_weight (hr.mono (by decide)) gd (by rfl) (da_cons (de_fld OT.cls_Load OT.no_Load__weights (dv 0)) (da_cons (de_propF OT.cls_Load OT.get_Load_weights (hr.mono (by decide)) (dv 1)) da_nil))) de_non)))))

theorem ok_Load___eq__ {P : Program} {w : World} {K : PySem.W.Frag} {mg : Str → Option Value} {base : Heap} (T : Txt mg) (D : MethAt K "Load" "__eq__" "Load.__eq__" (memb (top 37) 10)) (OT : ObjT P w K mg base) : CalM P w K mg base 3 "Load" "__eq__" ["self", "other"] S_Load___eq__ := by
  refine CalM.mk (T := T_Load___eq__) D sc_Load___eq__ (fun _ _ _ _ _ _ us hl => match us, hl with | [_, _], _ => rfl) ar_Load___eq__ (fun f cdv A fs s hp e RX I hr gd => ?_) rd_Load___eq__
  have sc := sc_Load___eq__
  have hu := hr.units
  exact (ds_one (ds_ret (de_and (de_callB call_isi (ok_isO OT.is_Load (by decide)) (by rfl) T.b_isinstance (by decide +kernel) (da_cons (dv 1) (da_cons (de_cls (by rfl) T.k_Load) da_nil))) (de_one (de_cmp (op_eqA hu) ok_eq (de_fld OT.cls_Load OT.no_Load__weights (dv 0)) (de_propF OT.cls_Load OT.get_Load_weights (hr.mono (by decide)) (dv 1)))))))

theorem ok_Load___sub__ {P : Program} {w : World} {K : PySem.W.Frag} {mg : Str → Option Value} {base : Heap} (T : Txt mg) (D : MethAt K "Load" "__sub__" "Load.__sub__" (memb (top 37) 6)) (C_Load___init__ : CalM P w K mg base 3 "Load" "__init__" ["self", "weights"] S_Load___init__) (C_missing_weight : CalD P w K mg base 1 "missing_weight" ["weights", "others"] S_missing_weight) (OT : ObjT P w K mg base) (X_Missing : ErrD P w K mg base 1 "Missing" "weight") : CalM P w K mg base 6 "Load" "__sub__" ["self", "other"] S_Load___sub__ := by
  refine CalM.mk (T := T_Load___sub__) D sc_Load___sub__ (fun _ _ _ _ _ _ us hl => match us, hl with | [_, _], _ => rfl) ar_Load___sub__ (fun f cdv A fs s hp e RX I hr gd => ?_) rd_Load___sub__
  have sc := sc_Load___sub__
  have hu := hr.units
  exact (ds_cons (ds_if (dt_not (dt_val (de_callB call_isi (ok_isO OT.is_Load (by decide)) (by rfl) T.b_isinstance (by decide +kernel) (da_cons (dv 1) (da_cons (de_cls (by rfl) T.k_Load) da_nil))))) (ds_one (ds_ret de_no)) ds_nil)
    (ds_cons (ds_set (i := 2) sc.nd rfl (by first | exact Or.inl rfl | exact Or.inr rfl) (de_call C_missing_weight (hr.mono (by decide)) gd (by rfl) (da_cons (de_fld OT.cls_Load OT.no_Load__weights (dv 0)) (da_cons (de_propF OT.cls_Load OT.get_Load_weights (hr.mono (by decide)) (dv 1)) da_nil))))
    (ds_cons (ds_if (dt_cmp op_notN ok_notN (dv 2) de_non) (ds_one (ds_raiseK I rfl (takes_of rfl rfl rfl rfl) X_Missing (hr.mono (by decide)) (by rfl) (dv 2))) ds_nil)
    (ds_cons (ds_set (i := 3) sc.nd rfl (by first | exact Or.inl rfl | exact Or.inr rfl) (de_callTy call_list_of ok_lstN (by rfl) T.b_list (by decide +kernel) (da_cons (de_fld OT.cls_Load OT.no_Load__weights (dv 0)) da_nil)))
    (ds_cons (ds_for (L2.passes_of rfl) rfl (di_seq (de_propF OT.cls_Load OT.get_Load_weights (hr.mono (by decide)) (dv 1))) (dg_name (i := 4) sc.nd rfl (by first | exact Or.inl rfl | exact Or.inr rfl)) (ds_one (ds_expr (de_remO (dv 3) (dv 4)))))
    (ds_one (ds_ret (de_makeK I OT.mk_Load C_Load___init__ (hr.mono (by decide)) gd (takes_of rfl rfl rfl rfl) (by rfl) (da_cons (de_callTy call_tuple_of ok_tupOf (by rfl) T.b_tuple (by decide +kernel) (da_cons (dv 3) da_nil)) da_nil)))))))))

theorem ok__law_plan_right {P : Program} {w : World} {K : PySem.W.Frag} {mg : Str → Option Value} {base : Heap} (T : Txt mg) (D : DefAt K mg "_law_plan_right" (top 80)) (C_Basket___call__ : CalM P w K mg base 3 "Basket" "__call__" ["self", "one", "other"] S_Basket___call__) (C_Basket___init__ : CalM P w K mg base 3 "Basket" "__init__" ["self", "excess"] S_Basket___init__) (C_Load___add__ : CalM P w K mg base 6 "Load" "__add__" ["self", "other"] S_Load___add__) (C_Load___contains__ : CalM P w K mg base 3 "Load" "__contains__" ["self", "value"] S_Load___contains__) (C_Load___eq__ : CalM P w K mg base 3 "Load" "__eq__" ["self", "other"] S_Load___eq__) (C_Load___init__ : CalM P w K mg base 3 "Load" "__init__" ["self", "weights"] S_Load___init__) (C_Load___sub__ : CalM P w K mg base 6 "Load" "__sub__" ["self", "other"] S_Load___sub__) (C__law_load : CalD P w K mg base 6 "_law_load" ["weights", "group"] S__law_load) (OT : ObjT P w K mg base) : CalD P w K mg base 9 "_law_plan_right" ["tower", "plan", "goal"] S__law_plan_right := by
  refine CalD.mk (T := T__law_plan_right) D sc__law_plan_right (fun _ _ _ _ _ _ us hl => match us, hl with | [_, _, _], _ => rfl) ar__law_plan_right (fun f cdv A fs s hp e hr gd => ?_) rd__law_plan_right
  have sc := sc__law_plan_right
  have hu := hr.units
  exact (ds_cons (ds_asg (dv 0) (dg_tup rfl (dgs_cons (dg_name (i := 3) sc.nd rfl (by first | exact Or.inl rfl | exact Or.inr rfl)) (dgs_cons (dg_name (i := 4) sc.nd rfl (by first | exact Or.inl rfl | exact Or.inr rfl)) dgs_nil))))
    (ds_cons (ds_par3 (i := 5) (j := 6) (l := 7) rfl sc.nd rfl rfl rfl (by decide) (by decide) (by decide) rfl rfl rfl (da_cons (de_makeOK ambN OT.mk_Basket C_Basket___init__ (hr.mono (by decide)) gd L2.takes0 (by rfl) (da_cons (dv 3) da_nil)) (da_cons (de_makeK ambN OT.mk_Load C_Load___init__ (hr.mono (by decide)) gd L2.takes0 (by rfl) (da_cons (dv 4) da_nil)) (da_cons (de_makeK ambN OT.mk_Load C_Load___init__ (hr.mono (by decide)) gd L2.takes0 (by rfl) (da_cons (de_tup da_nil) da_nil)) da_nil))) (by rfl))
    (ds_cons (ds_for PassesOwn.never rfl (di_enum (by rfl) T.b_enumerate (da_cons (dv 1) da_nil)) (dg_tup rfl (dgs_cons (dg_name (i := 8) sc.nd rfl (by first | exact Or.inl rfl | exact Or.inr rfl)) (dgs_cons (dg_tup rfl (dgs_cons (dg_name (i := 9) sc.nd rfl (by first | exact Or.inl rfl | exact Or.inr rfl)) (dgs_cons (dg_name (i := 10) sc.nd rfl (by first | exact Or.inl rfl | exact Or.inr rfl)) dgs_nil))) dgs_nil))) (ds_cons (ds_par3 (i := 11) (j := 12) (l := 13) rfl sc.nd rfl rfl rfl (by decide) (by decide) (by decide) rfl rfl rfl (da_cons (de_call C__law_load (hr.mono (by decide)) gd (by rfl) (da_cons (dv 4) (da_cons (dv 9) da_nil))) (da_cons (de_call C__law_load (hr.mono (by decide)) gd (by rfl) (da_cons (dv 4) (da_cons (dv 10) da_nil))) (da_cons (de_propF OT.cls_Load OT.get_Load_total (hr.mono (by decide)) (dv 7)) da_nil))) (by rfl))
    (ds_cons (ds_set (i := 14) sc.nd rfl (by first | exact Or.inl rfl | exact Or.inr rfl) (de_callMK ambN C_Basket___call__ (hr.mono (by decide)) gd L2.takes0 (dv 5) (da_cons (dv 11) (da_cons (dv 12) da_nil))))
    (ds_cons (ds_if (dt_bool (dw_or (dt_cmp op_isN ok_isN (dv 14) de_non) (dw_or (dt_cmp (op_notInMC C_Load___contains__ (hr.mono (by decide)) gd) ok_inM (dv 12) (dv 7)) (dw_or1 (dt_cmp (op_notInMC C_Load___contains__ (hr.mono (by decide)) gd) ok_inM (dv 11) (de_binMK ambN OT.sf_Load C_Load___sub__ (hr.mono (by decide)) gd L2.takes0 (dv 6) (dv 7))))))) (ds_one (ds_ret de_bl)) ds_nil)
    (ds_cons (ds_set (i := 7) sc.nd rfl (by first | exact Or.inl rfl | exact Or.inr rfl) (de_binMK ambN OT.sf_Load C_Load___add__ (hr.mono (by decide)) gd L2.takes0 (de_binMK ambN OT.sf_Load C_Load___sub__ (hr.mono (by decide)) gd L2.takes0 (dv 7) (dv 12)) (dv 11)))
    (ds_one (ds_if (dt_bool (dw_or (dt_cmp (op_neA hu) ok_ne (de_propF OT.cls_Load OT.get_Load_total (hr.mono (by decide)) (dv 7)) (de_op op_addA ok_add (dv 13) (dv 14))) (dw_or (dt_cmp (op_neA hu) ok_ne (de_propF OT.cls_Basket OT.get_Basket_rides (hr.mono (by decide)) (dv 5)) (de_op op_addA ok_add (dv 8) de_int)) (dw_or1 (dt_cmp op_notN ok_notN (de_callMK ambN C_Basket___call__ (hr.mono (by decide)) gd L2.takes0 (dv 5) (da_cons (dv 12) (da_cons (dv 11) da_nil))) de_non))))) (ds_one (ds_ret de_bl)) ds_nil)))))))
    (ds_one (ds_ret (de_and (de_cmp (op_eqMC C_Load___eq__ (hr.mono (by decide)) gd hu) ok_eqM (dv 7) (de_call C__law_load (hr.mono (by decide)) gd (by rfl) (da_cons (dv 4) (da_cons (dv 2) da_nil)))) (de_and (de_cmp (op_eqA hu) ok_eq (de_propF OT.cls_Basket OT.get_Basket_excess (hr.mono (by decide)) (dv 5)) (dv 3)) (de_one (de_cmp (op_eqMC C_Load___eq__ (hr.mono (by decide)) gd hu) ok_eqM (dv 6) (de_makeK ambN OT.mk_Load C_Load___init__ (hr.mono (by decide)) gd L2.takes0 (by rfl) (da_cons (de_rev (dv 4)) da_nil)))))))))))

theorem ok_Hoist___len__ {P : Program} {w : World} {K : PySem.W.Frag} {mg : Str → Option Value} {base : Heap} (T : Txt mg) (D : MethAt K "Hoist" "__len__" "Hoist.__len__" (memb (top 69) 16)) (OT : ObjT P w K mg base) : CalM P w K mg base 3 "Hoist" "__len__" ["self"] S_Hoist___len__ := by
  refine CalM.mk (T := T_Hoist___len__) D sc_Hoist___len__ (fun _ _ _ _ _ _ us hl => match us, hl with | [_], _ => rfl) ar_Hoist___len__ (fun f cdv A fs s hp e RX I hr gd => ?_) rd_Hoist___len__
  have sc := sc_Hoist___len__
  have hu := hr.units
  exact (ds_one (ds_ret (de_callB call_len ok_len (by rfl) T.b_len (by decide +kernel) (da_cons (de_fld OT.cls_Hoist OT.no_Hoist__edits (dv 0)) da_nil))))

theorem ok__law_edit_right {P : Program} {w : World} {K : PySem.W.Frag} {mg : Str → Option Value} {base : Heap} (T : Txt mg) (D : DefAt K mg "_law_edit_right" (top 81)) (C_Hoist___len__ : CalM P w K mg base 3 "Hoist" "__len__" ["self"] S_Hoist___len__) (C_Hoist_tower : CalP P w K mg base 3 "Hoist" "tower" S_Hoist_tower) (C_Load___add__ : CalM P w K mg base 6 "Load" "__add__" ["self", "other"] S_Load___add__) (C_Load___contains__ : CalM P w K mg base 3 "Load" "__contains__" ["self", "value"] S_Load___contains__) (C_Load___eq__ : CalM P w K mg base 3 "Load" "__eq__" ["self", "other"] S_Load___eq__) (C_Load___init__ : CalM P w K mg base 3 "Load" "__init__" ["self", "weights"] S_Load___init__) (C_Load___sub__ : CalM P w K mg base 6 "Load" "__sub__" ["self", "other"] S_Load___sub__) (C__law_do : CalD P w K mg base 9 "_law_do" ["table", "edit"] S__law_do) (OT : ObjT P w K mg base) : CalD P w K mg base 10 "_law_edit_right" ["table", "edit"] S__law_edit_right := by
  refine CalD.mk (T := T__law_edit_right) D sc__law_edit_right (fun _ _ _ _ _ _ us hl => match us, hl with | [_, _], _ => rfl) ar__law_edit_right (fun f cdv A fs s hp e hr gd => ?_) rd__law_edit_right
  have sc := sc__law_edit_right
  have hu := hr.units
  exact (ds_cons (ds_set (i := 2) sc.nd rfl (by first | exact Or.inl rfl | exact Or.inr rfl) (de_ix (de_propK ambN OT.cls_Hoist C_Hoist_tower (hr.mono (by decide)) gd (dv 0)) de_int (fun _ _ => rfl)))
    (ds_cons (ds_set (i := 3) sc.nd rfl (by first | exact Or.inl rfl | exact Or.inr rfl) (de_callB (call_lenMC C_Hoist___len__ (hr.mono (by decide)) gd) ok_lenM (by rfl) T.b_len (by decide +kernel) (da_cons (dv 0) da_nil)))
    (ds_cons (ds_if (dt_cmp (op_neA hu) ok_ne (de_call C__law_do (hr.mono (by decide)) gd (by rfl) (da_cons (dv 0) (da_cons (dv 1) da_nil))) (de_op op_addA ok_add (dv 3) de_int)) (ds_one (ds_ret de_bl)) ds_nil)
    (ds_cons (ds_par (i := 4) (j := 5) rfl sc.nd rfl rfl (by decide) rfl rfl (da_cons (de_makeK ambN OT.mk_Load C_Load___init__ (hr.mono (by decide)) gd L2.takes0 (by rfl) (da_cons (dv 2) da_nil)) (da_cons (de_makeK ambN OT.mk_Load C_Load___init__ (hr.mono (by decide)) gd L2.takes0 (by rfl) (da_cons (de_ix (de_propK ambN OT.cls_Hoist C_Hoist_tower (hr.mono (by decide)) gd (dv 0)) de_int (fun _ _ => rfl)) da_nil)) da_nil)) (by rfl))
    (ds_cons (ds_if (dt_cmp (op_eqA hu) ok_eq (de_ix (dv 1) de_int (fun _ _ => rfl)) de_str) (ds_one (ds_ret (de_and (de_cmp (op_eqMC C_Load___eq__ (hr.mono (by decide)) gd hu) ok_eqM (de_binMK ambN OT.sf_Load C_Load___add__ (hr.mono (by decide)) gd L2.takes0 (dv 4) (de_makeK ambN OT.mk_Load C_Load___init__ (hr.mono (by decide)) gd L2.takes0 (by rfl) (da_cons (de_tup (da_cons (de_ix (dv 1) de_int (fun _ _ => rfl)) da_nil)) da_nil))) (dv 5)) (de_and (de_cmp (op_inMC C_Load___contains__ (hr.mono (by decide)) gd) ok_inM (dv 4) (dv 5)) (de_one (de_cmp (op_notInMC C_Load___contains__ (hr.mono (by decide)) gd) ok_inM (dv 5) (dv 4))))))) ds_nil)
    (ds_cons (ds_if (dt_cmp (op_eqA hu) ok_eq (de_ix (dv 1) de_int (fun _ _ => rfl)) de_str) (ds_one (ds_ret (de_and (de_cmp (op_eqMC C_Load___eq__ (hr.mono (by decide)) gd hu) ok_eqM (de_binMK ambN OT.sf_Load C_Load___sub__ (hr.mono (by decide)) gd L2.takes0 (dv 4) (de_makeK ambN OT.mk_Load C_Load___init__ (hr.mono (by decide)) gd L2.takes0 (by rfl) (da_cons (de_tup (da_cons (de_ix (dv 2) (de_ix (dv 1) de_int (fun _ _ => rfl)) (fun _ _ => rfl)) da_nil)) da_nil))) (dv 5)) (de_one (de_cmp (op_inMC C_Load___contains__ (hr.mono (by decide)) gd) ok_inM (dv 5) (dv 4)))))) ds_nil)
    (ds_one (ds_ret (de_or (de_cmp (op_eqA hu) ok_eq (de_ix (dv 1) de_int (fun _ _ => rfl)) de_str) (de_one (de_cmp (op_eqMC C_Load___eq__ (hr.mono (by decide)) gd hu) ok_eqM (dv 4) (dv 5))))))))))))

theorem ok_Hoist___init__ {P : Program} {w : World} {K : PySem.W.Frag} {mg : Str → Option Value} {base : Heap} (T : Txt mg) (D : MethAt K "Hoist" "__init__" "Hoist.__init__" (memb (top 69) 1)) (C_tower_error : CalD P w K mg base 3 "tower_error" ["value"] S_tower_error) (OT : ObjT P w K mg base) : CalM P w K mg base 4 "Hoist" "__init__" ["self", "tower"] S_Hoist___init__ := by
  refine CalM.mk (T := T_Hoist___init__) D sc_Hoist___init__ (fun _ _ _ _ _ _ us hl => match us, hl with | [_, _], _ => rfl) ar_Hoist___init__ (fun f cdv A fs s hp e RX I hr gd => ?_) rd_Hoist___init__
  have sc := sc_Hoist___init__
  have hu := hr.units
  exact (ds_cons (ds_set (i := 2) sc.nd rfl (by first | exact Or.inl rfl | exact Or.inr rfl) (de_call C_tower_error (hr.mono (by decide)) gd (by rfl) (da_cons (dv 1) da_nil)))
    (ds_cons (ds_if (dt_cmp op_notN ok_notN (dv 2) de_non) (ds_one ds_never) ds_nil)
    (ds_cons (ds_fldS OT.cls_Hoist OT.no_Hoist__towers (dv 0) (de_tup (da_cons (dv 1) da_nil)))
    (ds_cons (ds_fldS OT.cls_Hoist OT.no_Hoist__edits (dv 0) (de_tup da_nil))
    (ds_one (ds_fldS OT.cls_Hoist OT.no_Hoist__watched (dv 0) de_bl))))))

theorem ok_Hoist_state {P : Program} {w : World} {K : PySem.W.Frag} {mg : Str → Option Value} {base : Heap} (T : Txt mg) (D : MethN K "Hoist" "state" "Hoist.state" (memb (top 69) 11) "version") (C_Hoist_tower : CalP P w K mg base 3 "Hoist" "tower" S_Hoist_tower) (C_is_number_between : CalD P w K mg base 1 "is_number_between" ["value", "low", "high"] S_is_number_between) (OT : ObjT P w K mg base) : CalN2 P w K mg base 5 "Hoist" "state" ["self"] "version" S_Hoist_state := by
  refine CalN2.mk (ps := ["self"]) (T := T_Hoist_state) D sc_Hoist_state (fun _ _ _ _ _ _ us ks h1 h2 => match us, ks, h1, h2 with | [_], [_], _, _ => ⟨_, _, _, _, _, _, rfl, rfl, rfl⟩) (fun _ _ _ _ _ _ us v h1 => match us, h1 with | [_], _ => rfl) ar_Hoist_state (fun f cdv A fs s hp e RX I hr gd => ?_) rd_Hoist_state
  have sc := sc_Hoist_state
  have hu := hr.units
  exact (ds_cons (ds_if (dt_cmp op_isN ok_isN (dv 1) de_non) (ds_one (ds_ret (de_propK I OT.cls_Hoist C_Hoist_tower (hr.mono (by decide)) gd (dv 0)))) ds_nil)
    (ds_cons (ds_if (dt_not (dt_val (de_call C_is_number_between (hr.mono (by decide)) gd (by rfl) (da_cons (dv 1) (da_cons de_int (da_cons (de_callB call_len ok_len (by rfl) T.b_len (by decide +kernel) (da_cons (de_fld OT.cls_Hoist OT.no_Hoist__edits (dv 0)) da_nil)) da_nil)))))) (ds_one ds_never) ds_nil)
    (ds_one (ds_ret (de_ix (de_fld OT.cls_Hoist OT.no_Hoist__towers (dv 0)) (dv 1) (fun _ _ => rfl))))))

theorem ok_Hoist_certificate {P : Program} {w : World} {K : PySem.W.Frag} {mg : Str → Option Value} {base : Heap} (T : Txt mg) (D : MethN K "Hoist" "certificate" "Hoist.certificate" (memb (top 69) 12) "version") (C_Hoist_state : CalN2 P w K mg base 5 "Hoist" "state" ["self"] "version" S_Hoist_state) (C_certificate : CalD P w K mg base 6 "certificate" ["tower", "start", "goal"] S_certificate) (C_check_small : CalD P w K mg base 1 "check_small" ["tower"] S_check_small) (C_is_group : CalD P w K mg base 2 "is_group" ["tower", "value"] S_is_group) (OT : ObjT P w K mg base) : CalN2 P w K mg base 7 "Hoist" "certificate" ["self", "goal"] "version" S_Hoist_certificate := by
  refine CalN2.mk (ps := ["self", "goal"]) (T := T_Hoist_certificate) D sc_Hoist_certificate (fun _ _ _ _ _ _ us ks h1 h2 => match us, ks, h1, h2 with | [_, _], [_], _, _ => ⟨_, _, _, _, _, _, rfl, rfl, rfl⟩) (fun _ _ _ _ _ _ us v h1 => match us, h1 with | [_, _], _ => rfl) ar_Hoist_certificate (fun f cdv A fs s hp e RX I hr gd => ?_) rd_Hoist_certificate
  have sc := sc_Hoist_certificate
  have hu := hr.units
  exact (ds_cons (ds_set (i := 3) sc.nd rfl (by first | exact Or.inl rfl | exact Or.inr rfl) (de_methKw0K I OT.cls_Hoist C_Hoist_state (hr.mono (by decide)) gd (takes_of rfl rfl rfl rfl) (dv 0) (dv 2)))
    (ds_cons (ds_expr (de_call C_check_small (hr.mono (by decide)) gd (by rfl) (da_cons (dv 3) da_nil)))
    (ds_cons (ds_if (dt_not (dt_val (de_call C_is_group (hr.mono (by decide)) gd (by rfl) (da_cons (dv 3) (da_cons (dv 1) da_nil))))) (ds_one ds_never) ds_nil)
    (ds_one (ds_ret (de_call (C_certificate.al T.l_certificate_plans) (hr.mono (by decide)) gd (by rfl) (da_cons (dv 3) (da_cons (de_tup da_nil) (da_cons (dv 1) da_nil)))))))))

theorem ok_law {P : Program} {w : World} {K : PySem.W.Frag} {mg : Str → Option Value} {base : Heap} (T : Txt mg) (D : DefAt K mg "law" (top 82)) (C_Hoist___init__ : CalM P w K mg base 4 "Hoist" "__init__" ["self", "tower"] S_Hoist___init__) (C_Hoist_certificate : CalN2 P w K mg base 7 "Hoist" "certificate" ["self", "goal"] "version" S_Hoist_certificate) (C_Hoist_tower : CalP P w K mg base 3 "Hoist" "tower" S_Hoist_tower) (C__law_deck : CalD P w K mg base 1 "_law_deck" ["script"] S__law_deck) (C__law_draw : CalD P w K mg base 1 "_law_draw" ["deck", "many"] S__law_draw) (C__law_edit : CalD P w K mg base 3 "_law_edit" ["deck", "tower"] S__law_edit) (C__law_edit_right : CalD P w K mg base 10 "_law_edit_right" ["table", "edit"] S__law_edit_right) (C__law_load : CalD P w K mg base 6 "_law_load" ["weights", "group"] S__law_load) (C__law_plan_right : CalD P w K mg base 9 "_law_plan_right" ["tower", "plan", "goal"] S__law_plan_right) (C__law_tower : CalD P w K mg base 3 "_law_tower" ["deck", "most"] S__law_tower) (OT : ObjT P w K mg base) : CalD P w K mg base 11 "law" ["script"] S_law := by
  refine CalD.mk (T := T_law) D sc_law (fun _ _ _ _ _ _ us hl => match us, hl with | [_], _ => rfl) ar_law (fun f cdv A fs s hp e hr gd => ?_) rd_law
  have sc := sc_law
  have hu := hr.units
  exact (ds_cons (ds_set (i := 1) sc.nd rfl (by first | exact Or.inl rfl | exact Or.inr rfl) (de_call C__law_deck (hr.mono (by decide)) gd (by rfl) (da_cons (dv 0) da_nil)))
    (ds_cons (ds_for PassesOwn.never rfl (di_rng1 (by rfl) T.b_range (da_cons de_int da_nil)) (dg_name (i := 2) sc.nd rfl (by first | exact Or.inl rfl | exact Or.inr rfl)) (ds_cons (ds_set (i := 3) sc.nd rfl (by first | exact Or.inl rfl | exact Or.inr rfl) (de_call C__law_tower (hr.mono (by decide)) gd (by rfl) (da_cons (dv 1) (da_cons de_int da_nil))))
    (ds_cons (ds_set (i := 4) sc.nd rfl (by first | exact Or.inl rfl | exact Or.inr rfl) (de_makeOK ambN OT.mk_Hoist C_Hoist___init__ (hr.mono (by decide)) gd L2.takes0 (by rfl) (da_cons (dv 3) da_nil)))
    (ds_cons (ds_for PassesOwn.never rfl (di_rng1 (by rfl) T.b_range (da_cons de_int da_nil)) (dg_name (i := 5) sc.nd rfl (by first | exact Or.inl rfl | exact Or.inr rfl)) (ds_cons (ds_set (i := 6) sc.nd rfl (by first | exact Or.inl rfl | exact Or.inr rfl) (de_callTy call_tuple_of ok_tupOf (by rfl) T.b_tuple (by decide +kernel) (da_cons (de_lc (own := [("k", 7)]) rfl sc.nd (di_rng1 (by rfl) T.b_range (da_cons (de_callB call_len ok_len (by rfl) T.b_len (by decide +kernel) (da_cons (de_ix (dv 3) de_int (fun _ _ => rfl)) da_nil)) da_nil)) (blkOk_by (N := ["script", "deck", "turn", "tower", "table", "time", "goal", "k", "found"]) (sc := defScope (top 82)) (by decide +kernel)) (fun _ _ _ _ _ => pg_name (i := 7) sc.nd rfl (by first | exact Or.inl rfl | exact Or.inr rfl)) (gok_name (i := 7) (by decide)) (fun _ _ _ _ _ => (dts_one (dt_cmp (op_eqA hu) ok_eq (de_call C__law_draw (hr.mono (by decide)) gd (by rfl) (da_cons (dv 1) (da_cons de_int da_nil))) de_int))) (fun _ _ _ _ _ => (dv 7))) da_nil)))
    (ds_cons (ds_set (i := 8) sc.nd rfl (by first | exact Or.inl rfl | exact Or.inr rfl) (de_methNAK ambN OT.cls_Hoist C_Hoist_certificate.n (hr.mono (by decide)) gd L2.takes0 (dv 4) (da_cons (dv 6) da_nil)))
    (ds_one (ds_if (dt_cmp (op_eqA hu) ok_eq (de_ix (dv 8) de_int (fun _ _ => rfl)) de_str) (ds_one (ds_if (dt_not (dt_val (de_call C__law_plan_right (hr.mono (by decide)) gd (by rfl) (da_cons (dv 3) (da_cons (de_ix (dv 8) de_int (fun _ _ => rfl)) (da_cons (dv 6) da_nil)))))) (ds_one (ds_ret de_bl)) ds_nil)) (ds_one (ds_if (dt_bool (dw_or (dt_cmp (op_neA hu) ok_ne (de_ix (dv 8) de_int (fun _ _ => rfl)) de_str) (dw_or1 (dt_chain op_lt ok_b0 op_lt ok_b0 (de_ix (dv 8) de_int (fun _ _ => rfl)) (de_propF OT.cls_Load OT.get_Load_total (hr.mono (by decide)) (de_call C__law_load (hr.mono (by decide)) gd (by rfl) (da_cons (de_ix (dv 3) de_int (fun _ _ => rfl)) (da_cons (dv 6) da_nil)))) (de_ix (dv 8) de_int (fun _ _ => rfl)))))) (ds_one (ds_ret de_bl)) ds_nil)))))))
    (ds_one (ds_for PassesOwn.never rfl (di_rng1 (by rfl) T.b_range (da_cons (de_op op_addA ok_add de_int (de_call C__law_draw (hr.mono (by decide)) gd (by rfl) (da_cons (dv 1) (da_cons de_int da_nil)))) da_nil)) (dg_name (i := 5) sc.nd rfl (by first | exact Or.inl rfl | exact Or.inr rfl)) (ds_one (ds_if (dt_not (dt_val (de_call C__law_edit_right (hr.mono (by decide)) gd (by rfl) (da_cons (dv 4) (da_cons (de_call C__law_edit (hr.mono (by decide)) gd (by rfl) (da_cons (dv 1) (da_cons (de_propK ambN OT.cls_Hoist C_Hoist_tower (hr.mono (by decide)) gd (dv 4)) da_nil))) da_nil))))) (ds_one (ds_ret de_bl)) ds_nil))))))))
    (ds_one (ds_ret de_bl))))

theorem all_ok {P : Program} {w : World} {K : PySem.W.Frag} {mg : Str → Option Value} {base : Heap} (T : Txt mg) (ek : ErsK K prsK flsK) (X_Missing : ErrD P w K mg base 1 "Missing" "weight") (OT : ObjT P w K mg base) (D0 : DefAt K mg "is_number_between" (top 9)) (D1 : DefAt K mg "is_excess" (top 30)) (D2 : DefAt K mg "is_weight" (top 31)) (D3 : DefAt K mg "tower_error" (top 32)) (D4 : DefAt K mg "is_group" (top 33)) (D5 : DefAt K mg "weight_of" (top 34)) (D6 : DefAt K mg "missing_weight" (top 36)) (D7 : DefAt K mg "without" (top 40)) (D8 : DefAt K mg "is_move" (top 41)) (D9 : DefAt K mg "move_between" (top 42)) (D10 : DefAt K mg "check_small" (top 44)) (D11 : DefAt K mg "groups_by_weight" (top 45)) (D12 : DefAt K mg "sums_of" (top 46)) (D13 : DefAt K mg "sums_between" (top 47)) (D14 : DefAt K mg "find_bar" (top 48)) (D15 : DefAt K mg "stops_between" (top 49)) (D16 : DefAt K mg "certificate" (top 50)) (D17 : DefAt K mg "find_plan" (top 52)) (D18 : DefAt K mg "_law_deck" (top 73)) (D19 : DefAt K mg "_law_draw" (top 74)) (D20 : DefAt K mg "_law_weight" (top 75)) (D21 : DefAt K mg "_law_tower" (top 76)) (D22 : DefAt K mg "_law_edit" (top 77)) (D23 : DefAt K mg "_law_do" (top 78)) (D24 : DefAt K mg "_law_load" (top 79)) (D25 : DefAt K mg "_law_plan_right" (top 80)) (D26 : DefAt K mg "_law_edit_right" (top 81)) (D27 : DefAt K mg "law" (top 82)) (D28 : MethAt K "Load" "__init__" "Load.__init__" (memb (top 37) 0)) (D29 : MethAt K "Load" "__add__" "Load.__add__" (memb (top 37) 5)) (D30 : MethAt K "Load" "__sub__" "Load.__sub__" (memb (top 37) 6)) (D31 : MethAt K "Load" "__eq__" "Load.__eq__" (memb (top 37) 10)) (D32 : MethAt K "Load" "__contains__" "Load.__contains__" (memb (top 37) 7)) (D33 : MethAt K "Basket" "__init__" "Basket.__init__" (memb (top 38) 0)) (D34 : MethAt K "Basket" "__call__" "Basket.__call__" (memb (top 38) 3)) (D35 : MethAt K "Hoist" "__init__" "Hoist.__init__" (memb (top 69) 1)) (D36 : MethAt K "Hoist" "come" "Hoist.come" (memb (top 69) 5)) (D37 : MethAt K "Hoist" "leave" "Hoist.leave" (memb (top 69) 6)) (D38 : MethAt K "Hoist" "weigh" "Hoist.weigh" (memb (top 69) 7)) (D39 : MethAt K "Hoist" "loosen" "Hoist.loosen" (memb (top 69) 8)) (D40 : MethAt K "Hoist" "__len__" "Hoist.__len__" (memb (top 69) 16)) (D41 : MethAt K "Hoist" "_check_idle" "Hoist._check_idle" (memb (top 69) 19)) (D42 : MethAt K "Hoist" "_check_edit" "Hoist._check_edit" (memb (top 69) 20)) (D43 : MethAt K "Hoist" "_check_person" "Hoist._check_person" (memb (top 69) 21)) (D44 : MethAt K "Hoist" "_check_tower" "Hoist._check_tower" (memb (top 69) 22)) (D45 : MethAt K "Hoist" "_keep" "Hoist._keep" (memb (top 69) 23)) (D46 : PropAt K "Hoist" "tower" "Hoist.tower" (memb (top 69) 2)) (D47 : MethN K "Hoist" "state" "Hoist.state" (memb (top 69) 11) "version") (D48 : MethN K "Hoist" "certificate" "Hoist.certificate" (memb (top 69) 12) "version") : CalD P w K mg base 11 "law" ["script"] S_law := by
  have C_is_number_between := ok_is_number_between (P := P) (w := w) (base := base) T D0
  have C_is_excess := ok_is_excess (P := P) (w := w) (base := base) T D1 C_is_number_between
  have C_is_weight := ok_is_weight (P := P) (w := w) (base := base) T D2 C_is_number_between
  have C_tower_error := ok_tower_error (P := P) (w := w) (base := base) T D3 C_is_excess C_is_weight
  have C_is_group := ok_is_group (P := P) (w := w) (base := base) T D4 C_is_number_between
  have C_weight_of := ok_weight_of (P := P) (w := w) (base := base) T D5
  have C_missing_weight := ok_missing_weight (P := P) (w := w) (base := base) T D6
  have C_without := ok_without (P := P) (w := w) (base := base) T D7
  have C_is_move := ok_is_move (P := P) (w := w) (base := base) T D8 C_is_group C_weight_of C_without
  have C_move_between := ok_move_between (P := P) (w := w) (base := base) T D9 C_is_move C_without
  have C_check_small := ok_check_small (P := P) (w := w) (base := base) T D10
  have C_groups_by_weight := ok_groups_by_weight (P := P) (w := w) (base := base) T D11
  have C_sums_of := ok_sums_of (P := P) (w := w) (base := base) T D12 C_check_small C_groups_by_weight
  have C_sums_between := ok_sums_between (P := P) (w := w) (base := base) T D13 C_sums_of C_weight_of
  have C_find_bar := ok_find_bar (P := P) (w := w) (base := base) T D14 C_sums_between C_weight_of
  have C_stops_between := ok_stops_between (P := P) (w := w) (base := base) T D15 C_sums_between C_weight_of
  have C_find_plan := ok_find_plan (P := P) (w := w) (base := base) T D17 C_check_small C_find_bar C_groups_by_weight C_move_between C_stops_between
  have C_certificate := ok_certificate (P := P) (w := w) (base := base) T D16 C_find_bar C_find_plan
  have C__law_deck := ok__law_deck (P := P) (w := w) (base := base) T D18
  have C__law_draw := ok__law_draw (P := P) (w := w) (base := base) T D19
  have C__law_weight := ok__law_weight (P := P) (w := w) (base := base) T D20 C__law_draw
  have C__law_tower := ok__law_tower (P := P) (w := w) (base := base) T D21 C__law_draw C__law_weight
  have C__law_edit := ok__law_edit (P := P) (w := w) (base := base) T D22 C__law_draw C__law_weight
  have C_Hoist__check_idle := ok_Hoist__check_idle (P := P) (w := w) (base := base) T D41 OT
  have C_Hoist__check_edit := ok_Hoist__check_edit (P := P) (w := w) (base := base) T D42 C_Hoist__check_idle OT
  have C_Hoist__check_tower := ok_Hoist__check_tower (P := P) (w := w) (base := base) T D44
  have C_Hoist__keep := ok_Hoist__keep (P := P) (w := w) (base := base) T D45 C_Hoist__check_tower OT
  have C_Hoist_tower := ok_Hoist_tower (P := P) (w := w) (base := base) T D46 OT
  have C_Hoist_come := ok_Hoist_come (P := P) (w := w) (base := base) T D36 C_Hoist__check_edit C_Hoist__keep C_Hoist_tower C_is_weight OT
  have C_Hoist__check_person := ok_Hoist__check_person (P := P) (w := w) (base := base) T D43 C_Hoist_tower C_is_number_between OT
  have C_Hoist_leave := ok_Hoist_leave (P := P) (w := w) (base := base) T D37 C_Hoist__check_edit C_Hoist__check_person C_Hoist__keep C_Hoist_tower OT
  have C_Hoist_loosen := ok_Hoist_loosen (P := P) (w := w) (base := base) T D39 C_Hoist__check_edit C_Hoist__keep C_Hoist_tower C_is_excess OT
  have C_Hoist_weigh := ok_Hoist_weigh (P := P) (w := w) (base := base) T D38 C_Hoist__check_edit C_Hoist__check_person C_Hoist__keep C_Hoist_tower C_is_weight OT
  have C__law_do := ok__law_do (P := P) (w := w) (base := base) T D23 C_Hoist_come C_Hoist_leave C_Hoist_loosen C_Hoist_weigh OT
  have C_Load___init__ := ok_Load___init__ (P := P) (w := w) (base := base) T D28 C_is_weight OT
  have C__law_load := ok__law_load (P := P) (w := w) (base := base) T D24 C_Load___init__ OT
  have C_Basket___call__ := ok_Basket___call__ (P := P) (w := w) (base := base) T D34 C_is_number_between OT
  have C_Basket___init__ := ok_Basket___init__ (P := P) (w := w) (base := base) T D33 C_is_excess OT
  have C_Load___add__ := ok_Load___add__ (P := P) (w := w) (base := base) T D29 C_Load___init__ OT
  have C_Load___contains__ := ok_Load___contains__ (P := P) (w := w) (base := base) T D32 C_missing_weight OT
  have C_Load___eq__ := ok_Load___eq__ (P := P) (w := w) (base := base) T D31 OT
  have C_Load___sub__ := ok_Load___sub__ (P := P) (w := w) (base := base) T D30 C_Load___init__ C_missing_weight OT X_Missing
  have C__law_plan_right := ok__law_plan_right (P := P) (w := w) (base := base) T D25 C_Basket___call__ C_Basket___init__ C_Load___add__ C_Load___contains__ C_Load___eq__ C_Load___init__ C_Load___sub__ C__law_load OT
  have C_Hoist___len__ := ok_Hoist___len__ (P := P) (w := w) (base := base) T D40 OT
  have C__law_edit_right := ok__law_edit_right (P := P) (w := w) (base := base) T D26 C_Hoist___len__ C_Hoist_tower C_Load___add__ C_Load___contains__ C_Load___eq__ C_Load___init__ C_Load___sub__ C__law_do OT
  have C_Hoist___init__ := ok_Hoist___init__ (P := P) (w := w) (base := base) T D35 C_tower_error OT
  have C_Hoist_state := ok_Hoist_state (P := P) (w := w) (base := base) T D47 C_Hoist_tower C_is_number_between OT
  have C_Hoist_certificate := ok_Hoist_certificate (P := P) (w := w) (base := base) T D48 C_Hoist_state C_certificate C_check_small C_is_group OT
  have C_law := ok_law (P := P) (w := w) (base := base) T D27 C_Hoist___init__ C_Hoist_certificate C_Hoist_tower C__law_deck C__law_draw C__law_edit C__law_edit_right C__law_load C__law_plan_right C__law_tower OT
  exact C_law
end K54
namespace K54
open PySem PySem.Spec L2 DL
theorem fin {P : Program} {w : World} {K : PySem.W.Frag} {h : Heap} {mg : Str → Option Value} {fa : Addr} (KX : K.In h) (G : h.Ns mainGlobals mg) (hfa : mg "law" = some (.ref fa))
    {f0 : Addr} {od0 an0 : Option Addr} {sl0 : Array (Option Value)} {oc0 kV0 dc0 pm0 cd0 ct0 : Value} (a0 : PySem.W.nsIn K mainGlobals "is_number_between" = some (some (.ref f0))) (l0 : K.lookup f0 = some ⟨oc0, od0, .func (PySem.W.fnOf "is_number_between" "is_number_between" (defArgs (top 9)) (defBody (top 9)) (defScope (top 9)) .none kV0 dc0 pm0 an0 cd0 ct0), sl0⟩) (c0 : PySem.W.codeIn K cd0 "is_number_between" = true) (k0 : PySem.W.keepIn K (.ref f0) = true)
    {f1 : Addr} {od1 an1 : Option Addr} {sl1 : Array (Option Value)} {oc1 kV1 dc1 pm1 cd1 ct1 : Value} (a1 : PySem.W.nsIn K mainGlobals "is_excess" = some (some (.ref f1))) (l1 : K.lookup f1 = some ⟨oc1, od1, .func (PySem.W.fnOf "is_excess" "is_excess" (defArgs (top 30)) (defBody (top 30)) (defScope (top 30)) .none kV1 dc1 pm1 an1 cd1 ct1), sl1⟩) (c1 : PySem.W.codeIn K cd1 "is_excess" = true) (k1 : PySem.W.keepIn K (.ref f1) = true)
    {f2 : Addr} {od2 an2 : Option Addr} {sl2 : Array (Option Value)} {oc2 kV2 dc2 pm2 cd2 ct2 : Value} (a2 : PySem.W.nsIn K mainGlobals "is_weight" = some (some (.ref f2))) (l2 : K.lookup f2 = some ⟨oc2, od2, .func (PySem.W.fnOf "is_weight" "is_weight" (defArgs (top 31)) (defBody (top 31)) (defScope (top 31)) .none kV2 dc2 pm2 an2 cd2 ct2), sl2⟩) (c2 : PySem.W.codeIn K cd2 "is_weight" = true) (k2 : PySem.W.keepIn K (.ref f2) = true)
    {f3 : Addr} {od3 an3 : Option Addr} {sl3 : Array (Option Value)} {oc3 kV3 dc3 pm3 cd3 ct3 : Value} (a3 : PySem.W.nsIn K mainGlobals "tower_error" = some (some (.ref f3))) (l3 : K.lookup f3 = some ⟨oc3, od3, .func (PySem.W.fnOf "tower_error" "tower_error" (defArgs (top 32)) (defBody (top 32)) (defScope (top 32)) .none kV3 dc3 pm3 an3 cd3 ct3), sl3⟩) (c3 : PySem.W.codeIn K cd3 "tower_error" = true) (k3 : PySem.W.keepIn K (.ref f3) = true)
    {f4 : Addr} {od4 an4 : Option Addr} {sl4 : Array (Option Value)} {oc4 kV4 dc4 pm4 cd4 ct4 : Value} (a4 : PySem.W.nsIn K mainGlobals "is_group" = some (some (.ref f4))) (l4 : K.lookup f4 = some ⟨oc4, od4, .func (PySem.W.fnOf "is_group" "is_group" (defArgs (top 33)) (defBody (top 33)) (defScope (top 33)) .none kV4 dc4 pm4 an4 cd4 ct4), sl4⟩) (c4 : PySem.W.codeIn K cd4 "is_group" = true) (k4 : PySem.W.keepIn K (.ref f4) = true)
    {f5 : Addr} {od5 an5 : Option Addr} {sl5 : Array (Option Value)} {oc5 kV5 dc5 pm5 cd5 ct5 : Value} (a5 : PySem.W.nsIn K mainGlobals "weight_of" = some (some (.ref f5))) (l5 : K.lookup f5 = some ⟨oc5, od5, .func (PySem.W.fnOf "weight_of" "weight_of" (defArgs (top 34)) (defBody (top 34)) (defScope (top 34)) .none kV5 dc5 pm5 an5 cd5 ct5), sl5⟩) (c5 : PySem.W.codeIn K cd5 "weight_of" = true) (k5 : PySem.W.keepIn K (.ref f5) = true)
    {f6 : Addr} {od6 an6 : Option Addr} {sl6 : Array (Option Value)} {oc6 kV6 dc6 pm6 cd6 ct6 : Value} (a6 : PySem.W.nsIn K mainGlobals "missing_weight" = some (some (.ref f6))) (l6 : K.lookup f6 = some ⟨oc6, od6, .func (PySem.W.fnOf "missing_weight" "missing_weight" (defArgs (top 36)) (defBody (top 36)) (defScope (top 36)) .none kV6 dc6 pm6 an6 cd6 ct6), sl6⟩) (c6 : PySem.W.codeIn K cd6 "missing_weight" = true) (k6 : PySem.W.keepIn K (.ref f6) = true)
    {f7 : Addr} {od7 an7 : Option Addr} {sl7 : Array (Option Value)} {oc7 kV7 dc7 pm7 cd7 ct7 : Value} (a7 : PySem.W.nsIn K mainGlobals "without" = some (some (.ref f7))) (l7 : K.lookup f7 = some ⟨oc7, od7, .func (PySem.W.fnOf "without" "without" (defArgs (top 40)) (defBody (top 40)) (defScope (top 40)) .none kV7 dc7 pm7 an7 cd7 ct7), sl7⟩) (c7 : PySem.W.codeIn K cd7 "without" = true) (k7 : PySem.W.keepIn K (.ref f7) = true)
    {f8 : Addr} {od8 an8 : Option Addr} {sl8 : Array (Option Value)} {oc8 kV8 dc8 pm8 cd8 ct8 : Value} (a8 : PySem.W.nsIn K mainGlobals "is_move" = some (some (.ref f8))) (l8 : K.lookup f8 = some ⟨oc8, od8, .func (PySem.W.fnOf "is_move" "is_move" (defArgs (top 41)) (defBody (top 41)) (defScope (top 41)) .none kV8 dc8 pm8 an8 cd8 ct8), sl8⟩) (c8 : PySem.W.codeIn K cd8 "is_move" = true) (k8 : PySem.W.keepIn K (.ref f8) = true)
    {f9 : Addr} {od9 an9 : Option Addr} {sl9 : Array (Option Value)} {oc9 kV9 dc9 pm9 cd9 ct9 : Value} (a9 : PySem.W.nsIn K mainGlobals "move_between" = some (some (.ref f9))) (l9 : K.lookup f9 = some ⟨oc9, od9, .func (PySem.W.fnOf "move_between" "move_between" (defArgs (top 42)) (defBody (top 42)) (defScope (top 42)) .none kV9 dc9 pm9 an9 cd9 ct9), sl9⟩) (c9 : PySem.W.codeIn K cd9 "move_between" = true) (k9 : PySem.W.keepIn K (.ref f9) = true)
    {f10 : Addr} {od10 an10 : Option Addr} {sl10 : Array (Option Value)} {oc10 kV10 dc10 pm10 cd10 ct10 : Value} (a10 : PySem.W.nsIn K mainGlobals "check_small" = some (some (.ref f10))) (l10 : K.lookup f10 = some ⟨oc10, od10, .func (PySem.W.fnOf "check_small" "check_small" (defArgs (top 44)) (defBody (top 44)) (defScope (top 44)) .none kV10 dc10 pm10 an10 cd10 ct10), sl10⟩) (c10 : PySem.W.codeIn K cd10 "check_small" = true) (k10 : PySem.W.keepIn K (.ref f10) = true)
    {f11 : Addr} {od11 an11 : Option Addr} {sl11 : Array (Option Value)} {oc11 kV11 dc11 pm11 cd11 ct11 : Value} (a11 : PySem.W.nsIn K mainGlobals "groups_by_weight" = some (some (.ref f11))) (l11 : K.lookup f11 = some ⟨oc11, od11, .func (PySem.W.fnOf "groups_by_weight" "groups_by_weight" (defArgs (top 45)) (defBody (top 45)) (defScope (top 45)) .none kV11 dc11 pm11 an11 cd11 ct11), sl11⟩) (c11 : PySem.W.codeIn K cd11 "groups_by_weight" = true) (k11 : PySem.W.keepIn K (.ref f11) = true)
    {f12 : Addr} {od12 an12 : Option Addr} {sl12 : Array (Option Value)} {oc12 kV12 dc12 pm12 cd12 ct12 : Value} (a12 : PySem.W.nsIn K mainGlobals "sums_of" = some (some (.ref f12))) (l12 : K.lookup f12 = some ⟨oc12, od12, .func (PySem.W.fnOf "sums_of" "sums_of" (defArgs (top 46)) (defBody (top 46)) (defScope (top 46)) .none kV12 dc12 pm12 an12 cd12 ct12), sl12⟩) (c12 : PySem.W.codeIn K cd12 "sums_of" = true) (k12 : PySem.W.keepIn K (.ref f12) = true)
    {f13 : Addr} {od13 an13 : Option Addr} {sl13 : Array (Option Value)} {oc13 kV13 dc13 pm13 cd13 ct13 : Value} (a13 : PySem.W.nsIn K mainGlobals "sums_between" = some (some (.ref f13))) (l13 : K.lookup f13 = some ⟨oc13, od13, .func (PySem.W.fnOf "sums_between" "sums_between" (defArgs (top 47)) (defBody (top 47)) (defScope (top 47)) .none kV13 dc13 pm13 an13 cd13 ct13), sl13⟩) (c13 : PySem.W.codeIn K cd13 "sums_between" = true) (k13 : PySem.W.keepIn K (.ref f13) = true)
    {f14 : Addr} {od14 an14 : Option Addr} {sl14 : Array (Option Value)} {oc14 kV14 dc14 pm14 cd14 ct14 : Value} (a14 : PySem.W.nsIn K mainGlobals "find_bar" = some (some (.ref f14))) (l14 : K.lookup f14 = some ⟨oc14, od14, .func (PySem.W.fnOf "find_bar" "find_bar" (defArgs (top 48)) (defBody (top 48)) (defScope (top 48)) .none kV14 dc14 pm14 an14 cd14 ct14), sl14⟩) (c14 : PySem.W.codeIn K cd14 "find_bar" = true) (k14 : PySem.W.keepIn K (.ref f14) = true)
    {f15 : Addr} {od15 an15 : Option Addr} {sl15 : Array (Option Value)} {oc15 kV15 dc15 pm15 cd15 ct15 : Value} (a15 : PySem.W.nsIn K mainGlobals "stops_between" = some (some (.ref f15))) (l15 : K.lookup f15 = some ⟨oc15, od15, .func (PySem.W.fnOf "stops_between" "stops_between" (defArgs (top 49)) (defBody (top 49)) (defScope (top 49)) .none kV15 dc15 pm15 an15 cd15 ct15), sl15⟩) (c15 : PySem.W.codeIn K cd15 "stops_between" = true) (k15 : PySem.W.keepIn K (.ref f15) = true)
    {f16 : Addr} {od16 an16 : Option Addr} {sl16 : Array (Option Value)} {oc16 kV16 dc16 pm16 cd16 ct16 : Value} (a16 : PySem.W.nsIn K mainGlobals "certificate" = some (some (.ref f16))) (l16 : K.lookup f16 = some ⟨oc16, od16, .func (PySem.W.fnOf "certificate" "certificate" (defArgs (top 50)) (defBody (top 50)) (defScope (top 50)) .none kV16 dc16 pm16 an16 cd16 ct16), sl16⟩) (c16 : PySem.W.codeIn K cd16 "certificate" = true) (k16 : PySem.W.keepIn K (.ref f16) = true)
    {f17 : Addr} {od17 an17 : Option Addr} {sl17 : Array (Option Value)} {oc17 kV17 dc17 pm17 cd17 ct17 : Value} (a17 : PySem.W.nsIn K mainGlobals "find_plan" = some (some (.ref f17))) (l17 : K.lookup f17 = some ⟨oc17, od17, .func (PySem.W.fnOf "find_plan" "find_plan" (defArgs (top 52)) (defBody (top 52)) (defScope (top 52)) .none kV17 dc17 pm17 an17 cd17 ct17), sl17⟩) (c17 : PySem.W.codeIn K cd17 "find_plan" = true) (k17 : PySem.W.keepIn K (.ref f17) = true)
    {f18 : Addr} {od18 an18 : Option Addr} {sl18 : Array (Option Value)} {oc18 kV18 dc18 pm18 cd18 ct18 : Value} (a18 : PySem.W.nsIn K mainGlobals "_law_deck" = some (some (.ref f18))) (l18 : K.lookup f18 = some ⟨oc18, od18, .func (PySem.W.fnOf "_law_deck" "_law_deck" (defArgs (top 73)) (defBody (top 73)) (defScope (top 73)) .none kV18 dc18 pm18 an18 cd18 ct18), sl18⟩) (c18 : PySem.W.codeIn K cd18 "_law_deck" = true) (k18 : PySem.W.keepIn K (.ref f18) = true)
    {f19 : Addr} {od19 an19 : Option Addr} {sl19 : Array (Option Value)} {oc19 kV19 dc19 pm19 cd19 ct19 : Value} (a19 : PySem.W.nsIn K mainGlobals "_law_draw" = some (some (.ref f19))) (l19 : K.lookup f19 = some ⟨oc19, od19, .func (PySem.W.fnOf "_law_draw" "_law_draw" (defArgs (top 74)) (defBody (top 74)) (defScope (top 74)) .none kV19 dc19 pm19 an19 cd19 ct19), sl19⟩) (c19 : PySem.W.codeIn K cd19 "_law_draw" = true) (k19 : PySem.W.keepIn K (.ref f19) = true)
    {f20 : Addr} {od20 an20 : Option Addr} {sl20 : Array (Option Value)} {oc20 kV20 dc20 pm20 cd20 ct20 : Value} (a20 : PySem.W.nsIn K mainGlobals "_law_weight" = some (some (.ref f20))) (l20 : K.lookup f20 = some ⟨oc20, od20, .func (PySem.W.fnOf "_law_weight" "_law_weight" (defArgs (top 75)) (defBody (top 75)) (defScope (top 75)) .none kV20 dc20 pm20 an20 cd20 ct20), sl20⟩) (c20 : PySem.W.codeIn K cd20 "_law_weight" = true) (k20 : PySem.W.keepIn K (.ref f20) = true)
    {f21 : Addr} {od21 an21 : Option Addr} {sl21 : Array (Option Value)} {oc21 kV21 dc21 pm21 cd21 ct21 : Value} (a21 : PySem.W.nsIn K mainGlobals "_law_tower" = some (some (.ref f21))) (l21 : K.lookup f21 = some ⟨oc21, od21, .func (PySem.W.fnOf "_law_tower" "_law_tower" (defArgs (top 76)) (defBody (top 76)) (defScope (top 76)) .none kV21 dc21 pm21 an21 cd21 ct21), sl21⟩) (c21 : PySem.W.codeIn K cd21 "_law_tower" = true) (k21 : PySem.W.keepIn K (.ref f21) = true)
    {f22 : Addr} {od22 an22 : Option Addr} {sl22 : Array (Option Value)} {oc22 kV22 dc22 pm22 cd22 ct22 : Value} (a22 : PySem.W.nsIn K mainGlobals "_law_edit" = some (some (.ref f22))) (l22 : K.lookup f22 = some ⟨oc22, od22, .func (PySem.W.fnOf "_law_edit" "_law_edit" (defArgs (top 77)) (defBody (top 77)) (defScope (top 77)) .none kV22 dc22 pm22 an22 cd22 ct22), sl22⟩) (c22 : PySem.W.codeIn K cd22 "_law_edit" = true) (k22 : PySem.W.keepIn K (.ref f22) = true)
    {f23 : Addr} {od23 an23 : Option Addr} {sl23 : Array (Option Value)} {oc23 kV23 dc23 pm23 cd23 ct23 : Value} (a23 : PySem.W.nsIn K mainGlobals "_law_do" = some (some (.ref f23))) (l23 : K.lookup f23 = some ⟨oc23, od23, .func (PySem.W.fnOf "_law_do" "_law_do" (defArgs (top 78)) (defBody (top 78)) (defScope (top 78)) .none kV23 dc23 pm23 an23 cd23 ct23), sl23⟩) (c23 : PySem.W.codeIn K cd23 "_law_do" = true) (k23 : PySem.W.keepIn K (.ref f23) = true)
    {f24 : Addr} {od24 an24 : Option Addr} {sl24 : Array (Option Value)} {oc24 kV24 dc24 pm24 cd24 ct24 : Value} (a24 : PySem.W.nsIn K mainGlobals "_law_load" = some (some (.ref f24))) (l24 : K.lookup f24 = some ⟨oc24, od24, .func (PySem.W.fnOf "_law_load" "_law_load" (defArgs (top 79)) (defBody (top 79)) (defScope (top 79)) .none kV24 dc24 pm24 an24 cd24 ct24), sl24⟩) (c24 : PySem.W.codeIn K cd24 "_law_load" = true) (k24 : PySem.W.keepIn K (.ref f24) = true)
    {f25 : Addr} {od25 an25 : Option Addr} {sl25 : Array (Option Value)} {oc25 kV25 dc25 pm25 cd25 ct25 : Value} (a25 : PySem.W.nsIn K mainGlobals "_law_plan_right" = some (some (.ref f25))) (l25 : K.lookup f25 = some ⟨oc25, od25, .func (PySem.W.fnOf "_law_plan_right" "_law_plan_right" (defArgs (top 80)) (defBody (top 80)) (defScope (top 80)) .none kV25 dc25 pm25 an25 cd25 ct25), sl25⟩) (c25 : PySem.W.codeIn K cd25 "_law_plan_right" = true) (k25 : PySem.W.keepIn K (.ref f25) = true)
    {f26 : Addr} {od26 an26 : Option Addr} {sl26 : Array (Option Value)} {oc26 kV26 dc26 pm26 cd26 ct26 : Value} (a26 : PySem.W.nsIn K mainGlobals "_law_edit_right" = some (some (.ref f26))) (l26 : K.lookup f26 = some ⟨oc26, od26, .func (PySem.W.fnOf "_law_edit_right" "_law_edit_right" (defArgs (top 81)) (defBody (top 81)) (defScope (top 81)) .none kV26 dc26 pm26 an26 cd26 ct26), sl26⟩) (c26 : PySem.W.codeIn K cd26 "_law_edit_right" = true) (k26 : PySem.W.keepIn K (.ref f26) = true)
    {f27 : Addr} {od27 an27 : Option Addr} {sl27 : Array (Option Value)} {oc27 kV27 dc27 pm27 cd27 ct27 : Value} (a27 : PySem.W.nsIn K mainGlobals "law" = some (some (.ref f27))) (l27 : K.lookup f27 = some ⟨oc27, od27, .func (PySem.W.fnOf "law" "law" (defArgs (top 82)) (defBody (top 82)) (defScope (top 82)) .none kV27 dc27 pm27 an27 cd27 ct27), sl27⟩) (c27 : PySem.W.codeIn K cd27 "law" = true) (k27 : PySem.W.keepIn K (.ref f27) = true)
    {f28 : Addr} {od28 an28 : Option Addr} {sl28 : Array (Option Value)} {oc28 kV28 dc28 pm28 cd28 ct28 : Value} (l28 : K.lookup f28 = some ⟨oc28, od28, .func (PySem.W.fnOf "__init__" "Load.__init__" (defArgs (memb (top 37) 0)) (defBody (memb (top 37) 0)) (defScope (memb (top 37) 0)) .none kV28 dc28 pm28 an28 cd28 ct28), sl28⟩) (c28 : PySem.W.codeIn K cd28 "Load.__init__" = true) (k28 : PySem.W.keepIn K (.ref f28) = true) (v28 : PySem.W.isFn K (.ref f28) = true) (w28 : PySem.W.fnIn K f28 = true)
    {f29 : Addr} {od29 an29 : Option Addr} {sl29 : Array (Option Value)} {oc29 kV29 dc29 pm29 cd29 ct29 : Value} (l29 : K.lookup f29 = some ⟨oc29, od29, .func (PySem.W.fnOf "__add__" "Load.__add__" (defArgs (memb (top 37) 5)) (defBody (memb (top 37) 5)) (defScope (memb (top 37) 5)) .none kV29 dc29 pm29 an29 cd29 ct29), sl29⟩) (c29 : PySem.W.codeIn K cd29 "Load.__add__" = true) (k29 : PySem.W.keepIn K (.ref f29) = true) (v29 : PySem.W.isFn K (.ref f29) = true) (w29 : PySem.W.fnIn K f29 = true)
    {f30 : Addr} {od30 an30 : Option Addr} {sl30 : Array (Option Value)} {oc30 kV30 dc30 pm30 cd30 ct30 : Value} (l30 : K.lookup f30 = some ⟨oc30, od30, .func (PySem.W.fnOf "__sub__" "Load.__sub__" (defArgs (memb (top 37) 6)) (defBody (memb (top 37) 6)) (defScope (memb (top 37) 6)) .none kV30 dc30 pm30 an30 cd30 ct30), sl30⟩) (c30 : PySem.W.codeIn K cd30 "Load.__sub__" = true) (k30 : PySem.W.keepIn K (.ref f30) = true) (v30 : PySem.W.isFn K (.ref f30) = true) (w30 : PySem.W.fnIn K f30 = true)
    {f31 : Addr} {od31 an31 : Option Addr} {sl31 : Array (Option Value)} {oc31 kV31 dc31 pm31 cd31 ct31 : Value} (l31 : K.lookup f31 = some ⟨oc31, od31, .func (PySem.W.fnOf "__eq__" "Load.__eq__" (defArgs (memb (top 37) 10)) (defBody (memb (top 37) 10)) (defScope (memb (top 37) 10)) .none kV31 dc31 pm31 an31 cd31 ct31), sl31⟩) (c31 : PySem.W.codeIn K cd31 "Load.__eq__" = true) (k31 : PySem.W.keepIn K (.ref f31) = true) (v31 : PySem.W.isFn K (.ref f31) = true) (w31 : PySem.W.fnIn K f31 = true)
    {f32 : Addr} {od32 an32 : Option Addr} {sl32 : Array (Option Value)} {oc32 kV32 dc32 pm32 cd32 ct32 : Value} (l32 : K.lookup f32 = some ⟨oc32, od32, .func (PySem.W.fnOf "__contains__" "Load.__contains__" (defArgs (memb (top 37) 7)) (defBody (memb (top 37) 7)) (defScope (memb (top 37) 7)) .none kV32 dc32 pm32 an32 cd32 ct32), sl32⟩) (c32 : PySem.W.codeIn K cd32 "Load.__contains__" = true) (k32 : PySem.W.keepIn K (.ref f32) = true) (v32 : PySem.W.isFn K (.ref f32) = true) (w32 : PySem.W.fnIn K f32 = true)
    {f33 : Addr} {od33 an33 : Option Addr} {sl33 : Array (Option Value)} {oc33 kV33 dc33 pm33 cd33 ct33 : Value} (l33 : K.lookup f33 = some ⟨oc33, od33, .func (PySem.W.fnOf "__init__" "Basket.__init__" (defArgs (memb (top 38) 0)) (defBody (memb (top 38) 0)) (defScope (memb (top 38) 0)) .none kV33 dc33 pm33 an33 cd33 ct33), sl33⟩) (c33 : PySem.W.codeIn K cd33 "Basket.__init__" = true) (k33 : PySem.W.keepIn K (.ref f33) = true) (v33 : PySem.W.isFn K (.ref f33) = true) (w33 : PySem.W.fnIn K f33 = true)
    {f34 : Addr} {od34 an34 : Option Addr} {sl34 : Array (Option Value)} {oc34 kV34 dc34 pm34 cd34 ct34 : Value} (l34 : K.lookup f34 = some ⟨oc34, od34, .func (PySem.W.fnOf "__call__" "Basket.__call__" (defArgs (memb (top 38) 3)) (defBody (memb (top 38) 3)) (defScope (memb (top 38) 3)) .none kV34 dc34 pm34 an34 cd34 ct34), sl34⟩) (c34 : PySem.W.codeIn K cd34 "Basket.__call__" = true) (k34 : PySem.W.keepIn K (.ref f34) = true) (v34 : PySem.W.isFn K (.ref f34) = true) (w34 : PySem.W.fnIn K f34 = true)
    {f35 : Addr} {od35 an35 : Option Addr} {sl35 : Array (Option Value)} {oc35 kV35 dc35 pm35 cd35 ct35 : Value} (l35 : K.lookup f35 = some ⟨oc35, od35, .func (PySem.W.fnOf "__init__" "Hoist.__init__" (defArgs (memb (top 69) 1)) (defBody (memb (top 69) 1)) (defScope (memb (top 69) 1)) .none kV35 dc35 pm35 an35 cd35 ct35), sl35⟩) (c35 : PySem.W.codeIn K cd35 "Hoist.__init__" = true) (k35 : PySem.W.keepIn K (.ref f35) = true) (v35 : PySem.W.isFn K (.ref f35) = true) (w35 : PySem.W.fnIn K f35 = true)
    {f36 : Addr} {od36 an36 : Option Addr} {sl36 : Array (Option Value)} {oc36 kV36 dc36 pm36 cd36 ct36 : Value} (l36 : K.lookup f36 = some ⟨oc36, od36, .func (PySem.W.fnOf "come" "Hoist.come" (defArgs (memb (top 69) 5)) (defBody (memb (top 69) 5)) (defScope (memb (top 69) 5)) .none kV36 dc36 pm36 an36 cd36 ct36), sl36⟩) (c36 : PySem.W.codeIn K cd36 "Hoist.come" = true) (k36 : PySem.W.keepIn K (.ref f36) = true) (v36 : PySem.W.isFn K (.ref f36) = true) (w36 : PySem.W.fnIn K f36 = true)
    {f37 : Addr} {od37 an37 : Option Addr} {sl37 : Array (Option Value)} {oc37 kV37 dc37 pm37 cd37 ct37 : Value} (l37 : K.lookup f37 = some ⟨oc37, od37, .func (PySem.W.fnOf "leave" "Hoist.leave" (defArgs (memb (top 69) 6)) (defBody (memb (top 69) 6)) (defScope (memb (top 69) 6)) .none kV37 dc37 pm37 an37 cd37 ct37), sl37⟩) (c37 : PySem.W.codeIn K cd37 "Hoist.leave" = true) (k37 : PySem.W.keepIn K (.ref f37) = true) (v37 : PySem.W.isFn K (.ref f37) = true) (w37 : PySem.W.fnIn K f37 = true)
    {f38 : Addr} {od38 an38 : Option Addr} {sl38 : Array (Option Value)} {oc38 kV38 dc38 pm38 cd38 ct38 : Value} (l38 : K.lookup f38 = some ⟨oc38, od38, .func (PySem.W.fnOf "weigh" "Hoist.weigh" (defArgs (memb (top 69) 7)) (defBody (memb (top 69) 7)) (defScope (memb (top 69) 7)) .none kV38 dc38 pm38 an38 cd38 ct38), sl38⟩) (c38 : PySem.W.codeIn K cd38 "Hoist.weigh" = true) (k38 : PySem.W.keepIn K (.ref f38) = true) (v38 : PySem.W.isFn K (.ref f38) = true) (w38 : PySem.W.fnIn K f38 = true)
    {f39 : Addr} {od39 an39 : Option Addr} {sl39 : Array (Option Value)} {oc39 kV39 dc39 pm39 cd39 ct39 : Value} (l39 : K.lookup f39 = some ⟨oc39, od39, .func (PySem.W.fnOf "loosen" "Hoist.loosen" (defArgs (memb (top 69) 8)) (defBody (memb (top 69) 8)) (defScope (memb (top 69) 8)) .none kV39 dc39 pm39 an39 cd39 ct39), sl39⟩) (c39 : PySem.W.codeIn K cd39 "Hoist.loosen" = true) (k39 : PySem.W.keepIn K (.ref f39) = true) (v39 : PySem.W.isFn K (.ref f39) = true) (w39 : PySem.W.fnIn K f39 = true)
    {f40 : Addr} {od40 an40 : Option Addr} {sl40 : Array (Option Value)} {oc40 kV40 dc40 pm40 cd40 ct40 : Value} (l40 : K.lookup f40 = some ⟨oc40, od40, .func (PySem.W.fnOf "__len__" "Hoist.__len__" (defArgs (memb (top 69) 16)) (defBody (memb (top 69) 16)) (defScope (memb (top 69) 16)) .none kV40 dc40 pm40 an40 cd40 ct40), sl40⟩) (c40 : PySem.W.codeIn K cd40 "Hoist.__len__" = true) (k40 : PySem.W.keepIn K (.ref f40) = true) (v40 : PySem.W.isFn K (.ref f40) = true) (w40 : PySem.W.fnIn K f40 = true)
    {f41 : Addr} {od41 an41 : Option Addr} {sl41 : Array (Option Value)} {oc41 kV41 dc41 pm41 cd41 ct41 : Value} (l41 : K.lookup f41 = some ⟨oc41, od41, .func (PySem.W.fnOf "_check_idle" "Hoist._check_idle" (defArgs (memb (top 69) 19)) (defBody (memb (top 69) 19)) (defScope (memb (top 69) 19)) .none kV41 dc41 pm41 an41 cd41 ct41), sl41⟩) (c41 : PySem.W.codeIn K cd41 "Hoist._check_idle" = true) (k41 : PySem.W.keepIn K (.ref f41) = true) (v41 : PySem.W.isFn K (.ref f41) = true) (w41 : PySem.W.fnIn K f41 = true)
    {f42 : Addr} {od42 an42 : Option Addr} {sl42 : Array (Option Value)} {oc42 kV42 dc42 pm42 cd42 ct42 : Value} (l42 : K.lookup f42 = some ⟨oc42, od42, .func (PySem.W.fnOf "_check_edit" "Hoist._check_edit" (defArgs (memb (top 69) 20)) (defBody (memb (top 69) 20)) (defScope (memb (top 69) 20)) .none kV42 dc42 pm42 an42 cd42 ct42), sl42⟩) (c42 : PySem.W.codeIn K cd42 "Hoist._check_edit" = true) (k42 : PySem.W.keepIn K (.ref f42) = true) (v42 : PySem.W.isFn K (.ref f42) = true) (w42 : PySem.W.fnIn K f42 = true)
    {f43 : Addr} {od43 an43 : Option Addr} {sl43 : Array (Option Value)} {oc43 kV43 dc43 pm43 cd43 ct43 : Value} (l43 : K.lookup f43 = some ⟨oc43, od43, .func (PySem.W.fnOf "_check_person" "Hoist._check_person" (defArgs (memb (top 69) 21)) (defBody (memb (top 69) 21)) (defScope (memb (top 69) 21)) .none kV43 dc43 pm43 an43 cd43 ct43), sl43⟩) (c43 : PySem.W.codeIn K cd43 "Hoist._check_person" = true) (k43 : PySem.W.keepIn K (.ref f43) = true) (v43 : PySem.W.isFn K (.ref f43) = true) (w43 : PySem.W.fnIn K f43 = true)
    {f44 : Addr} {od44 an44 : Option Addr} {sl44 : Array (Option Value)} {oc44 kV44 dc44 pm44 cd44 ct44 : Value} (l44 : K.lookup f44 = some ⟨oc44, od44, .func (PySem.W.fnOf "_check_tower" "Hoist._check_tower" (defArgs (memb (top 69) 22)) (defBody (memb (top 69) 22)) (defScope (memb (top 69) 22)) .none kV44 dc44 pm44 an44 cd44 ct44), sl44⟩) (c44 : PySem.W.codeIn K cd44 "Hoist._check_tower" = true) (k44 : PySem.W.keepIn K (.ref f44) = true) (v44 : PySem.W.isFn K (.ref f44) = true) (w44 : PySem.W.fnIn K f44 = true)
    {f45 : Addr} {od45 an45 : Option Addr} {sl45 : Array (Option Value)} {oc45 kV45 dc45 pm45 cd45 ct45 : Value} (l45 : K.lookup f45 = some ⟨oc45, od45, .func (PySem.W.fnOf "_keep" "Hoist._keep" (defArgs (memb (top 69) 23)) (defBody (memb (top 69) 23)) (defScope (memb (top 69) 23)) .none kV45 dc45 pm45 an45 cd45 ct45), sl45⟩) (c45 : PySem.W.codeIn K cd45 "Hoist._keep" = true) (k45 : PySem.W.keepIn K (.ref f45) = true) (v45 : PySem.W.isFn K (.ref f45) = true) (w45 : PySem.W.fnIn K f45 = true)
    {pa46 f46 : Addr} {pr46 : List Value} {od46 an46 : Option Addr} {sl46 : Array (Option Value)} {oc46 kV46 dc46 pm46 cd46 ct46 : Value}
    {f47 kD47 : Addr} {od47 an47 : Option Addr} {sl47 : Array (Option Value)} {oc47 dc47 pm47 cd47 ct47 : Value} (l47 : K.lookup f47 = some ⟨oc47, od47, .func (PySem.W.fnOf "state" "Hoist.state" (defArgs (memb (top 69) 11)) (defBody (memb (top 69) 11)) (defScope (memb (top 69) 11)) .none (.ref kD47) dc47 pm47 an47 cd47 ct47), sl47⟩) (n47 : PySem.W.nsIn K kD47 "version" = some (some .none)) (c47 : PySem.W.codeIn K cd47 "Hoist.state" = true) (k47 : PySem.W.keepIn K (.ref f47) = true) (v47 : PySem.W.isFn K (.ref f47) = true)
    {f48 kD48 : Addr} {od48 an48 : Option Addr} {sl48 : Array (Option Value)} {oc48 dc48 pm48 cd48 ct48 : Value} (l48 : K.lookup f48 = some ⟨oc48, od48, .func (PySem.W.fnOf "certificate" "Hoist.certificate" (defArgs (memb (top 69) 12)) (defBody (memb (top 69) 12)) (defScope (memb (top 69) 12)) .none (.ref kD48) dc48 pm48 an48 cd48 ct48), sl48⟩) (n48 : PySem.W.nsIn K kD48 "version" = some (some .none)) (c48 : PySem.W.codeIn K cd48 "Hoist.certificate" = true) (k48 : PySem.W.keepIn K (.ref f48) = true) (v48 : PySem.W.isFn K (.ref f48) = true)
    {t0 : Tok} (m0 : PySem.W.nsIn K mainGlobals "MAX_EDITS" = some (some (.int 60 t0)))
    {t1 : Tok} (m1 : PySem.W.nsIn K mainGlobals "MAX_EXCESS" = some (some (.int 1000000 t1)))
    {t2 : Tok} (m2 : PySem.W.nsIn K mainGlobals "MAX_LOAD" = some (some (.int 100 t2)))
    {t3 : Tok} (m3 : PySem.W.nsIn K mainGlobals "MAX_PEOPLE" = some (some (.int 24 t3)))
    {t4 : Tok} (m4 : PySem.W.nsIn K mainGlobals "MAX_WEIGHT" = some (some (.int 1000000 t4)))
    {t5 : Tok} (m5 : PySem.W.nsIn K mainGlobals "SMALL" = some (some (.int 8 t5)))
    (z0 : PySem.W.nsIn K mainGlobals "abs" = some none)
    (z1 : PySem.W.nsIn K mainGlobals "all" = some none)
    (z2 : PySem.W.nsIn K mainGlobals "bool" = some none)
    (z3 : PySem.W.nsIn K mainGlobals "enumerate" = some none)
    (z4 : PySem.W.nsIn K mainGlobals "int" = some none)
    (z5 : PySem.W.nsIn K mainGlobals "isinstance" = some none)
    (z6 : PySem.W.nsIn K mainGlobals "len" = some none)
    (z7 : PySem.W.nsIn K mainGlobals "list" = some none)
    (z8 : PySem.W.nsIn K mainGlobals "max" = some none)
    (z9 : PySem.W.nsIn K mainGlobals "min" = some none)
    (z10 : PySem.W.nsIn K mainGlobals "range" = some none)
    (z11 : PySem.W.nsIn K mainGlobals "sorted" = some none)
    (z12 : PySem.W.nsIn K mainGlobals "sum" = some none)
    (z13 : PySem.W.nsIn K mainGlobals "tuple" = some none)
    (z14 : PySem.W.nsIn K mainGlobals "zip" = some none)
    (l_0 : PySem.W.nsIn K mainGlobals "certificate_plans" = some (some (.ref f16)))
    {A_Basket : Addr} (kc_Basket : PySem.W.nsIn K mainGlobals "Basket" = some (some (.ref A_Basket)))
    {A_Hoist : Addr} (kc_Hoist : PySem.W.nsIn K mainGlobals "Hoist" = some (some (.ref A_Hoist)))
    {A_Load : Addr} (kc_Load : PySem.W.nsIn K mainGlobals "Load" = some (some (.ref A_Load)))
    {A_Missing : Addr} (kc_Missing : PySem.W.nsIn K mainGlobals "Missing" = some (some (.ref A_Missing)))
    {nm_Missing q_Missing : Str} {N_Missing F_Missing : Addr} {bs_Missing bm_Missing su_Missing : List Value} {sn_Missing : List Str} {ab_Missing : Bool} {co_Missing : Option Bool} {dd_Missing od_Missing an_Missing : Option Addr} {m0_Missing m1_Missing m2_Missing m3_Missing m5_Missing : Option Value} {oc_Missing kV_Missing dc_Missing pm_Missing cd_Missing ct_Missing : Value} {sl_Missing : Array (Option Value)}
    (xl_Missing : K.lookup A_Missing = some (excClassObj nm_Missing q_Missing A_Missing N_Missing bs_Missing bm_Missing true sn_Missing su_Missing ab_Missing co_Missing dd_Missing m0_Missing m1_Missing m2_Missing m3_Missing m5_Missing "ValueError.__new__")) (xr_Missing : PySem.HandSPX.refsVE bm_Missing = true) (xs_Missing : PySem.W.findIn K (.ref A_Missing) "__setattr__" = some (some (.builtin "object.__setattr__"))) (xb_Missing : PySem.W.subIn K (.ref A_Missing) (.type "BaseException") = some true) (xt_Missing : PySem.W.typeIn K (.ref A_Missing) = some (.type "type")) (xk_Missing : PySem.W.keepIn K (.ref A_Missing) = true) (xn_Missing : PySem.W.findIn K (.ref A_Missing) "weight" = some none)
    (xi_Missing : PySem.W.findIn K (.ref A_Missing) "__init__" = some (some (.ref F_Missing))) (xf_Missing : PySem.W.typeIn K (.ref F_Missing) = some (.type "function")) (xm_Missing : K.lookup F_Missing = some ⟨oc_Missing, od_Missing, .func (PySem.W.fnOf "__init__" "Missing.__init__" (defArgs (memb (top 15) 0)) (defBody (memb (top 15) 0)) (defScope (memb (top 15) 0)) .none kV_Missing dc_Missing pm_Missing an_Missing cd_Missing ct_Missing), sl_Missing⟩) (xo_Missing : PySem.W.codeIn K cd_Missing "Missing.__init__" = true) (xp_Missing : PySem.W.keepIn K (.ref F_Missing) = true)
    (u1_Basket : PySem.W.plainGet K A_Basket Str.empty = true)
    (u2_Basket : PySem.W.hasDictIn K A_Basket = true)
    (u3_Basket : PySem.W.plainOver K A_Basket = true)
    (u4_Basket : PySem.W.findIn K (.ref A_Basket) "__setattr__" = some (some (.builtin "object.__setattr__")))
    (u1_Hoist : PySem.W.plainGet K A_Hoist Str.empty = true)
    (u2_Hoist : PySem.W.hasDictIn K A_Hoist = true)
    (u3_Hoist : PySem.W.plainOver K A_Hoist = true)
    (u4_Hoist : PySem.W.findIn K (.ref A_Hoist) "__setattr__" = some (some (.builtin "object.__setattr__")))
    (u1_Load : PySem.W.plainGet K A_Load Str.empty = true)
    (u2_Load : PySem.W.hasDictIn K A_Load = true)
    (u3_Load : PySem.W.plainOver K A_Load = true)
    (u4_Load : PySem.W.findIn K (.ref A_Load) "__setattr__" = some (some (.builtin "object.__setattr__")))
    {pa_Basket_excess pg_Basket_excess : Addr} {pr_Basket_excess : List Value} {pod_Basket_excess pan_Basket_excess : Option Addr} {psl_Basket_excess : Array (Option Value)} {poc_Basket_excess pkV_Basket_excess pdc_Basket_excess ppm_Basket_excess pcd_Basket_excess pct_Basket_excess : Value}
    (q1_Basket_excess : PySem.W.findIn K (.ref A_Basket) "excess" = some (some (.ref pa_Basket_excess)))
    (q2_Basket_excess : PySem.W.specialIn K (.ref pa_Basket_excess) "__get__" = some (some (.builtin "property.__get__")))
    (q3_Basket_excess : PySem.W.takesIn K (.ref pa_Basket_excess) = some true)
    (q4_Basket_excess : PySem.W.recIn K pa_Basket_excess "property" = some (.ref pg_Basket_excess :: pr_Basket_excess))
    (q5_Basket_excess : K.lookup pg_Basket_excess = some ⟨poc_Basket_excess, pod_Basket_excess, .func (PySem.W.fnOf "excess" "Basket.excess" (defArgs (memb (top 38) 1)) (defBody (memb (top 38) 1)) (defScope (memb (top 38) 1)) .none pkV_Basket_excess pdc_Basket_excess ppm_Basket_excess pan_Basket_excess pcd_Basket_excess pct_Basket_excess), psl_Basket_excess⟩)
    (q6_Basket_excess : PySem.W.codeIn K pcd_Basket_excess "Basket.excess" = true)
    (un_Basket__excess : PySem.W.findIn K (.ref A_Basket) "_excess" = some none)
    {pa_Basket_rides pg_Basket_rides : Addr} {pr_Basket_rides : List Value} {pod_Basket_rides pan_Basket_rides : Option Addr} {psl_Basket_rides : Array (Option Value)} {poc_Basket_rides pkV_Basket_rides pdc_Basket_rides ppm_Basket_rides pcd_Basket_rides pct_Basket_rides : Value}
    (q1_Basket_rides : PySem.W.findIn K (.ref A_Basket) "rides" = some (some (.ref pa_Basket_rides)))
    (q2_Basket_rides : PySem.W.specialIn K (.ref pa_Basket_rides) "__get__" = some (some (.builtin "property.__get__")))
    (q3_Basket_rides : PySem.W.takesIn K (.ref pa_Basket_rides) = some true)
    (q4_Basket_rides : PySem.W.recIn K pa_Basket_rides "property" = some (.ref pg_Basket_rides :: pr_Basket_rides))
    (q5_Basket_rides : K.lookup pg_Basket_rides = some ⟨poc_Basket_rides, pod_Basket_rides, .func (PySem.W.fnOf "rides" "Basket.rides" (defArgs (memb (top 38) 2)) (defBody (memb (top 38) 2)) (defScope (memb (top 38) 2)) .none pkV_Basket_rides pdc_Basket_rides ppm_Basket_rides pan_Basket_rides pcd_Basket_rides pct_Basket_rides), psl_Basket_rides⟩)
    (q6_Basket_rides : PySem.W.codeIn K pcd_Basket_rides "Basket.rides" = true)
    (un_Basket__rides : PySem.W.findIn K (.ref A_Basket) "_rides" = some none)
    {pa_Load_total pg_Load_total : Addr} {pr_Load_total : List Value} {pod_Load_total pan_Load_total : Option Addr} {psl_Load_total : Array (Option Value)} {poc_Load_total pkV_Load_total pdc_Load_total ppm_Load_total pcd_Load_total pct_Load_total : Value}
    (q1_Load_total : PySem.W.findIn K (.ref A_Load) "total" = some (some (.ref pa_Load_total)))
    (q2_Load_total : PySem.W.specialIn K (.ref pa_Load_total) "__get__" = some (some (.builtin "property.__get__")))
    (q3_Load_total : PySem.W.takesIn K (.ref pa_Load_total) = some true)
    (q4_Load_total : PySem.W.recIn K pa_Load_total "property" = some (.ref pg_Load_total :: pr_Load_total))
    (q5_Load_total : K.lookup pg_Load_total = some ⟨poc_Load_total, pod_Load_total, .func (PySem.W.fnOf "total" "Load.total" (defArgs (memb (top 37) 2)) (defBody (memb (top 37) 2)) (defScope (memb (top 37) 2)) .none pkV_Load_total pdc_Load_total ppm_Load_total pan_Load_total pcd_Load_total pct_Load_total), psl_Load_total⟩)
    (q6_Load_total : PySem.W.codeIn K pcd_Load_total "Load.total" = true)
    (un_Load__total : PySem.W.findIn K (.ref A_Load) "_total" = some none)
    {pa_Load_weights pg_Load_weights : Addr} {pr_Load_weights : List Value} {pod_Load_weights pan_Load_weights : Option Addr} {psl_Load_weights : Array (Option Value)} {poc_Load_weights pkV_Load_weights pdc_Load_weights ppm_Load_weights pcd_Load_weights pct_Load_weights : Value}
    (q1_Load_weights : PySem.W.findIn K (.ref A_Load) "weights" = some (some (.ref pa_Load_weights)))
    (q2_Load_weights : PySem.W.specialIn K (.ref pa_Load_weights) "__get__" = some (some (.builtin "property.__get__")))
    (q3_Load_weights : PySem.W.takesIn K (.ref pa_Load_weights) = some true)
    (q4_Load_weights : PySem.W.recIn K pa_Load_weights "property" = some (.ref pg_Load_weights :: pr_Load_weights))
    (q5_Load_weights : K.lookup pg_Load_weights = some ⟨poc_Load_weights, pod_Load_weights, .func (PySem.W.fnOf "weights" "Load.weights" (defArgs (memb (top 37) 1)) (defBody (memb (top 37) 1)) (defScope (memb (top 37) 1)) .none pkV_Load_weights pdc_Load_weights ppm_Load_weights pan_Load_weights pcd_Load_weights pct_Load_weights), psl_Load_weights⟩)
    (q6_Load_weights : PySem.W.codeIn K pcd_Load_weights "Load.weights" = true)
    (un_Load__weights : PySem.W.findIn K (.ref A_Load) "_weights" = some none)
    (u5_Load : PySem.W.findIn K (.ref A_Load) "__class__" = some (some (.builtin "object.__class__")))
    (u6_ : PySem.W.specialIn K (.builtin "object.__class__") "__get__" = some (some (.builtin "getset_descriptor.__get__")))
    (u7_ : PySem.W.takesIn K (.builtin "object.__class__") = some true)
    (u8_Load : PySem.W.mroIn K A_Load (.type "object") = some true)
    (u9_Load : PySem.W.isClsIn K A_Load = true)
    (u10_Load : PySem.W.typeIn K (.ref A_Load) = some (.type "type"))
    (um_Basket : PySem.W.makesIn K A_Basket = true)
    (uk_Basket : PySem.W.keepIn K (.ref A_Basket) = true)
    (um_Hoist : PySem.W.makesIn K A_Hoist = true)
    (uk_Hoist : PySem.W.keepIn K (.ref A_Hoist) = true)
    (um_Load : PySem.W.makesIn K A_Load = true)
    (uk_Load : PySem.W.keepIn K (.ref A_Load) = true)
    (un_Hoist__edits : PySem.W.findIn K (.ref A_Hoist) "_edits" = some none)
    (un_Hoist__towers : PySem.W.findIn K (.ref A_Hoist) "_towers" = some none)
    (un_Hoist__watched : PySem.W.findIn K (.ref A_Hoist) "_watched" = some none)
    (us_Load : PySem.W.selfFirst K A_Load = true)
    (a28_Load : PySem.W.findIn K (.ref A_Load) "__init__" = some (some (.ref f28)))
    (a29_Load : PySem.W.findIn K (.ref A_Load) "__add__" = some (some (.ref f29)))
    (a30_Load : PySem.W.findIn K (.ref A_Load) "__sub__" = some (some (.ref f30)))
    (a31_Load : PySem.W.findIn K (.ref A_Load) "__eq__" = some (some (.ref f31)))
    (a32_Load : PySem.W.findIn K (.ref A_Load) "__contains__" = some (some (.ref f32)))
    (a33_Basket : PySem.W.findIn K (.ref A_Basket) "__init__" = some (some (.ref f33)))
    (a34_Basket : PySem.W.findIn K (.ref A_Basket) "__call__" = some (some (.ref f34)))
    (a35_Hoist : PySem.W.findIn K (.ref A_Hoist) "__init__" = some (some (.ref f35)))
    (a36_Hoist : PySem.W.findIn K (.ref A_Hoist) "come" = some (some (.ref f36)))
    (a37_Hoist : PySem.W.findIn K (.ref A_Hoist) "leave" = some (some (.ref f37)))
    (a38_Hoist : PySem.W.findIn K (.ref A_Hoist) "weigh" = some (some (.ref f38)))
    (a39_Hoist : PySem.W.findIn K (.ref A_Hoist) "loosen" = some (some (.ref f39)))
    (a40_Hoist : PySem.W.findIn K (.ref A_Hoist) "__len__" = some (some (.ref f40)))
    (a41_Hoist : PySem.W.findIn K (.ref A_Hoist) "_check_idle" = some (some (.ref f41)))
    (a42_Hoist : PySem.W.findIn K (.ref A_Hoist) "_check_edit" = some (some (.ref f42)))
    (a43_Hoist : PySem.W.findIn K (.ref A_Hoist) "_check_person" = some (some (.ref f43)))
    (a44_Hoist : PySem.W.findIn K (.ref A_Hoist) "_check_tower" = some (some (.ref f44)))
    (a45_Hoist : PySem.W.findIn K (.ref A_Hoist) "_keep" = some (some (.ref f45)))
    (a46_Hoist : PySem.W.findIn K (.ref A_Hoist) "tower" = some (some (.ref pa46))) (p146 : PySem.W.specialIn K (.ref pa46) "__get__" = some (some (.builtin "property.__get__"))) (p246 : PySem.W.takesIn K (.ref pa46) = some true) (p346 : PySem.W.recIn K pa46 "property" = some (.ref f46 :: pr46)) (l46 : K.lookup f46 = some ⟨oc46, od46, .func (PySem.W.fnOf "tower" "Hoist.tower" (defArgs (memb (top 69) 2)) (defBody (memb (top 69) 2)) (defScope (memb (top 69) 2)) .none kV46 dc46 pm46 an46 cd46 ct46), sl46⟩) (c46 : PySem.W.codeIn K cd46 "Hoist.tower" = true) (k46 : PySem.W.keepIn K (.ref f46) = true)
    (a47_Hoist : PySem.W.findIn K (.ref A_Hoist) "state" = some (some (.ref f47)))
    (a48_Hoist : PySem.W.findIn K (.ref A_Hoist) "certificate" = some (some (.ref f48)))
    : ∃ fd : FuncData, (∀ (s : Shared) (u : Value), BindsTo s fd ⟨[u], []⟩ [("script", u)]) ∧ ∀ base : Heap, K.In base → base.Ns mainGlobals mg → FnG P w K mg base CX0 11 fa fd ["script"] (spU K S_law) := by
  have e := hfa.symm.trans (PySem.W.mg_of KX G a27)
  cases e
  letI I0 : Ers := ⟨fun x => match mg x with | some (.ref a) => a | _ => 0⟩
  have g_Basket := PySem.W.mg_of KX G kc_Basket
  have ad_Basket : Ers.ad "Basket" = A_Basket := by
    show (match mg "Basket" with | some (.ref a) => a | _ => 0) = _
    rw [g_Basket]
  have g_Hoist := PySem.W.mg_of KX G kc_Hoist
  have ad_Hoist : Ers.ad "Hoist" = A_Hoist := by
    show (match mg "Hoist" with | some (.ref a) => a | _ => 0) = _
    rw [g_Hoist]
  have g_Load := PySem.W.mg_of KX G kc_Load
  have ad_Load : Ers.ad "Load" = A_Load := by
    show (match mg "Load" with | some (.ref a) => a | _ => 0) = _
    rw [g_Load]
  have g_Missing := PySem.W.mg_of KX G kc_Missing
  have ad_Missing : Ers.ad "Missing" = A_Missing := by
    show (match mg "Missing" with | some (.ref a) => a | _ => 0) = _
    rw [g_Missing]
  have X_Missing : ∀ base, ErrD P w K mg base 1 "Missing" "weight" := fun base => errD_of ad_Missing ⟨⟨_, _, _, _, _, _, _, _, _, _, _, _, _, _, _, xl_Missing, xr_Missing⟩, xs_Missing, xb_Missing, xt_Missing, xk_Missing⟩ g_Missing xn_Missing xi_Missing xf_Missing xm_Missing xo_Missing xp_Missing sx_Missing rfl (Or.inl rfl) (Or.inl rfl) (by decide) (by decide) (fun _ => rfl) (fun _ _ _ _ _ _ us hl => match us, hl with | [_, _], _ => rfl)
  have ek : ErsK K prsK flsK := ersK_of pk_nil
  have OT : ∀ base, ObjT P w K mg base := fun base => ⟨(by rw [ad_Basket]; exact ⟨u1_Basket, u2_Basket, u3_Basket, u4_Basket⟩), (by rw [ad_Hoist]; exact ⟨u1_Hoist, u2_Hoist, u3_Hoist, u4_Hoist⟩), (by rw [ad_Load]; exact ⟨u1_Load, u2_Load, u3_Load, u4_Load⟩), ⟨pa_Basket_excess, pg_Basket_excess, _, ⟨by rw [ad_Basket]; exact q1_Basket_excess, q2_Basket_excess, q3_Basket_excess, ⟨_, q4_Basket_excess⟩⟩, fn_getter q5_Basket_excess q6_Basket_excess (N := ["self"]) ⟨rfl, rfl, rfl, by decide +kernel, rfl, by decide +kernel, by decide +kernel⟩ rfl rfl (by rw [ad_Basket]; exact ⟨u1_Basket, u2_Basket, u3_Basket, u4_Basket⟩) (by rw [ad_Basket]; exact un_Basket__excess), Binds.all fun us hl => match us, hl with | [_], _ => rfl⟩, ⟨pa_Basket_rides, pg_Basket_rides, _, ⟨by rw [ad_Basket]; exact q1_Basket_rides, q2_Basket_rides, q3_Basket_rides, ⟨_, q4_Basket_rides⟩⟩, fn_getter q5_Basket_rides q6_Basket_rides (N := ["self"]) ⟨rfl, rfl, rfl, by decide +kernel, rfl, by decide +kernel, by decide +kernel⟩ rfl rfl (by rw [ad_Basket]; exact ⟨u1_Basket, u2_Basket, u3_Basket, u4_Basket⟩) (by rw [ad_Basket]; exact un_Basket__rides), Binds.all fun us hl => match us, hl with | [_], _ => rfl⟩, ⟨pa_Load_total, pg_Load_total, _, ⟨by rw [ad_Load]; exact q1_Load_total, q2_Load_total, q3_Load_total, ⟨_, q4_Load_total⟩⟩, fn_getter q5_Load_total q6_Load_total (N := ["self"]) ⟨rfl, rfl, rfl, by decide +kernel, rfl, by decide +kernel, by decide +kernel⟩ rfl rfl (by rw [ad_Load]; exact ⟨u1_Load, u2_Load, u3_Load, u4_Load⟩) (by rw [ad_Load]; exact un_Load__total), Binds.all fun us hl => match us, hl with | [_], _ => rfl⟩, ⟨pa_Load_weights, pg_Load_weights, _, ⟨by rw [ad_Load]; exact q1_Load_weights, q2_Load_weights, q3_Load_weights, ⟨_, q4_Load_weights⟩⟩, fn_getter q5_Load_weights q6_Load_weights (N := ["self"]) ⟨rfl, rfl, rfl, by decide +kernel, rfl, by decide +kernel, by decide +kernel⟩ rfl rfl (by rw [ad_Load]; exact ⟨u1_Load, u2_Load, u3_Load, u4_Load⟩) (by rw [ad_Load]; exact un_Load__weights), Binds.all fun us hl => match us, hl with | [_], _ => rfl⟩, ⟨(by rw [ad_Load]; exact ⟨u1_Load, u2_Load, u3_Load, u4_Load⟩), (by rw [ad_Load]; exact u5_Load), u6_, u7_, (by rw [ad_Load]; exact u8_Load), (by rw [ad_Load]; exact u9_Load), (by rw [ad_Load]; exact u10_Load)⟩, ⟨by rw [ad_Basket]; exact g_Basket, by rw [ad_Basket]; exact um_Basket, by rw [ad_Basket]; exact uk_Basket⟩, ⟨by rw [ad_Hoist]; exact g_Hoist, by rw [ad_Hoist]; exact um_Hoist, by rw [ad_Hoist]; exact uk_Hoist⟩, ⟨by rw [ad_Load]; exact g_Load, by rw [ad_Load]; exact um_Load, by rw [ad_Load]; exact uk_Load⟩, (by rw [ad_Basket]; exact un_Basket__excess), (by rw [ad_Basket]; exact un_Basket__rides), (by rw [ad_Hoist]; exact un_Hoist__edits), (by rw [ad_Hoist]; exact un_Hoist__towers), (by rw [ad_Hoist]; exact un_Hoist__watched), (by rw [ad_Load]; exact un_Load__total), (by rw [ad_Load]; exact un_Load__weights), (by rw [ad_Load]; exact us_Load)⟩
  have T : Txt mg := ⟨⟨_, PySem.W.mg_of KX G m0⟩, ⟨_, PySem.W.mg_of KX G m1⟩, ⟨_, PySem.W.mg_of KX G m2⟩, ⟨_, PySem.W.mg_of KX G m3⟩, ⟨_, PySem.W.mg_of KX G m4⟩, ⟨_, PySem.W.mg_of KX G m5⟩, PySem.W.mg_none_of KX G z0, PySem.W.mg_none_of KX G z1, PySem.W.mg_none_of KX G z2, PySem.W.mg_none_of KX G z3, PySem.W.mg_none_of KX G z4, PySem.W.mg_none_of KX G z5, PySem.W.mg_none_of KX G z6, PySem.W.mg_none_of KX G z7, PySem.W.mg_none_of KX G z8, PySem.W.mg_none_of KX G z9, PySem.W.mg_none_of KX G z10, PySem.W.mg_none_of KX G z11, PySem.W.mg_none_of KX G z12, PySem.W.mg_none_of KX G z13, PySem.W.mg_none_of KX G z14, ((PySem.W.mg_of KX G l_0).trans (PySem.W.mg_of KX G a16).symm), (by rw [ad_Load]; exact g_Load), (by rw [ad_Missing]; exact g_Missing)⟩
  obtain ⟨fd, hb, hF⟩ := law_fd (P := P) (w := w) (I := fun _ => True) h trivial hfa (fun base _ => all_ok (base := base) T ek (X_Missing base) (OT base) (DefAt.mk KX G a0 l0 c0 k0) (DefAt.mk KX G a1 l1 c1 k1) (DefAt.mk KX G a2 l2 c2 k2) (DefAt.mk KX G a3 l3 c3 k3) (DefAt.mk KX G a4 l4 c4 k4) (DefAt.mk KX G a5 l5 c5 k5) (DefAt.mk KX G a6 l6 c6 k6) (DefAt.mk KX G a7 l7 c7 k7) (DefAt.mk KX G a8 l8 c8 k8) (DefAt.mk KX G a9 l9 c9 k9) (DefAt.mk KX G a10 l10 c10 k10) (DefAt.mk KX G a11 l11 c11 k11) (DefAt.mk KX G a12 l12 c12 k12) (DefAt.mk KX G a13 l13 c13 k13) (DefAt.mk KX G a14 l14 c14 k14) (DefAt.mk KX G a15 l15 c15 k15) (DefAt.mk KX G a16 l16 c16 k16) (DefAt.mk KX G a17 l17 c17 k17) (DefAt.mk KX G a18 l18 c18 k18) (DefAt.mk KX G a19 l19 c19 k19) (DefAt.mk KX G a20 l20 c20 k20) (DefAt.mk KX G a21 l21 c21 k21) (DefAt.mk KX G a22 l22 c22 k22) (DefAt.mk KX G a23 l23 c23 k23) (DefAt.mk KX G a24 l24 c24 k24) (DefAt.mk KX G a25 l25 c25 k25) (DefAt.mk KX G a26 l26 c26 k26) (DefAt.mk KX G a27 l27 c27 k27) ⟨_, _, by rw [ad_Load]; exact a28_Load, v28, w28, fun_mk l28 c28 k28⟩ ⟨_, _, by rw [ad_Load]; exact a29_Load, v29, w29, fun_mk l29 c29 k29⟩ ⟨_, _, by rw [ad_Load]; exact a30_Load, v30, w30, fun_mk l30 c30 k30⟩ ⟨_, _, by rw [ad_Load]; exact a31_Load, v31, w31, fun_mk l31 c31 k31⟩ ⟨_, _, by rw [ad_Load]; exact a32_Load, v32, w32, fun_mk l32 c32 k32⟩ ⟨_, _, by rw [ad_Basket]; exact a33_Basket, v33, w33, fun_mk l33 c33 k33⟩ ⟨_, _, by rw [ad_Basket]; exact a34_Basket, v34, w34, fun_mk l34 c34 k34⟩ ⟨_, _, by rw [ad_Hoist]; exact a35_Hoist, v35, w35, fun_mk l35 c35 k35⟩ ⟨_, _, by rw [ad_Hoist]; exact a36_Hoist, v36, w36, fun_mk l36 c36 k36⟩ ⟨_, _, by rw [ad_Hoist]; exact a37_Hoist, v37, w37, fun_mk l37 c37 k37⟩ ⟨_, _, by rw [ad_Hoist]; exact a38_Hoist, v38, w38, fun_mk l38 c38 k38⟩ ⟨_, _, by rw [ad_Hoist]; exact a39_Hoist, v39, w39, fun_mk l39 c39 k39⟩ ⟨_, _, by rw [ad_Hoist]; exact a40_Hoist, v40, w40, fun_mk l40 c40 k40⟩ ⟨_, _, by rw [ad_Hoist]; exact a41_Hoist, v41, w41, fun_mk l41 c41 k41⟩ ⟨_, _, by rw [ad_Hoist]; exact a42_Hoist, v42, w42, fun_mk l42 c42 k42⟩ ⟨_, _, by rw [ad_Hoist]; exact a43_Hoist, v43, w43, fun_mk l43 c43 k43⟩ ⟨_, _, by rw [ad_Hoist]; exact a44_Hoist, v44, w44, fun_mk l44 c44 k44⟩ ⟨_, _, by rw [ad_Hoist]; exact a45_Hoist, v45, w45, fun_mk l45 c45 k45⟩ ⟨_, _, _, ⟨by rw [ad_Hoist]; exact a46_Hoist, p146, p246, ⟨_, p346⟩⟩, fun_mk l46 c46 k46⟩ (methN_of ad_Hoist a47_Hoist v47 l47 n47 c47 k47) (methN_of ad_Hoist a48_Hoist v48 l48 n48 c48 k48)) fun fd oc od osl lk => by
    rw [l27] at lk
    cases lk
    exact fun s u => .of_eq rfl
  exact ⟨fd, hb, fun base _ _ => hF base trivial⟩
end K54
open PySem PySem.W PyProof.Rows
theorem PySem.Challenge.cw_basketrope_k54_whole_hoists_and_values_holds : PySem.Challenge.rw_basketrope_k54_whole_hoists_and_values.Holds :=
  K54.head (fun K => DL.spU K K54.S_law) (fun {P w K h mg fa} => K54.fin) (fun K hp a ns hl ho hS => DL.law_sp hp a ns hl ho hS)

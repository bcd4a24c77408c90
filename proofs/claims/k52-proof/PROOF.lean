import PyProof.Rows.All
import Wide.All
import OpenK.AllK
import Wide.FinOn
import HandS.GenCall
import HandS.GenYield
import PyProof.ForAny
import HandS.GenBody
import HandS.ForMost
import HandS.IsInst
import HandS.Wide
import HandS.Flow
import HandS.EndTab
import HandS.GenList
import HandS.Comp
import HandS.TupMul
import HandS.Conv
import HandS.TupAny
import HandS.Style
import HandS.SortInts
import HandS.Words
import KE.GoesEnum
import HandS.Strs
import HandS.SetFor
import HandS.TupSets
import HandS.Star
import HandS.Zip
import HandS.TryOnly
import HandS.FStr
import HandS.SortKw
import KE.SortKeyHeap
import KE.SortData
import KE.KNestM
import KE.KTupSum
import HandS.NamedTupSort
import HandS.DictTup
import HandS.Deep
import PyProof.Rows.TupDisplay
import HandS.SortRule
import HandS.ListItems
import HandS.SetKeys
import HandS.More
import KE.KUnpackStar
import HandS.ExcInit
import HandS.Exc
import HandS.WordsExc
import KE.KExcIs
import HandS.ExcIs
import HandS.ExcField
import KE.KIndexOf
import PyProof.P3Eq
import HandS.Property
import HandS.HotCalls
import HandS.Defaults
import KE.KCallOwn
import HandS.TryMany
import HandS.ClsMeth
import PyProof.TupleOfSeq
import PySem.Challenge.RW_basketrope_k52_whole_promised_and_plain
set_option Elab.async false
set_option maxRecDepth 100000
set_option maxHeartbeats 4000000
set_option linter.all false
/-! G: a def's promise where no repr is running (the guards are known to be none). -/
namespace DL
open PySem PySem.Spec PyProof.Rows L2

structure FnG (P : Program) (w : World) (K : PySem.W.Frag) (mg : Str → Option Value) (base : Heap) (CX : CXT) (k : Nat) (f : Addr) (fd : FuncData) (ps : List Str) (sp : Sp) : Prop where
  arity : ∀ as hp q e, sp as hp q e → as.length = ps.length
  goes : ∀ (A : Around) (fs : List Env) (s : Shared) (hp : Hp) (ar : Args) (us : List Value) (as : List V) (q : VK) (e : XK),
    Room k A → A.guards = some [] → Env0 P w K mg base A fs s hp → BindsTo s fd ar (ps.zip us) → Vals as us → sp as hp q e →
    codeAny (model P w) A (.call (.ref f) ar) (CR CX fs P w hp s q e) s

theorem FnG.mono {P w K mg base CX j k f fd ps sp} (F : FnG P w K mg base CX j f fd ps sp) (h : j ≤ k) : FnG P w K mg base CX k f fd ps sp :=
  ⟨F.arity, fun A fs s hp ar us as q e hr => F.goes A fs s hp ar us as q e (hr.mono h)⟩

theorem FnG.of {P w K mg base CX k f fd ps sp} (F : FnOk P w K mg base CX k f fd ps sp) : FnG P w K mg base CX k f fd ps sp :=
  ⟨F.len, fun A fs s hp ar us as q e hr _ => F.run A fs s hp ar us as q e hr⟩

theorem FnG.body {CX : CXT} {P : Program} {w : World} {K : PySem.W.Frag} {mg : Str → Option Value} {base : Heap} {k : Nat} {x qual : Str} {st : Stmt} {f : Addr} {fd : FuncData} {N ps : List Str} {sp : Sp}
    (F : Fun K x qual st f fd) (S : FnScope N ps (defScope st)) (ar : ∀ as hp q e, sp as hp q e → as.length = ps.length)
    (b : ∀ (cdv : Value) (A : Around) (fs : List Env) (s : Shared) (hp : Hp) (as : List V) (q : VK) (e : XK),
      Room k (A.deeper (envOfC qual (defScope st) s.heap.objs.size f cdv)) → A.guards = some [] → sp as hp q e →
      ∃ t, PSs (cxOf CX P w K mg base N qual (defScope st) f cdv A fs s hp e) (defBody st) t ∧ t { nx := fun _ hp' => q .non hp', rt := q } (start N as) hp) :
    FnG P w K mg base CX (k + 1) f fd ps sp := by
  obtain ⟨oc, od, kV, doc, pm, an, cdv, ct, osl, rfl, lk, hcd⟩ := F.ex
  refine ⟨ar, fun A fs s hp args us as q e room gd en hb rv hs => ?_⟩
  have la := ar _ _ _ _ hs
  have inn : K.In s.heap := en.mod.kin.keeps fun b o z => (en.bs b o z).1
  have nol : s.heap.NoLimit := en.mod.nolimit.keeps fun b o z => (en.bs b o z).1
  have kinds : ∀ y ∈ ps.zip us, (defScope st).names.lookup y.1 = some .local ∨
      ((defScope st).names.lookup y.1 = some .cell ∧ ((cellsFrom (s.heap.objs.size + 1) (defScope st).names []).lookup y.1).isSome = true) := by
    rintro ⟨n, v⟩ hy
    cases S.par n (List.of_mem_zip hy).1 with
    | inl z => exact .inl z
    | inr z => exact .inr ⟨z, PySem.W.cellsFrom_some _ _ _ (.inl z)⟩
  refine codeAny_call_function room.depth (inn _ _ lk) rfl S.co S.gen rfl
    (PySem.W.codeRec_of inn hcd) (hb _ _ _ _ ?_)
  refine wpAny_newFunctionEnv_cells S.kind kinds fun en1 he t1 x1 => ?_
  subst he
  refine ⟨nol.keeps x1.toInCall.keep, codeAny_func ?_⟩
  obtain ⟨t, ht, hq⟩ := b cdv A fs s hp as q e (room.deeper _) gd hs
  have J : Inv (cxOf CX P w K mg base N qual (defScope st) f cdv A fs s hp e) [] (start N as) hp t1 :=
    inv_start S room.hd en la rv x1
  refine wpAny_mono (ht.run [] t1 (start N as) hp _ J hq) (fun fl s' z => ?_) fun _ _ z => z
  match fl, z with
  | .ret u, ⟨v, σ', hp', J', rv', z'⟩ => exact ⟨v, hp', J'.os, J'.bare, J'.base, J'.hok, rv', z'⟩
  | .next, ⟨σ', hp', J', z'⟩ => exact ⟨.non, hp', J'.os, J'.bare, J'.base, J'.hok, rfl, z'⟩
  | .brk, ⟨_, _, _, z'⟩ => exact z'.elim
  | .cont, ⟨_, _, _, z'⟩ => exact z'.elim

section
variable {X : Cx} {CX : CXT} {k : Nat} {f : Addr} {fd : FuncData} {ps : List Str} {sp : Sp} {dvs : List V} {ds : List Value} {E : XK} {x : Str} {p pos : Pos} {a : Expr} {as : List Expr} {t : TA}
theorem runG {pins σ hp s} {q : VK} {us : List Value} {vs : List V} (F : FnG X.prog X.w X.K X.mg X.base CX k f fd ps sp) (hr : Room k X.A) (gd : X.A.guards = some []) (hb : Binds X.K fd ps ds) (hd : Vals dvs ds)
    (hx : Passes CX X E) (I : Inv X pins σ hp s) (r : Vals vs us) (h : sp (vs ++ dvs) hp q E) :
    wpAny (model X.prog X.w) X.A (PySem.call (.ref f) us) (EP X pins σ q) X.xe s := by
  have rr := r.append hd
  have ll : (us ++ ds).length = ps.length := by rw [← rr.length]; exact F.arity _ _ _ _ h
  refine wpAny_call (codeAny_mono (F.goes X.A X.stack s hp ⟨us, []⟩ _ _ q E hr gd I.env0 (hb s us I.kIn ll) rr h) fun res s' z => ?_)
  match res, z with
  | .error er, z => exact hx pins σ hp s er s' I z
  | .ok (.ret u), z => exact I.after z
theorem pe_callG (F : FnG X.prog X.w X.K X.mg X.base CX k f fd ps sp) (hr : Room k X.A) (gd : X.A.guards = some []) (hg : Gl X x) (hm : X.mg x = some (.ref f)) (hk : PySem.W.keepIn X.K (.ref f) = true)
    (hb : Binds X.K fd ps ds) (hd : Vals dvs ds) (hx : Passes CX X E) (ha : PA X (a :: as) t) (hdb : (x == ("__debug__" : Str)) = false := by decide)
    (e1 : starEach (a :: as) X.env = (false, eval a X.env) :: starEach as X.env := by rfl) (e2 : (backTo pos (starEach as X.env)).any (·.1) = false := by rfl) :
    PE X (.Call (.Name x p) (a :: as) [] pos) (tCall sp dvs E t) := by
  constructor
  intro pins s σ hp q I h
  refine wpAny_Call_Name_kw (ld_glob I hg hm ?_ hdb)
  exact PySem.W.callWith_K (h₀ := X.base) I.ok.mod.kin hk (thn (ha.run pos pins s σ hp _ I h) fun us s1 ⟨vs, hp1, I1, r, z⟩ =>
    ⟨I1.kIn, runG F hr gd hb hd hx I1 r z⟩) e1 e2
end

/-- the law's own call, by a promise that may lean on the guards -/
theorem law_callG {P : Program} {w : World} {K : PySem.W.Frag} {mg mb : Str → Option Value} {CX : CXT} {k : Nat} {fa a : Addr} {fd : FuncData} {x : Str} {sp : Sp} {s1 : Shared} {vs : List Value} {ns : List Int}
    (inn : K.In s1.heap) (gns : s1.heap.Ns mainGlobals mg) (bns : s1.heap.Ns builtinsNs mb) (bb : ∀ x : Str, x ≠ "__name__" → mb x = bootBuiltins x) (nol : s1.heap.NoLimit) (ng : s1.gens = #[])
    (at_a : s1.heap.get? a = some { cls := .type "list", data := .seq vs.toArray }) (ia : IntsAre vs ns) (sz : ns.length ≤ sizeLine) (room : Room k callerA)
    (F : ∀ base : Heap, K.In base → base.Ns mainGlobals mg → FnG P w K mg base CX k fa fd [x] sp) (bnd : ∀ (s : Shared) (u : Value), BindsTo s fd ⟨[u], []⟩ [(x, u)])
    (hs : ∀ hp : Hp, Only hp → SqL K hp a (ns.map V.int) → sp [.ref a] hp (fun v _ => v = .bl true) fun _ _ _ => False)
    (noX : ∀ hp e s', CX [] hp s1 (fun _ _ _ => False) e s' → False) :
    codeAny (model P w) callerA (.call (.ref fa) ⟨[.ref a], []⟩)
      (fun r s' => r = .ok (.ret (.bool true)) ∧ OldK s1.heap s'.heap ∧ s'.os = s1.os ∧ AllBare s'.gens) s1 := by
  have rv := vals_ints ia
  have lv := ia.length
  have main : ∀ hp : Hp, Only hp → SqL K hp a (ns.map V.int) → HOk P w hp s1.heap → (∀ b u, hp b = some u → b = a ∧ K.lookup a = none) →
      codeAny (model P w) callerA (.call (.ref fa) ⟨[.ref a], []⟩)
        (fun r s' => r = .ok (.ret (.bool true)) ∧ OldK s1.heap s'.heap ∧ s'.os = s1.os ∧ AllBare s'.gens) s1 := by
    intro hp only sq ok tr
    have keepNs : ∀ {b : Addr} {m : Str → Option Value}, s1.heap.Ns b m → (hidT s1.heap hp).Ns b m := by
      rintro b m ⟨o, es, ep, e, d, r⟩
      refine ⟨o, es, ep, hidT_get e ?_, d, r⟩
      cases z : hp b with
      | none => rfl
      | some u =>
        obtain ⟨rfl, _⟩ := tr b u z
        rw [at_a] at e
        cases e
        exact nomatch d
    have inb : K.In (hidT s1.heap hp) := by
      intro b o e
      refine hidT_get (inn b o e) ?_
      cases z : hp b with
      | none => rfl
      | some u =>
        obtain ⟨rfl, z2⟩ := tr b u z
        rw [z2] at e
        cases e
    have md : Mod K mg (hidT s1.heap hp) := ⟨inb, keepNs gns, ⟨mb, keepNs bns, bb⟩, nol.elim fun mc h => ⟨mc, keepNs h.1, h.2⟩⟩
    have en : Env0 P w K mg (hidT s1.heap hp) callerA [] s1 hp :=
      { frames := rfl, mod := md, bs := fun b o e => of_hidT e, bsz := Nat.le_of_eq (hidT_size _ _), funs := trivial, frf := (fun b z => absurd (show b ∈ ([] : List Addr) from z) (by simp)), hok := ok, bare := .of_eq ng }
    refine codeAny_mono ((F _ inb (keepNs gns)).goes callerA [] s1 hp ⟨[.ref a], []⟩ [.ref a] [.ref a] _ _ room rfl en (bnd s1 (.ref a)) (.cons rfl .nil) (hs hp only sq)) fun r s' z => ?_
    match r, z with
    | .error e, z => exact (noX hp e s' z).elim
    | .ok (.ret u), ⟨v, hp', os, bare, un, ok', rr, (q : v = .bl true)⟩ =>
      subst q
      obtain rfl : u = Value.bool true := rr
      refine ⟨rfl, OldK.of_keep fun b o e => ?_, os, bare⟩
      rcases only b with z | ⟨ob, xs, z⟩
      · exact un.keep b o e z (fun y => absurd (show b ∈ ([] : List Addr) from y) (by simp)) (by simp)
      · have e1 := (ok b _ z).1
        have e2 := (ok' b _ (un.frzs b ob _ z)).1
        rw [e] at e1
        cases e1
        exact e2
  cases look : K.lookup a with
  | some o =>
    have e := inn a o look
    rw [at_a] at e
    cases e
    refine main (fun _ => none) (fun _ => .inl rfl) (.inr ⟨_, vs.toArray, _, look, rfl, rfl, rfl, ?_, by simpa using rv⟩) (fun b u z => nomatch z) fun b u z => nomatch z
    rw [List.size_toArray, lv]
    exact sz
  | none =>
    let hp : Hp := fun b => if b = a then some (.frz { cls := .type "list", data := .seq vs.toArray } (.lst (ns.map V.int))) else none
    have hpa : hp a = some (.frz { cls := .type "list", data := .seq vs.toArray } (.lst (ns.map V.int))) := if_pos rfl
    have hpn : ∀ b u, hp b = some u → b = a ∧ u = .frz { cls := .type "list", data := .seq vs.toArray } (.lst (ns.map V.int)) := by
      intro b u z
      by_cases h : b = a
      · subst h
        rw [hpa] at z
        cases z
        exact ⟨rfl, rfl⟩
      · have z' : hp b = none := if_neg h
        rw [z'] at z
        cases z
    refine main hp (fun b => ?_) (.inl (.inr ⟨_, hpa⟩)) (fun b u z => ?_) fun b u z => ⟨(hpn b u z).1, look⟩
    · cases z : hp b with
      | none => exact .inl rfl
      | some u =>
        obtain ⟨rfl, rfl⟩ := hpn b u z
        exact .inr ⟨_, _, rfl⟩
    · obtain ⟨rfl, rfl⟩ := hpn b u z
      exact ⟨at_a, by rw [List.length_map]; exact sz, vs, _, rv, at_a⟩

end DL

/-! D: values as plain data over the abstract heap; owned cells apart. -/
namespace DL
open PySem PySem.Spec PyProof.Rows L2

inductive D where
  | non | bl (b : Bool) | int (i : Int) | str (s : Str)
  | lst (xs : List D) | tup (xs : List D) | dic (kvs : List (Key × D)) | obj (C : Addr) (fs : List (Str × D)) | raw (v : V)

/-- an owned cell -/
inductive Cell where
  | lst (xs : List D)
  | dK (kvs : List (Key × D))
  | dT (kvs : List (List Int × D))
  | ins (C dx : Addr) (fs : List (Str × D))
  | tab (q : Str)
  | xd (fs : List (Str × D))
abbrev Om := Addr → Option Cell
abbrev Fp := Addr → Prop
def fre (ω : Om) (h : Fp) : Fp := fun a => ω a = none ∧ h a
def oset (ω : Om) (a : Addr) (c : Cell) : Om := fun b => if b = a then some c else ω b
def oera (ω : Om) (a : Addr) : Om := fun b => if b = a then none else ω b
theorem oset_same {ω a c} : oset ω a c a = some c := if_pos rfl
theorem oset_ne {ω : Om} {a b c} (h : b ≠ a) : oset ω a c b = ω b := if_neg h
theorem oera_same {ω a} : oera ω a a = none := if_pos rfl
theorem oera_ne {ω : Om} {a b} (h : b ≠ a) : oera ω a b = ω b := if_neg h

section
variable (K : PySem.W.Frag)
def noH : Hp := fun _ => none
def SL (f : Fp) (H : Hp) (a : Addr) (vs : List V) : Prop := (f a ∧ Rd H a (.lst vs)) ∨ SqL K noH a vs
def ST (_ : PySem.W.Frag) (f : Fp) (H : Hp) (a : Addr) (vs : List V) : Prop := f a ∧ H a = some (.tup vs)
mutual
inductive Rp (f : Fp) (H : Hp) : D → V → Prop
  | non : Rp f H .non .non
  | bl (b : Bool) : Rp f H (.bl b) (.bl b)
  | int (i : Int) : Rp f H (.int i) (.int i)
  | str (x : Str) : Rp f H (.str x) (.str x)
  | raw (v : V) : Rp f H (.raw v) v
  | lst {a : Addr} {vs : List V} {ds : List D} : SL K f H a vs → RpAll f H ds vs → Rp f H (.lst ds) (.ref a)
  | tup {a : Addr} {vs : List V} {ds : List D} : ST K f H a vs → RpAll f H ds vs → Rp f H (.tup ds) (.ref a)
  | dic {a : Addr} {kvs : List (Key × V)} {kds : List (Key × D)} : f a → H a = some (.dK kvs) → RpKv f H kds kvs → Rp f H (.dic kds) (.ref a)
  | obj {a C dx : Addr} {fvs : List (Str × V)} {fds : List (Str × D)} : f a → H a = some (.ins C dx fvs) → RpFs f H fds fvs → Rp f H (.obj C fds) (.ref a)
inductive RpAll (f : Fp) (H : Hp) : List D → List V → Prop
  | nil : RpAll f H [] []
  | cons {d : D} {v : V} {ds : List D} {vs : List V} : Rp f H d v → RpAll f H ds vs → RpAll f H (d :: ds) (v :: vs)
inductive RpKv (f : Fp) (H : Hp) : List (Key × D) → List (Key × V) → Prop
  | nil : RpKv f H [] []
  | cons {k : Key} {d : D} {v : V} {ds : List (Key × D)} {vs : List (Key × V)} : Rp f H d v → RpKv f H ds vs → RpKv f H ((k, d) :: ds) ((k, v) :: vs)
inductive RpFs (f : Fp) (H : Hp) : List (Str × D) → List (Str × V) → Prop
  | nil : RpFs f H [] []
  | cons {k : Str} {d : D} {v : V} {ds : List (Str × D)} {vs : List (Str × V)} : Rp f H d v → RpFs f H ds vs → RpFs f H ((k, d) :: ds) ((k, v) :: vs)
end
inductive RpT (f : Fp) (H : Hp) : List (List Int × D) → List (List Key × V) → Prop
  | nil : RpT f H [] []
  | cons {k : List Int} {d : D} {v : V} {ds : List (List Int × D)} {vs : List (List Key × V)} : Rp K f H d v → RpT f H ds vs → RpT f H ((k, d) :: ds) ((k.map Sum.inl, v) :: vs)
end

section
variable {K : PySem.W.Frag} {f f' : Fp} {H H' : Hp}
/-- what was free is kept and stays free -/
def Kp (H : Hp) (f : Fp) (H' : Hp) (f' : Fp) : Prop := ∀ b o, f b → H b = some o → H' b = some o ∧ f' b
theorem SL.keep (k : Kp H f H' f') {a : Addr} {vs : List V} (s : SL K f H a vs) : SL K f' H' a vs := by
  rcases s with ⟨fa, r | ⟨o, r⟩⟩ | s
  · exact .inl ⟨(k a _ fa r).2, .inl (k a _ fa r).1⟩
  · exact .inl ⟨(k a _ fa r).2, .inr ⟨o, (k a _ fa r).1⟩⟩
  · exact .inr s
theorem ST.keep (k : Kp H f H' f') {a : Addr} {vs : List V} (s : ST K f H a vs) : ST K f' H' a vs := ⟨(k a _ s.1 s.2).2, (k a _ s.1 s.2).1⟩
theorem SL.sq {a : Addr} {vs : List V} (s : SL K f H a vs) : SqL K H a vs := by
  rcases s with ⟨_, r⟩ | (⟨r | ⟨_, r⟩⟩ | s)
  · exact .inl r
  · cases r
  · cases r
  · exact .inr s
theorem ST.sq {a : Addr} {vs : List V} (s : ST K f H a vs) : SqT K H a vs := .inl (.inl s.2)
mutual
theorem Rp.keep (k : Kp H f H' f') : ∀ {d : D} {v : V}, Rp K f H d v → Rp K f' H' d v
  | _, _, .non => .non
  | _, _, .bl b => .bl b
  | _, _, .int i => .int i
  | _, _, .str x => .str x
  | _, _, .raw v => .raw v
  | _, _, .lst s r => .lst (s.keep k) (r.keep k)
  | _, _, .tup s r => .tup (s.keep k) (r.keep k)
  | _, _, .dic fa e r => .dic (k _ _ fa e).2 (k _ _ fa e).1 (r.keep k)
  | _, _, .obj fa e r => .obj (k _ _ fa e).2 (k _ _ fa e).1 (r.keep k)
theorem RpAll.keep (k : Kp H f H' f') : ∀ {ds : List D} {vs : List V}, RpAll K f H ds vs → RpAll K f' H' ds vs
  | _, _, .nil => .nil
  | _, _, .cons r t => .cons (r.keep k) (t.keep k)
theorem RpKv.keep (k : Kp H f H' f') : ∀ {ds : List (Key × D)} {vs : List (Key × V)}, RpKv K f H ds vs → RpKv K f' H' ds vs
  | _, _, .nil => .nil
  | _, _, .cons r t => .cons (r.keep k) (t.keep k)
theorem RpFs.keep (k : Kp H f H' f') : ∀ {ds : List (Str × D)} {vs : List (Str × V)}, RpFs K f H ds vs → RpFs K f' H' ds vs
  | _, _, .nil => .nil
  | _, _, .cons r t => .cons (r.keep k) (t.keep k)
end
theorem RpT.keep (k : Kp H f H' f') : ∀ {ds : List (List Int × D)} {vs : List (List Key × V)}, RpT K f H ds vs → RpT K f' H' ds vs
  | _, _, .nil => .nil
  | _, _, .cons r t => .cons (r.keep k) (t.keep k)
theorem RpAll.len : ∀ {ds : List D} {vs : List V}, RpAll K f H ds vs → ds.length = vs.length
  | _, _, .nil => rfl
  | _, _, .cons _ t => by rw [List.length_cons, List.length_cons, t.len]
theorem RpAll.get : ∀ {ds : List D} {vs : List V}, RpAll K f H ds vs → ∀ {i : Nat} {d : D}, ds[i]? = some d → ∃ v, vs[i]? = some v ∧ Rp K f H d v
  | _, _, .nil, i, d, e => by simp at e
  | _, _, .cons r _, 0, d, e => by simp at e; subst e; exact ⟨_, rfl, r⟩
  | _, _, .cons _ t, i + 1, d, e => by
    obtain ⟨v, h1, h2⟩ := t.get (i := i) (by simpa using e)
    exact ⟨v, by simpa using h1, h2⟩
theorem RpAll.app : ∀ {ds es : List D} {vs ws : List V}, RpAll K f H ds vs → RpAll K f H es ws → RpAll K f H (ds ++ es) (vs ++ ws)
  | _, _, _, _, .nil, s => s
  | _, _, _, _, .cons r t, s => .cons r (t.app s)
theorem RpAll.take : ∀ {ds : List D} {vs : List V} (n : Nat), RpAll K f H ds vs → RpAll K f H (ds.take n) (vs.take n)
  | _, _, 0, _ => .nil
  | _, _, _ + 1, .nil => .nil
  | _, _, n + 1, .cons r t => .cons r (t.take n)
theorem RpAll.drop : ∀ {ds : List D} {vs : List V} (n : Nat), RpAll K f H ds vs → RpAll K f H (ds.drop n) (vs.drop n)
  | _, _, 0, r => r
  | _, _, _ + 1, .nil => .nil
  | _, _, n + 1, .cons _ t => t.drop n
theorem RpAll.set {x : D} {u : V} (r : Rp K f H x u) : ∀ {ds : List D} {vs : List V} (i : Nat), RpAll K f H ds vs → RpAll K f H (ds.set i x) (vs.set i u)
  | _, _, _, .nil => .nil
  | _, _, 0, .cons _ t => .cons r t
  | _, _, i + 1, .cons q t => .cons q (t.set r i)
theorem RpAll.rep {ds : List D} {vs : List V} (h : RpAll K f H ds vs) : ∀ n, RpAll K f H (List.replicate n ds).flatten (List.replicate n vs).flatten
  | 0 => .nil
  | n + 1 => by
    rw [List.replicate_succ, List.replicate_succ, List.flatten_cons, List.flatten_cons]
    exact h.app (RpAll.rep h n)
theorem RpAll.ints {ns : List Int} : ∀ {vs : List V}, RpAll K f H (ns.map D.int) vs → vs = ns.map V.int := by
  induction ns with
  | nil => intro vs h; cases h; rfl
  | cons n ns ih =>
    intro vs h
    cases h with
    | cons r t => cases r; rw [ih t, List.map_cons]
theorem RpAll.ofInts (ns : List Int) : RpAll K f H (ns.map D.int) (ns.map V.int) := by
  induction ns with
  | nil => exact .nil
  | cons n ns ih => exact .cons (.int n) ih

/-! ### the world -/
def CellOk (K : PySem.W.Frag) (f : Fp) (H : Hp) (a : Addr) : Cell → Prop
  | .lst ds => ∃ vs, H a = some (.lst vs) ∧ RpAll K f H ds vs
  | .dK kds => ∃ kvs, H a = some (.dK kvs) ∧ RpKv K f H kds kvs
  | .dT kds => ∃ kvs, H a = some (.dT kvs) ∧ RpT K f H kds kvs
  | .ins C dx fds => ∃ fvs, H a = some (.ins C dx fvs) ∧ RpFs K f H fds fvs
  | .xd fds => ∃ fvs, H a = some (.xd fvs) ∧ RpFs K f H fds fvs
  | .tab q => ∃ ps, H a = some (.tbl ps) ∧ TriplesOk ps.toList ∧ ∀ (p : Pos) (cv : Value), codeAmong p ps.toList = some cv → ∃ c, cv = .ref c ∧ f c ∧ H c = some (LamX.CodeO c q)
/-- what is not owned is kept -/
def Fr (H : Hp) (ω : Om) (H' : Hp) (ω' : Om) : Prop := ∀ b o, ω b = none → H b = some o → H' b = some o ∧ ω' b = none
/-- what is asked of the state throughout a body: that an error may be let out from here -/
def hid (h : Fp) (D : Addr) : Fp := fun b => h b ∧ b ≠ D
class Amb where
  G : Fp → Hp → Om → Prop
  N : Addr → Prop
  mono : ∀ {h : Fp} {H H' : Hp} {ω ω' : Om}, G h H ω → Fr H ω H' ω' → G h H' ω'
  new : ∀ {h : Fp} {H : Hp} {ω : Om} {p : Addr}, G h H ω → H p = none → h p → N p
  hide : ∀ {h : Fp} {H : Hp} {ω : Om} {p : Addr}, G h H ω → G (hid h p) H ω
  show_ : ∀ {h : Fp} {H : Hp} {ω : Om} {p : Addr}, N p → G (hid h p) H ω → G h H ω
  put : ∀ {h : Fp} {H : Hp} {ω : Om} {p : Addr} {o : HO}, N p → G h H ω → G h (upd H p o) ω
  own : ∀ {h : Fp} {H : Hp} {ω : Om} {p : Addr} {c : Cell}, N p → G h H ω → G h H (oset ω p c)
/-- nothing is asked -/
instance (priority := low) amb0 : Amb := ⟨fun _ _ _ => True, fun _ => True, fun _ _ => trivial, fun _ _ _ => trivial, fun _ => trivial, fun _ _ => trivial, fun _ _ => trivial, fun _ _ => trivial⟩
structure Wd [Amb] (K : PySem.W.Frag) (h : Fp) (H : Hp) (ω : Om) : Prop where
  cell : ∀ a c, ω a = some c → CellOk K (fre ω h) H a c
  open_ : ∀ b, H b = none → h b
  tup_ : ∀ b vs, ω b = none → H b = some (.tup vs) → h b
  amb : Amb.G h H ω
variable {h : Fp} {ω ω' ω'' : Om} {H'' : Hp}
variable [Amb]
omit [Amb] in
theorem Fr.refl : Fr H ω H ω := fun _ _ a b => ⟨b, a⟩
omit [Amb] in
theorem Fr.trans (a : Fr H ω H' ω') (b : Fr H' ω' H'' ω'') : Fr H ω H'' ω'' := fun c o x y => b c o (a c o x y).2 (a c o x y).1
omit [Amb] in
theorem Fr.kp (a : Fr H ω H' ω') : Kp H (fre ω h) H' (fre ω' h) := fun b o x y => ⟨(a b o x.1 y).1, (a b o x.1 y).2, x.2⟩
omit [Amb] in
theorem CellOk.keep {a : Addr} (e : H' a = H a) (k : Kp H f H' f') : ∀ {c : Cell}, CellOk K f H a c → CellOk K f' H' a c
  | .lst _, ⟨vs, x, y⟩ => ⟨vs, e.trans x, y.keep k⟩
  | .dK _, ⟨vs, x, y⟩ => ⟨vs, e.trans x, y.keep k⟩
  | .dT _, ⟨vs, x, y⟩ => ⟨vs, e.trans x, y.keep k⟩
  | .ins _ _ _, ⟨vs, x, y⟩ => ⟨vs, e.trans x, y.keep k⟩
  | .xd _, ⟨vs, x, y⟩ => ⟨vs, e.trans x, y.keep k⟩
  | .tab _, ⟨ps, x, y, z⟩ => ⟨ps, e.trans x, y, fun p cv hc => let ⟨c, e1, e2, e3⟩ := z p cv hc; ⟨c, e1, (k c _ e2 e3).2, (k c _ e2 e3).1⟩⟩
omit [Amb] in
theorem CellOk.has {a : Addr} : ∀ {c : Cell}, CellOk K f H a c → H a ≠ none
  | .lst _, ⟨vs, x, _⟩ => by rw [x]; simp
  | .dK _, ⟨vs, x, _⟩ => by rw [x]; simp
  | .dT _, ⟨vs, x, _⟩ => by rw [x]; simp
  | .ins _ _ _, ⟨vs, x, _⟩ => by rw [x]; simp
  | .xd _, ⟨ps, x, _⟩ => by rw [x]; simp
  | .tab _, ⟨ps, x, _⟩ => by rw [x]; simp
theorem Wd.fresh (w : Wd K h H ω) {p : Addr} (e : H p = none) : ω p = none := by
  cases z : ω p with
  | none => rfl
  | some c => exact absurd e (w.cell p c z).has
theorem Wd.fre_new (w : Wd K h H ω) {p : Addr} (e : H p = none) : fre ω h p := ⟨w.fresh e, w.open_ p e⟩
omit [Amb] in
/-- a new thing that is not owned -/
theorem Fr.new {p : Addr} {o : HO} (e : H p = none) : Fr H ω (upd H p o) ω := fun b u x y => ⟨by rw [upd_ne (ne_of_none y e)]; exact y, x⟩
theorem Wd.new (w : Wd K h H ω) {p : Addr} {o : HO} (e : H p = none) : Wd K h (upd H p o) ω where
  cell a c x := by
    have n : a ≠ p := fun z => by
      have := w.fresh e
      rw [← z, x] at this
      cases this
    exact (w.cell a c x).keep (upd_ne n) (Fr.new e).kp
  amb := Amb.mono w.amb (Fr.new e)
  open_ b x := by
    by_cases hb : b = p
    · subst hb; rw [upd_same] at x; cases x
    · rw [upd_ne hb] at x; exact w.open_ b x
  tup_ b vs n x := by
    by_cases hb : b = p
    · subst hb; exact w.open_ b e
    · rw [upd_ne hb] at x; exact w.tup_ b vs n x
omit [Amb] in
/-- a new owned cell -/
theorem Fr.own {p : Addr} {o : HO} {c : Cell} (e : H p = none) : Fr H ω (upd H p o) (oset ω p c) := fun b u x y =>
  have n := ne_of_none y e
  ⟨by rw [upd_ne n]; exact y, by rw [oset_ne n]; exact x⟩
theorem Wd.own (w : Wd K h H ω) {p : Addr} {o : HO} {c : Cell} (e : H p = none) (ok : ∀ H' f', Kp H (fre ω h) H' f' → H' p = some o → CellOk K f' H' p c) : Wd K h (upd H p o) (oset ω p c) where
  cell a d x := by
    by_cases n : a = p
    · subst n
      rw [oset_same] at x
      cases x
      exact ok _ _ (Fr.own e).kp upd_same
    · rw [oset_ne n] at x
      exact (w.cell a d x).keep (upd_ne n) (Fr.own e).kp
  amb := Amb.mono w.amb (Fr.own e)
  open_ b x := by
    by_cases hb : b = p
    · subst hb; rw [upd_same] at x; cases x
    · rw [upd_ne hb] at x; exact w.open_ b x
  tup_ b vs n x := by
    by_cases hb : b = p
    · subst hb; rw [oset_same] at n; cases n
    · rw [oset_ne hb] at n; rw [upd_ne hb] at x; exact w.tup_ b vs n x
omit [Amb] in
/-- an owned cell is written -/
theorem Fr.put {p : Addr} {o : HO} {c c0 : Cell} (e : ω p = some c0) : Fr H ω (upd H p o) (oset ω p c) := fun b u x y =>
  have n : b ≠ p := fun z => by rw [z, e] at x; cases x
  ⟨by rw [upd_ne n]; exact y, by rw [oset_ne n]; exact x⟩
theorem Wd.put (w : Wd K h H ω) {p : Addr} {o : HO} {c c0 : Cell} (e : ω p = some c0) (ok : ∀ H' f', Kp H (fre ω h) H' f' → H' p = some o → CellOk K f' H' p c) : Wd K h (upd H p o) (oset ω p c) where
  cell a d x := by
    by_cases n : a = p
    · subst n
      rw [oset_same] at x
      cases x
      exact ok _ _ (Fr.put e).kp upd_same
    · rw [oset_ne n] at x
      exact (w.cell a d x).keep (upd_ne n) (Fr.put e).kp
  amb := Amb.mono w.amb (Fr.put e)
  open_ b x := by
    by_cases hb : b = p
    · subst hb; rw [upd_same] at x; cases x
    · rw [upd_ne hb] at x; exact w.open_ b x
  tup_ b vs n x := by
    by_cases hb : b = p
    · subst hb; rw [oset_same] at n; cases n
    · rw [oset_ne hb] at n; rw [upd_ne hb] at x; exact w.tup_ b vs n x
theorem Rp.new_lst (w : Wd K h H ω) {p : Addr} {ds : List D} {vs : List V} (e : H p = none) (r : RpAll K (fre ω h) H ds vs) : Rp K (fre ω h) (upd H p (.lst vs)) (.lst ds) (.ref p) :=
  .lst (.inl ⟨w.fre_new e, .inl upd_same⟩) (r.keep (Fr.new e).kp)
theorem Rp.new_tup (w : Wd K h H ω) {p : Addr} {ds : List D} {vs : List V} (e : H p = none) (r : RpAll K (fre ω h) H ds vs) : Rp K (fre ω h) (upd H p (.tup vs)) (.tup ds) (.ref p) :=
  .tup ⟨w.fre_new e, upd_same⟩ (r.keep (Fr.new e).kp)

theorem Wd.drop (w : Wd K h H ω) : @Wd amb0 K h H ω := @Wd.mk amb0 _ _ _ _ w.cell w.open_ w.tup_ trivial
theorem Wd.lift (w : @Wd amb0 K h H ω) (g : Amb.G h H ω) : Wd K h H ω := ⟨@Wd.cell amb0 _ _ _ _ w, @Wd.open_ amb0 _ _ _ _ w, @Wd.tup_ amb0 _ _ _ _ w, g⟩
/-! ### slots -/
abbrev Rho := List (Option D)
structure Sl (K : PySem.W.Frag) (f : Fp) (H : Hp) (σ : L2.St) (ρ : Rho) : Prop where
  len : ρ.length = σ.length
  at_ : ∀ (i : Nat) (d : D), ρ[i]? = some (some d) → ∃ v, σ[i]? = some (some v) ∧ Rp K f H d v
theorem Sl.keep {σ ρ} (s : Sl K f H σ ρ) (k : Kp H f H' f') : Sl K f' H' σ ρ := ⟨s.len, fun i d e => let ⟨v, a, b⟩ := s.at_ i d e; ⟨v, a, b.keep k⟩⟩
theorem Sl.set {σ ρ} {d : D} {v : V} (s : Sl K f H σ ρ) (r : Rp K f H d v) (i : Nat) : Sl K f H (σ.set i (some v)) (ρ.set i (some d)) := by
  refine ⟨by rw [List.length_set, List.length_set, s.len], fun j e x => ?_⟩
  by_cases n : i = j
  · subst n
    by_cases l : i < ρ.length
    · rw [List.getElem?_set_self l] at x
      cases x
      exact ⟨v, List.getElem?_set_self (by rw [← s.len]; exact l), r⟩
    · rw [List.getElem?_eq_none (by rw [List.length_set]; omega)] at x
      cases x
  · rw [List.getElem?_set_ne n] at x ⊢
    exact s.at_ j e x
theorem Sl.forget {σ ρ} (s : Sl K f H σ ρ) (i : Nat) : Sl K f H (σ.set i none) (ρ.set i none) := by
  refine ⟨by rw [List.length_set, List.length_set, s.len], fun j e x => ?_⟩
  by_cases n : i = j
  · subst n
    by_cases l : i < ρ.length
    · rw [List.getElem?_set_self l] at x
      cases x
    · rw [List.getElem?_eq_none (by rw [List.length_set]; omega)] at x
      cases x
  · rw [List.getElem?_set_ne n] at x ⊢
    exact s.at_ j e x
def wipeD (ρ : Rho) : List Nat → Rho
  | [] => ρ
  | v :: vs => (wipeD ρ vs).set v none
theorem Sl.wipe {σ ρ} (s : Sl K f H σ ρ) : ∀ vs, Sl K f H (wipe σ vs) (wipeD ρ vs)
  | [] => s
  | _ :: vs => (s.wipe vs).forget _
end
end DL

/-! DC: judgements over plain data, the rules of expressions and statements. -/
namespace DL
open PySem PySem.Spec L2

abbrev DQ := D → Om → Prop
abbrev TD := Rho → Om → DQ → Prop
section
variable (K : PySem.W.Frag)
def Cnt [Amb] (h : Fp) (H : Hp) (ω : Om) (R : DQ) (Q : VK) : Prop := ∀ d ω' v H', R d ω' → Fr H ω H' ω' → Wd K h H' ω' → Rp K (fre ω' h) H' d v → Q v H'
def up [Amb] (T : TD) : TE := fun σ H Q => ∃ h ρ ω R, Sl K (fre ω h) H σ ρ ∧ Wd K h H ω ∧ T ρ ω R ∧ Cnt K h H ω R Q
abbrev TTD := Rho → Om → (Bool → Om → Prop) → Prop
def upT [Amb] (T : TTD) : TT := fun σ H Q => ∃ h ρ ω R, Sl K (fre ω h) H σ ρ ∧ Wd K h H ω ∧ T ρ ω R ∧ ∀ b ω' H', R b ω' → Fr H ω H' ω' → Wd K h H' ω' → Q b H'
abbrev TAD := Rho → Om → (List D → Om → Prop) → Prop
def upA [Amb] (T : TAD) : TA := fun σ H Q => ∃ h ρ ω R, Sl K (fre ω h) H σ ρ ∧ Wd K h H ω ∧ T ρ ω R ∧ ∀ ds ω' vs H', R ds ω' → Fr H ω H' ω' → Wd K h H' ω' → RpAll K (fre ω' h) H' ds vs → Q vs H'
structure DEnds where
  nx : Rho → Om → Prop
  rt : DQ
  bk : Rho → Om → Prop := fun _ _ => False
  ct : Rho → Om → Prop := fun _ _ => False
abbrev TSD := DEnds → Rho → Om → Prop
def CntS [Amb] (h : Fp) (H : Hp) (ω : Om) (R : Rho → Om → Prop) (Q : L2.St → Hp → Prop) : Prop := ∀ ρ' ω' σ' H', R ρ' ω' → Fr H ω H' ω' → Wd K h H' ω' → Sl K (fre ω' h) H' σ' ρ' → Q σ' H'
def upS [Amb] (T : TSD) : TS := fun E σ H => ∃ h ρ ω e, Sl K (fre ω h) H σ ρ ∧ Wd K h H ω ∧ T e ρ ω ∧ CntS K h H ω e.nx E.nx ∧ Cnt K h H ω e.rt E.rt ∧ CntS K h H ω e.bk E.bk ∧ CntS K h H ω e.ct E.ct
abbrev TGD := D → Rho → Om → (Rho → Om → Prop) → Prop
def upG [Amb] (T : TGD) : TG := fun v σ H Q => ∃ h ρ ω d R, Sl K (fre ω h) H σ ρ ∧ Wd K h H ω ∧ Rp K (fre ω h) H d v ∧ T d ρ ω R ∧ CntS K h H ω R Q
end
abbrev DE [Amb] (X : Cx) (e : Expr) (T : TD) : Prop := PE X e (up X.K T)
abbrev DT [Amb] (X : Cx) (e : Expr) (T : TTD) : Prop := PT X e (upT X.K T)
abbrev DA [Amb] (X : Cx) (es : List Expr) (T : TAD) : Prop := PA X es (upA X.K T)
abbrev DS [Amb] (X : Cx) (s : Stmt) (T : TSD) : Prop := PS X s (upS X.K T)
abbrev DSs [Amb] (X : Cx) (s : List Stmt) (T : TSD) : Prop := PSs X s (upS X.K T)
abbrev DG [Amb] (X : Cx) (e : Expr) (T : TGD) : Prop := PG X e (upG X.K T)

theorem PE.weak {X : Cx} {e : Expr} {t u : TE} (p : PE X e t) (w : ∀ σ H Q, u σ H Q → t σ H Q) : PE X e u := ⟨fun pins s σ H Q I q => p.run pins s σ H Q I (w σ H Q q)⟩
theorem PT.weak {X : Cx} {e : Expr} {t u : TT} (p : PT X e t) (w : ∀ σ H Q, u σ H Q → t σ H Q) : PT X e u := ⟨fun pins s σ H Q I q => p.run pins s σ H Q I (w σ H Q q)⟩
theorem PA.weak {X : Cx} {e : List Expr} {t u : TA} (p : PA X e t) (w : ∀ σ H Q, u σ H Q → t σ H Q) : PA X e u := ⟨fun pos pins s σ H Q I q => p.run pos pins s σ H Q I (w σ H Q q)⟩
theorem PS.weak {X : Cx} {e : Stmt} {t u : TS} (p : PS X e t) (w : ∀ E σ H, u E σ H → t E σ H) : PS X e u := ⟨fun pins s σ H Q I q => p.run pins s σ H Q I (w Q σ H q)⟩
theorem PSs.weak {X : Cx} {e : List Stmt} {t u : TS} (p : PSs X e t) (w : ∀ E σ H, u E σ H → t E σ H) : PSs X e u := ⟨fun pins s σ H Q I q => p.run pins s σ H Q I (w Q σ H q)⟩

section
variable {K : PySem.W.Frag} {X : Cx} {h : Fp} {H H' : Hp} {ω ω' : Om} {a b c : Expr} {pos : Pos} {Ta Tb Tc : TD}
theorem Cnt.go [Amb] {R : DQ} {Q : VK} (k : Cnt K h H ω R Q) (f : Fr H ω H' ω') : Cnt K h H' ω' R Q := fun d w2 v H2 r f2 => k d w2 v H2 r (f.trans f2)
theorem Cnt.drop [Amb] {R : DQ} {Q : VK} (k : Cnt K h H ω R Q) (w : Wd K h H ω) : @Cnt K amb0 h H ω R Q := fun d w2 v H2 r f2 w0 rp => k d w2 v H2 r f2 (Wd.lift w0 (Amb.mono w.amb f2)) rp
theorem CntS.go [Amb] {R : Rho → Om → Prop} {Q : L2.St → Hp → Prop} (k : CntS K h H ω R Q) (f : Fr H ω H' ω') : CntS K h H' ω' R Q := fun d w2 v H2 r f2 => k d w2 v H2 r (f.trans f2)
theorem Cnt.self [Amb] {R : DQ} {Q : VK} (k : Cnt K h H ω R Q) (w : Wd K h H ω) {d v} (q : R d ω) (r : Rp K (fre ω h) H d v) : Q v H := k d ω v H q Fr.refl w r
theorem Cnt.nlst [Amb] {R : DQ} {Q : VK} (k : Cnt K h H ω R Q) (w : Wd K h H ω) {ds vs} (q : R (.lst ds) ω) (r : RpAll K (fre ω h) H ds vs) {p} (e : H p = none) : Q (.ref p) (upd H p (.lst vs)) :=
  k _ ω _ _ q (Fr.new e) (w.new e) (Rp.new_lst w e r)
theorem Cnt.ntup [Amb] {R : DQ} {Q : VK} (k : Cnt K h H ω R Q) (w : Wd K h H ω) {ds vs} (q : R (.tup ds) ω) (r : RpAll K (fre ω h) H ds vs) {p} (e : H p = none) : Q (.ref p) (upd H p (.tup vs)) :=
  k _ ω _ _ q (Fr.new e) (w.new e) (Rp.new_tup w e r)

/-! ### names, constants -/
def dVar (i : Nat) : TD := fun ρ ω Q => ∃ d, ρ[i]? = some (some d) ∧ Q d ω
def dC (d : D) : TD := fun _ ω Q => Q d ω
theorem de_var [Amb] {i : Nat} {x : Str} (hN : X.N[i]? = some x) (hv : Vis X.env.scope x) (hd : (x == ("__debug__" : Str)) = false := by decide) (hcd : (x == ("__classdict__" : Str)) = false := by decide) : DE X (.Name x pos) (dVar i) :=
  PE.weak (pe_var hN hv hd hcd) fun σ H Q ⟨h, ρ, ω, R, sl, w, ⟨d, e, q⟩, k⟩ => let ⟨v, e', r⟩ := sl.at_ i d e; ⟨v, e', k.self w q r⟩
theorem de_int [Amb] {i j} : DE X (.Constant (.int i) j pos) (dC (.int i)) := PE.weak pe_int fun _ _ _ ⟨_, _, _, _, _, w, q, k⟩ => k.self w q (.int i)
theorem de_bl [Amb] {b j} : DE X (.Constant (.bool b) j pos) (dC (.bl b)) := PE.weak pe_bl fun _ _ _ ⟨_, _, _, _, _, w, q, k⟩ => k.self w q (.bl b)
theorem de_non [Amb] {j} : DE X (.Constant .none j pos) (dC .non) := PE.weak pe_non fun _ _ _ ⟨_, _, _, _, _, w, q, k⟩ => k.self w q .non
theorem de_str [Amb] {x j} : DE X (.Constant (.str x) j pos) (dC (.str x)) := PE.weak pe_str fun _ _ _ ⟨_, _, _, _, _, w, q, k⟩ => k.self w q (.str x)
theorem de_globI [Amb] {x : Str} {i : Int} {u : Value} (hg : Gl X x) (hm : X.mg x = some u) (r : RelV (.int i) u) (hd : (x == ("__debug__" : Str)) = false := by decide) : DE X (.Name x pos) (dC (.int i)) :=
  PE.weak (pe_glob hg hm r hd) fun _ _ _ ⟨_, _, _, _, _, w, q, k⟩ => k.self w q (.int i)
theorem de_bltn [Amb] {x : Str} {v : V} {u : Value} (hg : Gl X x) (hm : X.mg x = none) (hv : bootBuiltins x = some u) (r : RelV v u) (hn : x ≠ "__name__" := by decide) (hd : (x == ("__debug__" : Str)) = false := by decide) : DE X (.Name x pos) (dC (.raw v)) :=
  PE.weak (pe_bltn hg hm hv r hn hd) fun _ _ _ ⟨_, _, _, _, _, w, q, k⟩ => k.self w q (.raw v)

/-! ### operators -/
abbrev DO2 := D → D → Om → DQ → Prop
def OpD [Amb] (K : PySem.W.Frag) (o : DO2) (r : R2) : Prop := ∀ h x y ω R vx vy H Q, o x y ω R → Wd K h H ω → Rp K (fre ω h) H x vx → Rp K (fre ω h) H y vy → Cnt K h H ω R Q → r vx vy H Q
def dBin (o : DO2) (Ta Tb : TD) : TD := fun ρ ω Q => Ta ρ ω fun x ω1 => Tb ρ ω1 fun y ω2 => o x y ω2 Q
theorem up_bin [Amb] {o : DO2} {r : R2} (ok : OpD K o r) {σ H Q} (u : up K (dBin o Ta Tb) σ H Q) : tOp r (up K Ta) (up K Tb) σ H Q := by
  obtain ⟨h, ρ, ω, R, sl, w, t, k⟩ := u
  refine ⟨h, ρ, ω, _, sl, w, t, fun x ω1 vx H1 t1 f1 w1 rx => ?_⟩
  refine ⟨h, ρ, ω1, _, sl.keep f1.kp, w1, t1, fun y ω2 vy H2 t2 f2 w2 ry => ?_⟩
  exact ok h x y ω2 R vx vy H2 Q t2 w2 (rx.keep f2.kp) ry (k.go (f1.trans f2))
theorem de_op [Amb] {op} {o : DO2} {r : R2} (ho : OpR X (binaryOp op) r) (ok : OpD X.K o r) (ha : DE X a Ta) (hb : DE X b Tb) : DE X (.BinOp a op b pos) (dBin o Ta Tb) :=
  PE.weak (pe_op ho ha hb) fun _ _ _ => up_bin ok
theorem de_cmp [Amb] {op} {o : DO2} {r : R2} (ho : OpR X (compareOp op) r) (ok : OpD X.K o r) (ha : DE X a Ta) (hb : DE X b Tb) (hm : behindInMarks op b = false := by rfl) : DE X (.Compare a [op] [b] pos) (dBin o Ta Tb) :=
  PE.weak (pe_cmpR ho ha hb hm) fun _ _ _ => up_bin ok
def dChain (o o' : DO2) (Ta Tb Tc : TD) : TD := fun ρ ω Q => Ta ρ ω fun x ω1 => Tb ρ ω1 fun y ω2 => o x y ω2 fun z ω3 => ∃ k, z = .bl k ∧ if k = true then Tc ρ ω3 fun u ω4 => o' y u ω4 Q else Q (.bl false) ω3
theorem de_chain [Amb] {op op'} {o o' : DO2} {r r' : R2} (ho : OpR X (compareOp op) r) (ok : OpD X.K o r) (ho' : OpR X (compareOp op') r') (ok' : OpD X.K o' r') (ha : DE X a Ta) (hb : DE X b Tb) (hc : DE X c Tc)
    (hm : lastMarks [op, op'] [b, c] = false := by with_unfolding_all rfl) : DE X (.Compare a [op, op'] [b, c] pos) (dChain o o' Ta Tb Tc) := by
  refine PE.weak (pe_chain ho ho' ha hb hc hm) fun σ H Q ⟨h, ρ, ω, R, sl, w, t, k⟩ => ?_
  refine ⟨h, ρ, ω, _, sl, w, t, fun x ω1 vx H1 t1 f1 w1 rx => ?_⟩
  refine ⟨h, ρ, ω1, _, sl.keep f1.kp, w1, t1, fun y ω2 vy H2 t2 f2 w2 ry => ?_⟩
  refine ok h x y ω2 _ vx vy H2 _ t2 w2 (rx.keep f2.kp) ry fun z ω3 vz H3 t3 f3 w3 rz => ?_
  obtain ⟨kk, rfl, t3⟩ := t3
  cases rz
  refine ⟨kk, rfl, ?_⟩
  cases kk with
  | false => exact k _ _ _ _ t3 (f1.trans (f2.trans f3)) w3 (.bl false)
  | true =>
    refine ⟨h, ρ, ω3, _, sl.keep (f1.trans (f2.trans f3)).kp, w3, t3, fun u ω4 vu H4 t4 f4 w4 ru => ?_⟩
    exact ok' h y u ω4 R vy vu H4 Q t4 w4 (ry.keep (f3.trans f4).kp) ru (k.go (f1.trans (f2.trans (f3.trans f4))))
abbrev DO1 := D → Om → DQ → Prop
def UnD [Amb] (K : PySem.W.Frag) (o : DO1) (r : V → Hp → VK → Prop) : Prop := ∀ h x ω R vx H Q, o x ω R → Wd K h H ω → Rp K (fre ω h) H x vx → Cnt K h H ω R Q → r vx H Q
def dUn (o : DO1) (Ta : TD) : TD := fun ρ ω Q => Ta ρ ω fun x ω1 => o x ω1 Q
theorem de_un [Amb] {op} {o : DO1} {r} (ho : UnR X (unaryOp op) r) (ok : UnD X.K o r) (ha : DE X a Ta) : DE X (.UnaryOp op a pos) (dUn o Ta) :=
  PE.weak (pe_un ho ha) fun _ _ _ ⟨h, ρ, ω, R, sl, w, t, k⟩ => ⟨h, ρ, ω, _, sl, w, t, fun x ω1 vx H1 t1 f1 w1 rx => ok h x ω1 R vx H1 _ t1 w1 rx (k.go f1)⟩

/-! ### arguments, displays, calls of built-ins -/
def dNil : TAD := fun _ ω Q => Q [] ω
def dCons (Ta : TD) (T : TAD) : TAD := fun ρ ω Q => Ta ρ ω fun x ω1 => T ρ ω1 fun xs ω2 => Q (x :: xs) ω2
theorem da_nil [Amb] : DA X [] dNil := PA.weak pa_nil fun _ _ _ ⟨_, _, _, _, _, w, q, k⟩ => k [] _ [] _ q Fr.refl w .nil
theorem da_cons [Amb] {es : List Expr} {T : TAD} (ha : DE X a Ta) (hr : DA X es T) (he : starEach (a :: es) X.env = (false, eval a X.env) :: starEach es X.env := by rfl) : DA X (a :: es) (dCons Ta T) := by
  refine PA.weak (pa_cons ha hr he) fun σ H Q ⟨h, ρ, ω, R, sl, w, t, k⟩ => ?_
  refine ⟨h, ρ, ω, _, sl, w, t, fun x ω1 vx H1 t1 f1 w1 rx => ?_⟩
  exact ⟨h, ρ, ω1, _, sl.keep f1.kp, w1, t1, fun xs ω2 vs H2 t2 f2 w2 rs => k _ ω2 _ _ t2 (f1.trans f2) w2 (.cons (rx.keep f2.kp) rs)⟩
def dLst (T : TAD) : TD := fun ρ ω Q => T ρ ω fun xs ω1 => xs.length ≤ sizeLine ∧ Q (.lst xs) ω1
def dTup (T : TAD) : TD := fun ρ ω Q => T ρ ω fun xs ω1 => xs.length ≤ sizeLine ∧ Q (.tup xs) ω1
def dLstO (T : TAD) : TD := fun ρ ω Q => T ρ ω fun xs ω1 => xs.length ≤ sizeLine ∧ ∀ p, ω1 p = none → Q (.raw (.ref p)) (oset ω1 p (.lst xs))
variable {es : List Expr} {T : TAD}
theorem de_lst [Amb] (hr : DA X es T) : DE X (.List es pos) (dLst T) :=
  PE.weak (pe_lst hr) fun _ _ _ ⟨h, ρ, ω, _, sl, w, t, k⟩ => ⟨h, ρ, ω, _, sl, w, t, fun _ _ _ _ t1 f1 w1 rs => ⟨by rw [← rs.len]; exact t1.1, fun _ e => (k.go f1).nlst w1 t1.2 rs e⟩⟩
theorem de_tup [Amb] {x1} (hr : DA X es T) : DE X (.Tuple es x1 pos) (dTup T) :=
  PE.weak (pe_tup hr) fun _ _ _ ⟨h, ρ, ω, _, sl, w, t, k⟩ => ⟨h, ρ, ω, _, sl, w, t, fun _ _ _ _ t1 f1 w1 rs => ⟨by rw [← rs.len]; exact t1.1, fun _ e => (k.go f1).ntup w1 t1.2 rs e⟩⟩
theorem de_lstO [Amb] (hr : DA X es T) : DE X (.List es pos) (dLstO T) :=
  PE.weak (pe_lst hr) fun _ _ _ ⟨h, ρ, ω, _, sl, w, t, k⟩ => ⟨h, ρ, ω, _, sl, w, t, fun _ _ _ _ t1 f1 w1 rs => ⟨by rw [← rs.len]; exact t1.1, fun p e =>
    (k.go f1) _ _ _ _ (t1.2 p (w1.fresh e)) (Fr.own e) (w1.own e fun H' f' kp hp => ⟨_, hp, rs.keep kp⟩) (.raw _)⟩⟩
abbrev DOn := List D → Om → DQ → Prop
def CallD [Amb] (K : PySem.W.Frag) (o : DOn) (r : List V → Hp → VK → Prop) : Prop := ∀ h xs ω R vs H Q, o xs ω R → Wd K h H ω → RpAll K (fre ω h) H xs vs → Cnt K h H ω R Q → r vs H Q
def dCall (o : DOn) (T : TAD) : TD := fun ρ ω Q => T ρ ω fun xs ω1 => o xs ω1 Q
theorem up_call [Amb] {o : DOn} {r} (ok : CallD K o r) {σ H Q} (u : up K (dCall o T) σ H Q) : tCB r (upA K T) σ H Q := by
  obtain ⟨h, ρ, ω, R, sl, w, t, k⟩ := u
  exact ⟨h, ρ, ω, _, sl, w, t, fun xs ω1 vs H1 t1 f1 w1 rs => ok h xs ω1 R vs H1 Q t1 w1 rs (k.go f1)⟩
variable {id Ty : String} {x : Str} {p : Pos} {e : Expr}
theorem de_callB [Amb] {o : DOn} {r} (hc : CallR X (.builtin id) r) (ok : CallD X.K o r) (hg : Gl X x) (hm : X.mg x = none) (hv : bootBuiltins x = some (.builtin id)) (ha : DA X (e :: es) T) (hn : x ≠ "__name__" := by decide) (hdb : (x == ("__debug__" : Str)) = false := by decide)
    (he : starEach (e :: es) X.env = (false, eval e X.env) :: starEach es X.env := by rfl) (hpl : (backTo pos (starEach es X.env)).any (·.1) = false := by rfl) : DE X (.Call (.Name x p) (e :: es) [] pos) (dCall o T) :=
  PE.weak (pe_callB hc hg hm hv ha hn hdb he hpl) fun _ _ _ => up_call ok
theorem de_callTy [Amb] {o : DOn} {r} (hc : CallR X (.type Ty) r) (ok : CallD X.K o r) (hg : Gl X x) (hm : X.mg x = none) (hv : bootBuiltins x = some (.type Ty)) (ha : DA X (e :: es) T) (hn : x ≠ "__name__" := by decide) (hdb : (x == ("__debug__" : Str)) = false := by decide)
    (he : starEach (e :: es) X.env = (false, eval e X.env) :: starEach es X.env := by rfl) (hpl : (backTo pos (starEach es X.env)).any (·.1) = false := by rfl) : DE X (.Call (.Name x p) (e :: es) [] pos) (dCall o T) :=
  PE.weak (pe_callTy hc hg hm hv ha hn hdb he hpl) fun _ _ _ => up_call ok

/-! ### defs -/
abbrev SpD := List D → Om → DQ → Prop
def spU (K : PySem.W.Frag) (S : SpD) : Sp := fun vs H Q _ => ∃ h ds ω R, RpAll K (fre ω h) H ds vs ∧ Wd K h H ω ∧ S ds ω R ∧ Cnt K h H ω R Q
theorem de_fn [Amb] {CX : CXT} {k : Nat} {f : Addr} {fd : FuncData} {ps : List Str} {S : SpD} {E : XK} (F : FnG X.prog X.w X.K X.mg X.base CX k f fd ps (spU X.K S)) (hr : Room k X.A) (gd : X.A.guards = some []) (hg : Gl X x) (hm : X.mg x = some (.ref f)) (hk : PySem.W.keepIn X.K (.ref f) = true)
    (hb : Binds X.K fd ps []) (hx : Passes CX X E) (ha : DA X (e :: es) T) (hdb : (x == ("__debug__" : Str)) = false := by decide)
    (e1 : starEach (e :: es) X.env = (false, eval e X.env) :: starEach es X.env := by rfl) (e2 : (backTo pos (starEach es X.env)).any (·.1) = false := by rfl) : DE X (.Call (.Name x p) (e :: es) [] pos) (dCall S T) := by
  refine PE.weak (pe_callG F hr gd hg hm hk hb .nil hx ha hdb e1 e2) fun σ H Q ⟨h, ρ, ω, R, sl, w, t, k⟩ => ?_
  refine ⟨h, ρ, ω, _, sl, w, t, fun xs ω1 vs H1 t1 f1 w1 rs => ?_⟩
  show spU X.K S (vs ++ []) H1 Q E
  rw [List.append_nil]
  exact ⟨h, xs, ω1, R, rs, w1.drop, t1, (k.go f1).drop w1⟩
def startD (N : List Str) (ds : List D) : Rho := ds.map some ++ List.replicate (N.length - ds.length) none
theorem start_eq {N : List Str} {vs : List V} : start N vs = vs.map some ++ List.replicate (N.length - vs.length) none := rfl
theorem Sl.start {f : Fp} {H : Hp} {N : List Str} {ds : List D} {vs : List V} (r : RpAll K f H ds vs) : Sl K f H (start N vs) (startD N ds) := by
  have l := r.len
  refine ⟨by simp only [startD, start_eq, List.length_append, List.length_map, List.length_replicate, l], fun i d z => ?_⟩
  unfold startD at z
  rw [start_eq]
  by_cases hi : i < ds.length
  · rw [List.getElem?_append_left (by simpa using hi), List.getElem?_map] at z
    cases e : ds[i]? with
    | none => rw [e] at z; cases z
    | some d' =>
      rw [e] at z
      cases z
      obtain ⟨v, e2, rv⟩ := r.get e
      exact ⟨v, by rw [List.getElem?_append_left (by simpa [← l] using hi), List.getElem?_map, e2]; rfl, rv⟩
  · rw [List.getElem?_append_right (by simpa using Nat.le_of_not_lt hi), List.getElem?_replicate] at z
    split at z <;> cases z
/-- a def by its body over plain data -/
theorem FnG.ofD {P : Program} {w : World} {K : PySem.W.Frag} {mg : Str → Option Value} {base : Heap} {k : Nat} {x qual : Str} {st : Stmt} {f : Addr} {fd : FuncData} {N ps : List Str} {S : SpD} {T : TSD}
    (F : Fun K x qual st f fd) (sc : FnScope N ps (defScope st)) (ar : ∀ ds ω R, S ds ω R → ds.length = ps.length)
    (b : ∀ (cdv : Value) (A : Around) (fs : List Env) (s : Shared) (hp : Hp) (e : XK), Room k (A.deeper (PyProof.Rows.envOfC qual (defScope st) s.heap.objs.size f cdv)) → A.guards = some [] →
      DSs (cxOf CX0 P w K mg base N qual (defScope st) f cdv A fs s hp e).nox (defBody st) T)
    (rd : ∀ ds ω R, S ds ω R → T { nx := fun _ ω' => R .non ω', rt := R } (startD N ds) ω) : FnG P w K mg base CX0 (k + 1) f fd ps (spU K S) := by
  refine FnG.body F sc (fun vs H Q e ⟨h, ds, ω, R, r, _, s, _⟩ => by rw [← r.len]; exact ar ds ω R s) fun cdv A fs s hp vs q e room gd ⟨h, ds, ω, R, r, w, sp, k⟩ => ?_
  refine ⟨_, (b cdv A fs s hp e room gd).nox, h, startD N ds, ω, _, Sl.start r, w, rd ds ω R sp, ?_, k, ?_, ?_⟩
  · exact fun ρ' ω' σ' H' z f' w' _ => k .non ω' .non H' z f' w' .non
  · exact fun _ _ _ _ z => z.elim
  · exact fun _ _ _ _ z => z.elim

/-! ### tests -/
def dTst (Ta : TD) : TTD := fun ρ ω Q => Ta ρ ω fun x ω1 => ∃ b, x = .bl b ∧ Q b ω1
theorem up_tst [Amb] {σ H} {Q : Bool → Hp → Prop} (u : upT K (dTst Ta) σ H Q) : up K Ta σ H fun x H1 => ∃ b, x = .bl b ∧ Q b H1 := by
  obtain ⟨h, ρ, ω, R, sl, w, t, k⟩ := u
  refine ⟨h, ρ, ω, _, sl, w, t, fun x ω1 vx H1 t1 f1 w1 rx => ?_⟩
  obtain ⟨b, rfl, t1⟩ := t1
  cases rx
  exact ⟨b, rfl, k _ _ _ t1 f1 w1⟩
theorem dt_val [Amb] (ha : DE X a Ta) (he : ∀ whole, isTrue a X.env whole = (do let v ← whole; standAt a.pos; holding [v] (truthy v)) := by intro _; rfl) : DT X a (dTst Ta) :=
  PT.weak (pt_val ha he) fun _ _ _ => up_tst
theorem dt_cmp [Amb] {op} {o : DO2} {r : R2} (ho : OpR X (compareOp op) r) (ok : OpD X.K o r) (ha : DE X a Ta) (hb : DE X b Tb) (hm : behindInMarks op b = false := by rfl) : DT X (.Compare a [op] [b] pos) (dTst (dBin o Ta Tb)) :=
  PT.weak (pt_cmpR ho ha hb hm) fun _ _ _ u => up_bin ok (up_tst u)
def dAndT (A B : TTD) : TTD := fun ρ ω Q => A ρ ω fun b ω1 => if b = true then B ρ ω1 Q else Q false ω1
def dOrT (A B : TTD) : TTD := fun ρ ω Q => A ρ ω fun b ω1 => if b = true then Q true ω1 else B ρ ω1 Q
def dNotT (A : TTD) : TTD := fun ρ ω Q => A ρ ω fun b ω1 => Q (!b) ω1
abbrev DW [Amb] (X : Cx) (e : Expr) (T : TTD) : Prop := PW X e (upT X.K T)
theorem PW.weak {X : Cx} {e : Expr} {t u : TT} (p : PW X e t) (w : ∀ σ H Q, u σ H Q → t σ H Q) : PW X e u := ⟨fun wh pins s σ H Q I q => p.run wh pins s σ H Q I (w σ H Q q)⟩
variable {A B : TTD} {rest : List Expr}
theorem dw_and1 [Amb] (ha : DT X a A) : DW X (.BoolOp .And [a] pos) A := pw_and1 ha
theorem dw_or1 [Amb] (ha : DT X a A) : DW X (.BoolOp .Or [a] pos) A := pw_or1 ha
theorem dw_and [Amb] (ha : DT X a A) (hb : DW X (.BoolOp .And (b :: rest) pos) B) : DW X (.BoolOp .And (a :: b :: rest) pos) (dAndT A B) := by
  refine PW.weak (pw_and ha hb) fun σ H Q ⟨h, ρ, ω, R, sl, w, t, k⟩ => ?_
  refine ⟨h, ρ, ω, _, sl, w, t, fun c ω1 H1 t1 f1 w1 => ?_⟩
  cases c with
  | true => exact ⟨h, ρ, ω1, R, sl.keep f1.kp, w1, t1, fun b w2 H2 t2 f2 w3 => k b w2 H2 t2 (f1.trans f2) w3⟩
  | false => exact k _ _ _ t1 f1 w1
theorem dw_or [Amb] (ha : DT X a A) (hb : DW X (.BoolOp .Or (b :: rest) pos) B) : DW X (.BoolOp .Or (a :: b :: rest) pos) (dOrT A B) := by
  refine PW.weak (pw_or ha hb) fun σ H Q ⟨h, ρ, ω, R, sl, w, t, k⟩ => ?_
  refine ⟨h, ρ, ω, _, sl, w, t, fun c ω1 H1 t1 f1 w1 => ?_⟩
  cases c with
  | false => exact ⟨h, ρ, ω1, R, sl.keep f1.kp, w1, t1, fun b w2 H2 t2 f2 w3 => k b w2 H2 t2 (f1.trans f2) w3⟩
  | true => exact k _ _ _ t1 f1 w1
theorem dt_bool [Amb] (h : DW X e A) : DT X e A := h.pt
theorem dt_not [Amb] (ha : DT X a A) : DT X (.UnaryOp .Not a pos) (dNotT A) := by
  refine PT.weak (pt_not ha) fun σ H Q ⟨h, ρ, ω, R, sl, w, t, k⟩ => ?_
  exact ⟨h, ρ, ω, _, sl, w, t, fun c ω1 H1 t1 f1 w1 => k _ _ _ t1 f1 w1⟩
/-- as values -/
def dAndV (Ta Tb : TD) : TD := fun ρ ω Q => Ta ρ ω fun x ω1 => ∃ c, x = .bl c ∧ if c = true then Tb ρ ω1 Q else Q (.bl false) ω1
def dOrV (Ta Tb : TD) : TD := fun ρ ω Q => Ta ρ ω fun x ω1 => ∃ c, x = .bl c ∧ if c = true then Q (.bl true) ω1 else Tb ρ ω1 Q
def dNotV (Ta : TD) : TD := fun ρ ω Q => Ta ρ ω fun x ω1 => ∃ c, x = .bl c ∧ Q (.bl (!c)) ω1
theorem de_one [Amb] {op} (ha : DE X a Ta) : DE X (.BoolOp op [a] pos) Ta := pe_one ha
theorem de_and [Amb] (ha : DE X a Ta) (hb : DE X (.BoolOp .And (b :: rest) pos) Tb) : DE X (.BoolOp .And (a :: b :: rest) pos) (dAndV Ta Tb) := by
  refine PE.weak (pe_and ha hb) fun σ H Q ⟨h, ρ, ω, R, sl, w, t, k⟩ => ?_
  refine ⟨h, ρ, ω, _, sl, w, t, fun x ω1 vx H1 t1 f1 w1 rx => ?_⟩
  obtain ⟨c, rfl, t1⟩ := t1
  cases rx
  refine ⟨c, rfl, ?_⟩
  cases c with
  | true => exact ⟨h, ρ, ω1, R, sl.keep f1.kp, w1, t1, k.go f1⟩
  | false => exact k _ _ _ _ t1 f1 w1 (.bl _)
theorem de_or [Amb] (ha : DE X a Ta) (hb : DE X (.BoolOp .Or (b :: rest) pos) Tb) : DE X (.BoolOp .Or (a :: b :: rest) pos) (dOrV Ta Tb) := by
  refine PE.weak (pe_or ha hb) fun σ H Q ⟨h, ρ, ω, R, sl, w, t, k⟩ => ?_
  refine ⟨h, ρ, ω, _, sl, w, t, fun x ω1 vx H1 t1 f1 w1 rx => ?_⟩
  obtain ⟨c, rfl, t1⟩ := t1
  cases rx
  refine ⟨c, rfl, ?_⟩
  cases c with
  | false => exact ⟨h, ρ, ω1, R, sl.keep f1.kp, w1, t1, k.go f1⟩
  | true => exact k _ _ _ _ t1 f1 w1 (.bl _)
theorem de_not [Amb] (ha : DE X a Ta) : DE X (.UnaryOp .Not a pos) (dNotV Ta) := by
  refine PE.weak (pe_not ha) fun σ H Q ⟨h, ρ, ω, R, sl, w, t, k⟩ => ?_
  refine ⟨h, ρ, ω, _, sl, w, t, fun x ω1 vx H1 t1 f1 w1 rx => ?_⟩
  obtain ⟨c, rfl, t1⟩ := t1
  cases rx
  exact ⟨c, rfl, k _ _ _ _ t1 f1 w1 (.bl _)⟩
def dIf (A : TTD) (Ta Tb : TD) : TD := fun ρ ω Q => A ρ ω fun c ω1 => if c = true then Ta ρ ω1 Q else Tb ρ ω1 Q
theorem de_if [Amb] (hc : DT X c A) (ha : DE X a Ta) (hb : DE X b Tb) : DE X (.IfExp c a b pos) (dIf A Ta Tb) := by
  refine PE.weak (pe_ifExp hc ha hb) fun σ H Q ⟨h, ρ, ω, R, sl, w, t, k⟩ => ?_
  refine ⟨h, ρ, ω, _, sl, w, t, fun c ω1 H1 t1 f1 w1 => ?_⟩
  cases c with
  | true => exact ⟨h, ρ, ω1, R, sl.keep f1.kp, w1, t1, k.go f1⟩
  | false => exact ⟨h, ρ, ω1, R, sl.keep f1.kp, w1, t1, k.go f1⟩

/-! ### statements -/
variable {S T1 T2 : TSD} {st : Stmt} {sts : List Stmt}
def dNext : TSD := fun E ρ ω => E.nx ρ ω
def dSeq (t u : TSD) : TSD := fun E ρ ω => t { E with nx := u E } ρ ω
def dRet (Ta : TD) : TSD := fun E ρ ω => Ta ρ ω E.rt
def dRetN : TSD := fun E _ ω => E.rt .non ω
def dBreak : TSD := fun E ρ ω => E.bk ρ ω
def dCont : TSD := fun E ρ ω => E.ct ρ ω
def dDrop (Ta : TD) : TSD := fun E ρ ω => Ta ρ ω fun _ ω1 => E.nx ρ ω1
def dIfS (A : TTD) (t u : TSD) : TSD := fun E ρ ω => A ρ ω fun c ω1 => if c = true then t E ρ ω1 else u E ρ ω1
def dAsg (Ta : TD) (g : TGD) : TSD := fun E ρ ω => Ta ρ ω fun x ω1 => g x ρ ω1 E.nx
theorem ds_nil [Amb] : DSs X [] dNext := PSs.weak pss_nil fun _ _ _ ⟨_, ρ, ω, _, sl, w, t, k, _⟩ => k ρ ω _ _ t Fr.refl w sl
theorem ds_pass [Amb] : DS X (.Pass pos) dNext := PS.weak ps_pass fun _ _ _ ⟨_, ρ, ω, _, sl, w, t, k, _⟩ => k ρ ω _ _ t Fr.refl w sl
theorem ds_one [Amb] (hs : DS X st T1) : DSs X [st] T1 := pss_one hs
theorem ds_cons [Amb] (hs : DS X st T1) (hr : DSs X sts T2) : DSs X (st :: sts) (dSeq T1 T2) := by
  refine PSs.weak (pss_cons hs hr) fun E σ H ⟨h, ρ, ω, e, sl, w, t, k1, k2, k3, k4⟩ => ?_
  refine ⟨h, ρ, ω, _, sl, w, t, fun ρ' ω' σ' H' t1 f1 w1 sl1 => ?_, k2, k3, k4⟩
  exact ⟨h, ρ', ω', e, sl1, w1, t1, k1.go f1, k2.go f1, k3.go f1, k4.go f1⟩
theorem ds_ret [Amb] (ha : DE X a Ta) : DS X (.Return (some a) pos) (dRet Ta) :=
  PS.weak (ps_ret ha) fun E σ H ⟨h, ρ, ω, e, sl, w, t, k1, k2, k3, k4⟩ => ⟨h, ρ, ω, _, sl, w, t, k2⟩
theorem ds_expr [Amb] (ha : DE X a Ta) (hs : swapsWith a none pos.line X.env = pure false := by rfl) : DS X (.Expr a pos) (dDrop Ta) :=
  PS.weak (ps_expr ha hs) fun E σ H ⟨h, ρ, ω, e, sl, w, t, k1, k2, k3, k4⟩ => ⟨h, ρ, ω, _, sl, w, t, fun x ω1 v H1 t1 f1 w1 _ => k1 ρ ω1 σ H1 t1 f1 w1 (sl.keep f1.kp)⟩
theorem ds_if [Amb] {xs ys : List Stmt} (hc : DT X c A) (ha : DSs X xs T1) (hb : DSs X ys T2) : DS X (.If c xs ys pos) (dIfS A T1 T2) := by
  refine PS.weak (ps_if hc ha hb) fun E σ H ⟨h, ρ, ω, e, sl, w, t, k1, k2, k3, k4⟩ => ?_
  refine ⟨h, ρ, ω, _, sl, w, t, fun c ω1 H1 t1 f1 w1 => ?_⟩
  cases c with
  | true => exact ⟨h, ρ, ω1, e, sl.keep f1.kp, w1, t1, k1.go f1, k2.go f1, k3.go f1, k4.go f1⟩
  | false => exact ⟨h, ρ, ω1, e, sl.keep f1.kp, w1, t1, k1.go f1, k2.go f1, k3.go f1, k4.go f1⟩
variable {g : TGD} {tg : Expr}
theorem PG.weak {X : Cx} {e : Expr} {t u : TG} (p : PG X e t) (w : ∀ v σ H Q, u v σ H Q → t v σ H Q) : PG X e u := ⟨fun pins s σ H v vv Q I r q => p.run pins s σ H v vv Q I r (w v σ H Q q)⟩
theorem ds_asg [Amb] (ha : DE X a Ta) (hg : DG X tg g) (hs : swapsWithSole [tg] a pos.line X.env = pure false := by rfl) (hw : swappedStores [tg] a X.env = pure none := by rfl)
    (h1 : (assignEach [tg] X.env).map (·.2) = [assign tg X.env] := by rfl) : DS X (.Assign [tg] a pos) (dAsg Ta g) :=
  PS.weak (ps_asg ha hg hs hw h1) fun E σ H ⟨h, ρ, ω, e, sl, w, t, k1, k2, k3, k4⟩ => ⟨h, ρ, ω, _, sl, w, t, fun x ω1 v H1 t1 f1 w1 rx => ⟨h, ρ, ω1, x, _, sl.keep f1.kp, w1, rx, t1, k1.go f1⟩⟩
def dgName (i : Nat) : TGD := fun x ρ ω Q => Q (ρ.set i (some x)) ω
theorem dg_name [Amb] {i : Nat} {x : Str} (hN : X.N.Nodup) (hi : X.N[i]? = some x) (hx : L2.Loc X.env.scope x) (hf : X.fn x = true ∨ X.env.scope.names.lookup x = some .local := by first | exact .inl rfl | exact .inr rfl | assumption) : DG X (.Name x pos) (dgName i) :=
  PG.weak (pg_name hN hi hx hf) fun v σ H Q ⟨h, ρ, ω, d, R, sl, w, r, t, k⟩ => k _ _ _ _ t Fr.refl w (sl.set r i)
theorem ds_set [Amb] {i : Nat} {x : Str} {p2 : Pos} (hN : X.N.Nodup) (hi : X.N[i]? = some x) (hx : L2.Loc X.env.scope x) (ha : DE X a Ta) (hs : swapsWith a (some (.Name x p2)) pos.line X.env = pure false := by rfl) (hf : X.fn x = true ∨ X.env.scope.names.lookup x = some .local := by first | exact .inl rfl | exact .inr rfl | assumption) :
    DS X (.Assign [.Name x p2] a pos) (dAsg Ta (dgName i)) :=
  PS.weak (ps_set hN hi hx ha hs hf) fun E σ H ⟨h, ρ, ω, e, sl, w, t, k1, k2, k3, k4⟩ => ⟨h, ρ, ω, _, sl, w, t, fun x ω1 v H1 t1 f1 w1 rx => k1 _ _ _ _ t1 f1 w1 ((sl.keep f1.kp).set rx i)⟩
abbrev TGsD := List D → Rho → Om → (Rho → Om → Prop) → Prop
def upGs [Amb] (K : PySem.W.Frag) (T : TGsD) : TGs := fun vs σ H Q => ∃ h ρ ω ds R, Sl K (fre ω h) H σ ρ ∧ Wd K h H ω ∧ RpAll K (fre ω h) H ds vs ∧ T ds ρ ω R ∧ CntS K h H ω R Q
abbrev DGs [Amb] (X : Cx) (es : List Expr) (T : TGsD) : Prop := PGs X es (upGs X.K T)
theorem PGs.weak {X : Cx} {e : List Expr} {t u : TGs} (p : PGs X e t) (w : ∀ v σ H Q, u v σ H Q → t v σ H Q) : PGs X e u := ⟨fun pins s σ H v vv Q I r q => p.run pins s σ H v vv Q I r (w v σ H Q q)⟩
def dgNil : TGsD := fun ds ρ ω Q => ds = [] ∧ Q ρ ω
def dgCons (t : TGD) (u : TGsD) : TGsD := fun ds ρ ω Q => ∃ x xs, ds = x :: xs ∧ t x ρ ω fun ρ' ω' => u xs ρ' ω' Q
theorem dgs_nil [Amb] : DGs X [] dgNil := PGs.weak pgs_nil fun vs σ H Q ⟨h, ρ, ω, ds, R, sl, w, r, ⟨e, t⟩, k⟩ => by
  subst e
  cases r
  exact ⟨rfl, k _ _ _ _ t Fr.refl w sl⟩
theorem dgs_cons [Amb] {us : TGsD} (h1 : DG X a g) (h2 : DGs X es us) (hs : (assignEach (a :: es) X.env).map (·.2) = assign a X.env :: (assignEach es X.env).map (·.2) := by rfl) : DGs X (a :: es) (dgCons g us) :=
  PGs.weak (pgs_cons h1 h2 hs) fun vs σ H Q ⟨h, ρ, ω, ds, R, sl, w, r, ⟨x, xs, e, t⟩, k⟩ => by
    subst e
    cases r with
    | cons r1 r2 => exact ⟨_, _, rfl, h, ρ, ω, x, _, sl, w, r1, t, fun ρ' ω' σ' H' t1 f1 w1 sl1 => ⟨h, ρ', ω', xs, R, sl1, w1, r2.keep f1.kp, t1, k.go f1⟩⟩
def dgTup (n : Nat) (t : TGsD) : TGD := fun x ρ ω Q => ∃ xs, x = .tup xs ∧ xs.length = n ∧ t xs ρ ω Q
theorem dg_tup [Amb] {n kk : Nat} {t : TGsD} (hc : X.calm = true) (h : DGs X es t) (hn : (assignEach es X.env).length = n := by rfl) (hst : (assignEach es X.env).findIdx? (·.1) = none := by rfl) : DG X (.Tuple es kk pos) (dgTup n t) :=
  PG.weak (pg_tup hc h hn hst) fun v σ H Q ⟨h, ρ, ω, d, R, sl, w, r, ⟨xs, e, l, t⟩, k⟩ => by
    subst e
    cases r with
    | tup s ra => exact ⟨_, _, rfl, s.sq, by rw [← ra.len]; exact l, h, ρ, ω, xs, R, sl, w, ra, t, k⟩
def dPar (i j : Nat) (T : TAD) : TSD := fun E ρ ω => T ρ ω fun xs ω1 => ∃ x y, xs = [x, y] ∧ E.nx ((ρ.set i (some x)).set j (some y)) ω1
theorem ds_par [Amb] {i j : Nat} {x y : Str} {px py pt : Pos} {kt k2 pt2} (hc : X.calm = true) (hN : X.N.Nodup) (hi : X.N[i]? = some x) (hj : X.N[j]? = some y) (hij : i ≠ j)
    (hx : X.env.scope.names.lookup x = some .local) (hy : X.env.scope.names.lookup y = some .local) (ha : DA X [a, b] T)
    (hw : swappedStores [.Tuple [.Name x px, .Name y py] kt pt] (.Tuple [a, b] k2 pt2) X.env = pure (some [x, y]))
    (hs : swapsWithSole [.Tuple [.Name x px, .Name y py] kt pt] (.Tuple [a, b] k2 pt2) pos.line X.env = pure false := by rfl) :
    DS X (.Assign [.Tuple [.Name x px, .Name y py] kt pt] (.Tuple [a, b] k2 pt2) pos) (dPar i j T) := by
  refine PS.weak (ps_par hc hN hi hj hij hx hy ha hw hs) fun E σ H ⟨h, ρ, ω, e, sl, w, t, k1, k2, k3, k4⟩ => ?_
  refine ⟨h, ρ, ω, _, sl, w, t, fun xs ω1 vs H1 t1 f1 w1 rs => ?_⟩
  obtain ⟨x, y, rfl, t1⟩ := t1
  cases rs with
  | cons r1 rs =>
    cases rs with
    | cons r2 rs =>
      cases rs
      exact ⟨_, _, rfl, k1 _ _ _ _ t1 f1 w1 (((sl.keep f1.kp).set r1 i).set r2 j)⟩

/-! ### walks -/
def ItOk [Amb] (K : PySem.W.Frag) (h : Fp) (J : It) (xs : List D) (P : Om → Prop) (H1 : Hp) (ω1 : Om) : Prop := ∀ h2 i H ω, P ω → Kp H1 (fre ω1 h) H (fre ω h2) → Wd K h2 H ω →
  (i = xs.length → J.stop i H) ∧ ∀ d, xs[i]? = some d → J.go i H ∧ ∀ x H', J.yld i H x H' → Fr H ω H' ω ∧ Wd K h2 H' ω ∧ Rp K (fre ω h2) H' d x
abbrev TID := Rho → Om → (List D → (Om → Prop) → Om → Prop) → Prop
def upI [Amb] (K : PySem.W.Frag) (T : TID) : TI := fun σ H Q => ∃ h ρ ω R, Sl K (fre ω h) H σ ρ ∧ Wd K h H ω ∧ T ρ ω R ∧ ∀ xs P ω' J H', R xs P ω' → Fr H ω H' ω' → Wd K h H' ω' → ItOk K h J xs P H' ω' → Q J H'
abbrev DI [Amb] (X : Cx) (tg e : Expr) (T : TID) : Prop := PI X tg e (upI X.K T)
theorem PI.weak {X : Cx} {tg e : Expr} {t u : TI} (p : PI X tg e t) (w : ∀ σ H Q, u σ H Q → t σ H Q) : PI X tg e u := ⟨fun pins s σ H Q I q => p.run pins s σ H Q I (w σ H Q q)⟩
def dFor (Ti : TID) (g : TGD) (Tb : TSD) : TSD := fun E ρ ω => Ti ρ ω fun xs P ω1 => ∃ I : Nat → Rho → Om → Prop, I 0 ρ ω1 ∧ (∀ i ρ ω, I i ρ ω → P ω) ∧
  (∀ i d ρ ω, xs[i]? = some d → I i ρ ω → g d ρ ω fun ρ2 ω2 => Tb { E with nx := I (i + 1), ct := I (i + 1), bk := E.nx } ρ2 ω2) ∧ ∀ ρ ω, I xs.length ρ ω → E.nx ρ ω
variable {Ti : TID} {Tbd : TSD} {iter : Expr} {body : List Stmt}
theorem ds_for [Amb] (hp : PassesOwn (model X.prog X.w) X.A X.env X.xe) (hc : X.calm = true) (hi : DI X tg iter Ti) (hg : DG X tg g) (hb : DSs X body Tbd) (hs : ∀ x, foldedSetIterable iter X.env x = pure x := by intro _; rfl) : DS X (.For tg iter body [] pos) (dFor Ti g Tbd) := by
  refine PS.weak (ps_for hp hc hi hg hb hs) fun E σ H ⟨h, ρ, ω, e, sl, w, t, k1, k2, k3, k4⟩ => ?_
  refine ⟨h, ρ, ω, _, sl, w, t, fun xs P ω1 J H1 t1 f1 w1 it => ?_⟩
  obtain ⟨I, i0, ip, step, fin⟩ := t1
  refine ⟨fun i m σ' H' => m = xs.length - i ∧ i ≤ xs.length ∧ ∃ ρ' ω', I i ρ' ω' ∧ Fr H1 ω1 H' ω' ∧ Wd X.K h H' ω' ∧ Sl X.K (fre ω' h) H' σ' ρ', ⟨_, rfl, Nat.zero_le _, ρ, ω1, i0, Fr.refl, w1, sl.keep f1.kp⟩, ?_⟩
  rintro i m σ' H' ⟨rfl, hi, ρ', ω', ii, f2, w2, sl2⟩
  obtain ⟨st, go⟩ := it h i H' ω' (ip _ _ _ ii) f2.kp w2
  by_cases lt : i < xs.length
  · obtain ⟨g1, y1⟩ := go xs[i] (by simp [lt])
    refine .inr ⟨g1, fun σ3 H3 => ∃ ρ3 ω3, I (i + 1) ρ3 ω3 ∧ Fr H1 ω1 H3 ω3 ∧ Wd X.K h H3 ω3 ∧ Sl X.K (fre ω3 h) H3 σ3 ρ3, fun σ3 H3 ⟨ρ3, ω3, z⟩ => ⟨_, by omega, rfl, lt, ρ3, ω3, z⟩, fun x H3 y => ?_⟩
    obtain ⟨f3, w3, r3⟩ := y1 x H3 y
    refine ⟨h, ρ', ω', xs[i], _, sl2.keep f3.kp, w3, r3, step i xs[i] ρ' ω' (by simp [lt]) ii, fun ρ4 ω4 σ4 H4 t4 f4 w4 sl4 => ?_⟩
    have fa := f2.trans (f3.trans f4)
    refine ⟨h, ρ4, ω4, _, sl4, w4, t4, fun ρ5 ω5 σ5 H5 t5 f5 w5 sl5 => ⟨ρ5, ω5, t5, fa.trans f5, w5, sl5⟩, k2.go (f1.trans fa), k1.go (f1.trans fa), fun ρ5 ω5 σ5 H5 t5 f5 w5 sl5 => ⟨ρ5, ω5, t5, fa.trans f5, w5, sl5⟩⟩
  · have e : i = xs.length := by omega
    subst e
    exact .inl ⟨st rfl, k1 ρ' ω' σ' H' (fin ρ' ω' ii) (f1.trans f2) w2 sl2⟩
def dWhile (A : TTD) (Tb : TSD) : TSD := fun E ρ ω => ∃ I : Nat → Rho → Om → Prop, (∃ m, I m ρ ω) ∧
  ∀ m ρ ω, I m ρ ω → A ρ ω fun b ω1 => if b = true then Tb { E with nx := fun ρ2 ω2 => ∃ m2, m2 < m ∧ I m2 ρ2 ω2, ct := fun ρ2 ω2 => ∃ m2, m2 < m ∧ I m2 ρ2 ω2, bk := E.nx } ρ ω1 else E.nx ρ ω1
end
end DL

/-! DD: walks over data, comprehensions. -/
namespace DL
open PySem PySem.Spec L2
section
variable {K : PySem.W.Frag} {X : Cx} {h : Fp} {H H' : Hp} {ω ω' : Om} {a b c tg : Expr} {pos : Pos} {Ta Tb Tc : TD}

theorem itok_list [Amb] {a : Addr} {vs : List V} {xs : List D} {P : Om → Prop} (s : SL K (fre ω h) H a vs) (r : RpAll K (fre ω h) H xs vs) : ItOk K h (Itl K a) xs P H ω := by
  intro h2 i H2 ω2 _ f w
  have s2 := (s.keep f).sq
  refine ⟨fun l => ⟨vs, s2, by rw [← r.len]; exact Nat.le_of_eq l.symm⟩, fun d e => ?_⟩
  obtain ⟨v, ev, rv⟩ := r.get e
  refine ⟨⟨vs, v, s2, ev⟩, fun x H3 ⟨e1, e2⟩ => ?_⟩
  subst e1
  have e3 := e2 vs s2
  rw [ev] at e3
  cases e3
  exact ⟨Fr.refl, w, rv.keep f⟩
theorem itok_own [Amb] {a : Addr} {xs : List D} : ItOk K h (Itl K a) xs (fun ω => ω a = some (.lst xs)) H ω := by
  intro h2 i H2 ω2 p f w
  obtain ⟨vs, e0, r⟩ := w.cell a _ p
  have s2 : SqL K H2 a vs := .inl (.inl e0)
  refine ⟨fun l => ⟨vs, s2, by rw [← r.len]; exact Nat.le_of_eq l.symm⟩, fun d e => ?_⟩
  obtain ⟨v, ev, rv⟩ := r.get e
  refine ⟨⟨vs, v, s2, ev⟩, fun x H3 ⟨e1, e2⟩ => ?_⟩
  subst e1
  have e3 := e2 vs s2
  rw [ev] at e3
  cases e3
  exact ⟨Fr.refl, w, rv⟩
theorem itok_tup [Amb] {a : Addr} {vs : List V} {xs : List D} {P : Om → Prop} (s : ST K (fre ω h) H a vs) (r : RpAll K (fre ω h) H xs vs) : ItOk K h (Itt K a) xs P H ω := by
  intro h2 i H2 ω2 _ f w
  have s2 := (s.keep f).sq
  refine ⟨fun l => ⟨vs, s2, by rw [← r.len]; exact Nat.le_of_eq l.symm⟩, fun d e => ?_⟩
  obtain ⟨v, ev, rv⟩ := r.get e
  refine ⟨⟨vs, v, s2, ev⟩, fun x H3 ⟨e1, e2⟩ => ?_⟩
  subst e1
  have e3 := e2 vs s2
  rw [ev] at e3
  cases e3
  exact ⟨Fr.refl, w, rv.keep f⟩
def rngD (lo : Int) (n : Nat) : List D := (List.range n).map fun k => D.int (lo + (k : Nat))
theorem rngD_get {lo : Int} {n i : Nat} (hi : i < n) : (rngD lo n)[i]? = some (.int (lo + (i : Nat))) := by
  unfold rngD
  rw [List.getElem?_map, List.getElem?_range hi]
  rfl
theorem rngD_len {lo : Int} {n : Nat} : (rngD lo n).length = n := by simp [rngD]
theorem itok_rng [Amb] {lo : Int} {n : Nat} {P : Om → Prop} : ItOk K h (Itr lo n) (rngD lo n) P H ω := by
  intro h2 i H2 ω2 _ f w
  refine ⟨fun l => by rw [rngD_len] at l; exact Nat.le_of_eq l.symm, fun d e => ?_⟩
  by_cases hi : i < n
  · rw [rngD_get hi] at e
    cases e
    refine ⟨hi, fun x H3 ⟨e1, e2⟩ => ?_⟩
    subst e1 e2
    exact ⟨Fr.refl, w, .int _⟩
  · rw [List.getElem?_eq_none (by rw [rngD_len]; omega)] at e
    cases e
/-- a list or a tuple, whichever comes -/
def iSeq (K : PySem.W.Frag) (tl : TE) : TI := fun σ H R => tl σ H fun x H1 => ∃ a, x = .ref a ∧ ((∃ xs, SqL K H1 a xs ∧ R (Itl K a) H1) ∨ ∃ xs, SqT K H1 a xs ∧ R (Itt K a) H1)
theorem pi_seq {l : Expr} {tl : TE} (hl : PE X l tl) : PI X tg l (iSeq X.K tl) := by
  constructor
  intro pins s σ H R I hh
  refine thn (hl.run pins s σ H _ I hh) fun v t1 ⟨x, H1, I1, r1, q1⟩ => ?_
  obtain ⟨a, rfl, q⟩ := q1
  cases r1
  have new : ∀ b, b ∈ [t1.heap.objs.size] → FpOk X pins H1 b := fun b hb => by
    obtain rfl : b = t1.heap.objs.size := by simpa using hb
    exact I1.fpOk (Nat.le_refl _) (I1.hok.fresh (Nat.le_refl _))
  rcases q with ⟨xs, hq, q⟩ | ⟨xs, hq, q⟩
  · obtain ⟨its, rv, p, hz⟩ := I1.list hq
    refine wpAny_pyIter_list p.isList ?_
    exact ⟨_, _, _, _, H1, rfl, I1.kept (t' := t1.toks) fun b o e => Heap.get?_push_of_some _ e, turn_list a _, ⟨_, Heap.get?_push_size _ rfl, rfl, rfl⟩, new, q⟩
  · obtain ⟨its, rv, p, hz⟩ := I1.tuple hq
    refine wpAny_pyIter_tuple (show t1.heap.IsTuple a its.toArray from p) ?_
    exact ⟨_, _, _, _, H1, rfl, I1.kept (t' := t1.toks) fun b o e => Heap.get?_push_of_some _ e, turn_tuple a _, ⟨_, Heap.get?_push_size _ rfl, rfl, rfl⟩, new, q⟩
/-- the items of a sequence -/
def seqD : D → Option (List D)
  | .lst xs => some xs
  | .tup xs => some xs
  | _ => none
def dItems (Ta : TD) : TID := fun ρ ω Q => Ta ρ ω fun x ω1 => (∃ xs, seqD x = some xs ∧ Q xs (fun _ => True) ω1) ∨ ∃ p xs, x = .raw (.ref p) ∧ ω1 p = some (.lst xs) ∧ Q xs (fun ω => ω p = some (.lst xs)) ω1
theorem di_seq [Amb] (ha : DE X a Ta) : DI X tg a (dItems Ta) := by
  refine PI.weak (pi_seq ha) fun σ H Q ⟨h, ρ, ω, R, sl, w, t, k⟩ => ?_
  refine ⟨h, ρ, ω, _, sl, w, t, fun x ω1 v H1 t1 f1 w1 r => ?_⟩
  rcases t1 with ⟨xs, e, q⟩ | ⟨p, xs, e, c, q⟩
  · cases r with
    | lst s ra =>
      cases e
      exact ⟨_, rfl, .inl ⟨_, s.sq, k _ _ _ _ _ q f1 w1 (itok_list s ra)⟩⟩
    | tup s ra =>
      cases e
      exact ⟨_, rfl, .inr ⟨_, s.sq, k _ _ _ _ _ q f1 w1 (itok_tup s ra)⟩⟩
    | _ => cases e
  · subst e
    cases r
    obtain ⟨vs, e0, _⟩ := w1.cell p _ c
    exact ⟨_, rfl, .inl ⟨vs, .inl (.inl e0), k _ _ _ _ _ q f1 w1 itok_own⟩⟩
variable {T : TAD} {p : Pos}
def dRng1 (T : TAD) : TID := fun ρ ω Q => T ρ ω fun xs ω1 => ∃ n : Int, xs = [.int n] ∧ -(2 ^ 62) ≤ n ∧ n < 2 ^ 62 ∧ Q (rngD 0 n.toNat) (fun _ => True) ω1
def dRng2 (T : TAD) : TID := fun ρ ω Q => T ρ ω fun xs ω1 => ∃ m n : Int, xs = [.int m, .int n] ∧ (-(2 ^ 62) ≤ m ∧ m < 2 ^ 62 ∧ -(2 ^ 62) ≤ n ∧ n < 2 ^ 62) ∧ Q (rngD m (n - m).toNat) (fun _ => True) ω1
theorem di_rng1 [Amb] (hg : Gl X "range") (hm : X.mg "range" = none) (ha : DA X [a] T) (hs : starEach [a] X.env = [(false, eval a X.env)] := by rfl) : DI X tg (.Call (.Name "range" p) [a] [] pos) (dRng1 T) := by
  refine PI.weak (pi_range1 hg hm ha hs) fun σ H Q ⟨h, ρ, ω, R, sl, w, t, k⟩ => ?_
  refine ⟨h, ρ, ω, _, sl, w, t, fun xs ω1 v H1 t1 f1 w1 r => ?_⟩
  obtain ⟨n, rfl, l1, l2, q⟩ := t1
  cases r with
  | cons r1 r2 =>
    cases r1
    cases r2
    exact ⟨n, rfl, l1, l2, k _ _ _ _ _ q f1 w1 itok_rng⟩

/-! ### comprehensions -/
theorem kp_hid {p : Addr} (e : H p = none) (o : HO) : Kp H (fre ω h) (upd H p o) (fre ω (hid h p)) := fun b u x y => ⟨by rw [upd_ne (ne_of_none y e)]; exact y, x.1, x.2, ne_of_none y e⟩
theorem kp_unhid {p : Addr} : Kp H (fre ω (hid h p)) H (fre ω h) := fun b u x y => ⟨y, x.1, x.2.1⟩
theorem kp_app {p : Addr} {o : HO} : Kp H (fre ω (hid h p)) (upd H p o) (fre ω (hid h p)) := fun b u x y => ⟨by rw [upd_ne x.2.2]; exact y, x⟩
theorem Wd.hide [Amb] (w : Wd K h H ω) {p : Addr} (e : H p = none) (o : HO) (ho : ∀ vs, o ≠ .tup vs) : Wd K (hid h p) (upd H p o) ω where
  amb := Amb.hide (Amb.mono w.amb (Fr.new e))
  cell a c x := by
    have n : a ≠ p := fun z => by
      have y := w.fresh e
      rw [← z, x] at y
      cases y
    exact (w.cell a c x).keep (upd_ne n) (kp_hid e o)
  open_ b x := by
    by_cases hb : b = p
    · subst hb; rw [upd_same] at x; cases x
    · rw [upd_ne hb] at x; exact ⟨w.open_ b x, hb⟩
  tup_ b vs m x := by
    by_cases hb : b = p
    · subst hb; rw [upd_same] at x; cases x; exact absurd rfl (ho vs)
    · rw [upd_ne hb] at x; exact ⟨w.tup_ b vs m x, hb⟩
theorem Wd.app [Amb] {p : Addr} {o : HO} (w : Wd K (hid h p) H ω) (nw : Amb.N p) (n : ω p = none) (ho : ∀ vs, o ≠ .tup vs) : Wd K (hid h p) (upd H p o) ω where
  amb := Amb.put nw w.amb
  cell a c x := by
    have n : a ≠ p := fun z => by rw [z, n] at x; cases x
    exact (w.cell a c x).keep (upd_ne n) kp_app
  open_ b x := by
    by_cases hb : b = p
    · subst hb; rw [upd_same] at x; cases x
    · rw [upd_ne hb] at x; exact w.open_ b x
  tup_ b vs m x := by
    by_cases hb : b = p
    · subst hb; rw [upd_same] at x; cases x; exact absurd rfl (ho vs)
    · rw [upd_ne hb] at x; exact w.tup_ b vs m x
theorem Wd.unhide [Amb] {p : Addr} (w : Wd K (hid h p) H ω) (nw : Amb.N p) : Wd K h H ω := ⟨fun a c x => (w.cell a c x).keep rfl kp_unhid, fun b x => (w.open_ b x).1, fun b vs n x => (w.tup_ b vs n x).1, Amb.show_ nw w.amb⟩

/-- a comprehension's own names: g stores the item in slots of vs alone -/
structure GOk [Amb] (K : PySem.W.Frag) (g : TG) (gd : TGD) (vs : List Nat) : Prop where
  run : ∀ h σ ρ ω d v H R Q, Sl K (fre ω h) H (wipe σ vs) (wipeD ρ vs) → Wd K h H ω → Rp K (fre ω h) H d v → gd d (wipeD ρ vs) ω R →
    (∀ σ2 ρ2, wipe σ2 vs = wipe σ vs → R ρ2 ω → Sl K (fre ω h) H σ2 ρ2 → Q σ2 H) → g v (wipe σ vs) H Q
def wiped (vs : List Nat) : Bool := true
theorem wipe_set {σ : L2.St} {i : Nat} {x : Option V} : ∀ {vs : List Nat}, i ∈ vs → wipe (σ.set i x) vs = wipe σ vs
  | [], hm => nomatch hm
  | j :: vs, hm => by
    unfold wipe
    by_cases e : i ∈ vs
    · rw [wipe_set e]
    · have ej : i = j := by
        rcases List.mem_cons.mp hm with z | z
        · exact z
        · exact absurd z e
      subst ej
      have aux : ∀ (vs : List Nat) (σ : L2.St), i ∉ vs → (wipe (σ.set i x) vs) = (wipe σ vs).set i x := by
        intro vs
        induction vs with
        | nil => intro σ _; rfl
        | cons k vs ih =>
          intro σ hn
          have hk : k ≠ i := fun z => hn (by simp [z])
          unfold wipe
          rw [ih σ (fun z => hn (List.mem_cons_of_mem _ z)), List.set_comm _ _ (Ne.symm hk)]
      rw [aux vs σ e, List.set_set]
theorem wipe_wipe (σ : L2.St) : ∀ (vs ws : List Nat), (∀ i ∈ vs, i ∈ ws) → wipe (wipe σ vs) ws = wipe σ ws
  | [], _, _ => rfl
  | v :: vs, ws, hm => by
    show wipe ((wipe σ vs).set v none) ws = wipe σ ws
    rw [wipe_set (hm v (by simp)), wipe_wipe σ vs ws fun i hi => hm i (by simp [hi])]
theorem gok_name [Amb] {i : Nat} {vs : List Nat} (hi : i ∈ vs) : GOk K (gName i) (dgName i) vs := ⟨fun h σ ρ ω d v H R Q sl w r t k => k _ _ (by
  rw [wipe_set hi, wipe_wipe σ vs vs fun _ z => z]) t (sl.set r i)⟩
abbrev DTs [Amb] (X : Cx) (es : List Expr) (T : TTD) : Prop := PTs X es (upT X.K T)
def dYes : TTD := fun _ ω Q => Q true ω
theorem PTs.weak {X : Cx} {e : List Expr} {t u : TT} (p : PTs X e t) (w : ∀ σ H Q, u σ H Q → t σ H Q) : PTs X e u := ⟨fun pins s σ H Q I q => p.run pins s σ H Q I (w σ H Q q)⟩
theorem dts_nil [Amb] : DTs X [] dYes := PTs.weak pts_nil fun σ H Q ⟨h, ρ, ω, R, sl, w, t, k⟩ => k true ω H t Fr.refl w
theorem dts_one [Amb] {A : TTD} (ha : DT X a A) : DTs X [a] A := pts_one ha
def lcBody (gd : TGD) (Tt : TTD) (Te : TD) (vs : List Nat) (ρ : Rho) (xs : List D) (P : Om → Prop) (ω1 : Om) (F : List D → Om → Prop) : Prop :=
  ∃ I : Nat → List D → Om → Prop, I 0 [] ω1 ∧ (∀ i acc ω, I i acc ω → P ω) ∧
    (∀ i d acc ω, xs[i]? = some d → I i acc ω → gd d (wipeD ρ vs) ω fun ρ2 ω2 => Tt ρ2 ω2 fun b ω3 => if b = true then Te ρ2 ω3 fun y ω4 => acc.length < sizeLine ∧ I (i + 1) (acc ++ [y]) ω4 else I (i + 1) acc ω3) ∧
    ∀ acc ω, I xs.length acc ω → F acc ω
def dLc (Ti : TID) (gd : TGD) (Tt : TTD) (Te : TD) (vs : List Nat) : TD := fun ρ ω Q => Ti ρ ω fun xs P ω1 => lcBody gd Tt Te vs ρ xs P ω1 fun acc ω2 => Q (.lst acc) ω2
def dLcO (Ti : TID) (gd : TGD) (Tt : TTD) (Te : TD) (vs : List Nat) : TD := fun ρ ω Q => Ti ρ ω fun xs P ω1 => lcBody gd Tt Te vs ρ xs P ω1 fun acc ω2 => ∀ p, ω2 p = none → Q (.raw (.ref p)) (oset ω2 p (.lst acc))
variable {Ti : TID} {g : TG} {gd : TGD} {Tt : TTD} {Te : TD} {vs : List Nat}
theorem Kp.trans {f1 f2 f3 : Fp} {H1 H2 H3 : Hp} (a : Kp H1 f1 H2 f2) (b : Kp H2 f2 H3 f3) : Kp H1 f1 H3 f3 := fun c o x y => b c o (a c o x y).2 (a c o x y).1
/-- where a comprehension stands -/
structure LcSt [Amb] (K : PySem.W.Frag) (h : Fp) (H : Hp) (ω : Om) (D : Addr) (acc : List DL.D) (ω' : Om) (H' : Hp) : Prop where
  kp : Kp H (fre ω h) H' (fre ω' (hid h D))
  fr : Fr H ω H' ω'
  wd : Wd K (hid h D) H' ω'
  no : ω' D = none
  nw : Amb.N D
  ls : ∃ us, H' D = some (.lst us) ∧ RpAll K (fre ω' (hid h D)) H' acc us
theorem lc_upd [Amb] {σ : L2.St} {Q : VK} {F : List D → Om → Prop} {ρ : Rho} {xs : List D} {P : Om → Prop} {J : It} (gk : GOk K g gd vs) (sl : Sl K (fre ω h) H σ ρ) (w : Wd K h H ω) (it : ItOk K h J xs P H ω) (b : lcBody gd Tt Te vs ρ xs P ω F)
    (fin : ∀ D acc ω' H', H D = none → F acc ω' → LcSt K h H ω D acc ω' H' → Q (.ref D) H') :
    ∀ D, H D = none → ∃ W : Nat → Nat → Hp → Prop, (∃ m, W 0 m (upd H D (.lst []))) ∧ ∀ i m H, W i m H →
      (J.stop i H ∧ Q (.ref D) H) ∨ (J.go i H ∧ ∃ Nx : Hp → Prop, (∀ H', Nx H' → ∃ m', m' < m ∧ W (i + 1) m' H') ∧ ∀ x H', J.yld i H x H' → g x (wipe σ vs) H' fun σ2 H2 => wipe σ2 vs = wipe σ vs ∧ upT K Tt σ2 H2 fun b H3 =>
        if b = true then up K Te σ2 H3 fun y H4 => ∃ acc, H4 D = some (.lst acc) ∧ acc.length < sizeLine ∧ Nx (upd H4 D (.lst (acc ++ [y]))) else Nx H3) := by
  intro D hD
  obtain ⟨I, i0, ip, step, last⟩ := b
  refine ⟨fun i m H' => m = xs.length - i ∧ i ≤ xs.length ∧ ∃ acc ω', I i acc ω' ∧ LcSt K h H ω D acc ω' H', ⟨_, rfl, Nat.zero_le _, [], ω, i0, ?_⟩, ?_⟩
  · exact ⟨kp_hid hD _, Fr.new hD, w.hide hD _ (fun _ z => nomatch z), w.fresh hD, Amb.new w.amb hD (w.open_ D hD), [], upd_same, .nil⟩
  rintro i m H1 ⟨rfl, hi, acc, ω1, ii, L⟩
  obtain ⟨st, go⟩ := it (hid h D) i H1 ω1 (ip _ _ _ ii) L.kp L.wd
  by_cases lt : i < xs.length
  · obtain ⟨g1, y1⟩ := go xs[i] (by simp [lt])
    refine .inr ⟨g1, fun H2 => ∃ acc ω', I (i + 1) acc ω' ∧ LcSt K h H ω D acc ω' H2, fun H2 ⟨acc2, ω2, z1, z2⟩ => ⟨_, by omega, rfl, lt, acc2, ω2, z1, z2⟩, fun x H3 y => ?_⟩
    obtain ⟨f3, w3, r3⟩ := y1 x H3 y
    obtain ⟨us, e1, ra⟩ := L.ls
    have k3 : Kp H (fre ω h) H3 (fre ω1 (hid h D)) := L.kp.trans f3.kp
    have sl3 : Sl K (fre ω1 (hid h D)) H3 σ ρ := sl.keep k3
    refine gk.run (hid h D) σ ρ ω1 xs[i] x H3 _ _ (sl3.wipe vs) w3 r3 (step i xs[i] acc ω1 (by simp [lt]) ii) fun σ2 ρ2 e2 t2 sl2 => ⟨e2, ?_⟩
    refine ⟨hid h D, ρ2, ω1, _, sl2, w3, t2, fun b ω4 H4 t4 f4 w4 => ?_⟩
    have fa := f3.trans f4
    cases b with
    | false =>
      obtain ⟨e4, n4⟩ := fa D _ L.no e1
      exact ⟨acc, ω4, t4, k3.trans f4.kp, L.fr.trans fa, w4, n4, L.nw, us, e4, ra.keep fa.kp⟩
    | true =>
      refine ⟨hid h D, ρ2, ω4, _, sl2.keep f4.kp, w4, t4, fun y ω5 v H5 t5 f5 w5 r5 => ?_⟩
      have fb := fa.trans f5
      obtain ⟨e5, n5⟩ := fb D _ L.no e1
      refine ⟨us, e5, by rw [← ra.len]; exact t5.1, acc ++ [y], ω5, t5.2, (k3.trans (f4.trans f5).kp).trans kp_app, fun b o x1 x2 => ?_, w5.app L.nw n5 (fun _ z => nomatch z), n5, L.nw, us ++ [v], upd_same, ((ra.keep fb.kp).app (.cons r5 .nil)).keep kp_app⟩
      obtain ⟨z1, z2⟩ := (L.fr.trans fb) b o x1 x2
      exact ⟨by rw [upd_ne (ne_of_none x2 hD)]; exact z1, z2⟩
  · have e : i = xs.length := by omega
    subst e
    exact .inl ⟨st rfl, fin D acc ω1 H1 hD (last acc ω1 ii) L⟩
/-- a comprehension, its list a plain value -/
theorem up_lc [Amb] {wi : TI} {σ : L2.St} {Q : VK} (hwi : ∀ R, upI K Ti σ H R → wi σ H R) (gk : GOk K g gd vs) (u : up K (dLc Ti gd Tt Te vs) σ H Q) : tLc wi g (upT K Tt) (up K Te) vs σ H Q := by
  obtain ⟨h, ρ, ω, R, sl, w, t, k⟩ := u
  refine hwi _ ⟨h, ρ, ω, _, sl, w, t, fun xs P ω1 J H1 t1 f1 w1 it => ?_⟩
  refine lc_upd gk (sl.keep f1.kp) w1 it t1 fun D acc ω' H' hD q L => ?_
  obtain ⟨us, e, r⟩ := L.ls
  refine k _ ω' _ H' q (f1.trans L.fr) (L.wd.unhide L.nw) (.lst (.inl ⟨⟨L.no, w1.open_ D hD⟩, .inl e⟩) (r.keep kp_unhid))
theorem up_lcO [Amb] {wi : TI} {σ : L2.St} {Q : VK} (hwi : ∀ R, upI K Ti σ H R → wi σ H R) (gk : GOk K g gd vs) (u : up K (dLcO Ti gd Tt Te vs) σ H Q) : tLc wi g (upT K Tt) (up K Te) vs σ H Q := by
  obtain ⟨h, ρ, ω, R, sl, w, t, k⟩ := u
  refine hwi _ ⟨h, ρ, ω, _, sl, w, t, fun xs P ω1 J H1 t1 f1 w1 it => ?_⟩
  refine lc_upd gk (sl.keep f1.kp) w1 it t1 fun D acc ω' H' hD q L => ?_
  obtain ⟨us, e, r⟩ := L.ls
  have kk : Kp H' (fre ω' (hid h D)) H' (fre (oset ω' D (.lst acc)) h) := fun b o x y => ⟨y, by
    show oset ω' D _ b = none
    rw [oset_ne x.2.2]; exact x.1, x.2.1⟩
  refine k _ _ _ H' (q D L.no) (f1.trans fun b o x y => ?_) ⟨fun a c x => ?_, fun b x => (L.wd.open_ b x).1, fun b vs n x => by
    by_cases hb : b = D
    · subst hb; rw [oset_same] at n; cases n
    · rw [oset_ne hb] at n; exact (L.wd.tup_ b vs n x).1, Amb.own L.nw (Amb.show_ L.nw L.wd.amb)⟩ (.raw _)
  · obtain ⟨z1, z2⟩ := L.fr b o x y
    exact ⟨z1, by rw [oset_ne (ne_of_none y hD)]; exact z2⟩
  · by_cases n : a = D
    · subst n
      rw [oset_same] at x
      cases x
      exact ⟨us, e, r.keep kk⟩
    · rw [oset_ne n] at x
      exact (L.wd.cell a c x).keep rfl kk
variable {elt iter : Expr} {ifs : List Expr} {scope : Scope} {own : List (Str × Nat)}
theorem de_lc [Amb] (hc : X.calm = true) (hN : X.N.Nodup) (hi : DI X tg iter Ti) (ok : BlkOk X.N X.env.scope scope own)
    (hg : ∀ (s : Shared) (H : Hp) (C : Addr) (cl : List (Str × Addr)) (fp : List Addr), PG (X.blk s H scope (compEnvC scope cl C X.env) fp) tg g) (gk : GOk X.K g gd (own.map (·.2)))
    (ht : ∀ (s : Shared) (H : Hp) (C : Addr) (cl : List (Str × Addr)) (fp : List Addr), DTs (X.blk s H scope (compEnvC scope cl C X.env) fp) ifs Tt)
    (he : ∀ (s : Shared) (H : Hp) (C : Addr) (cl : List (Str × Addr)) (fp : List Addr), DE (X.blk s H scope (compEnvC scope cl C X.env) fp) elt Te) (hs : ∀ x, foldedSetIterable iter X.env x = pure x := by intro _; rfl) :
    DE X (.ListComp elt [⟨tg, iter, ifs, 0⟩] scope pos) (dLc Ti gd Tt Te (own.map (·.2))) :=
  PE.weak (pe_lc hc hN hi ok hg ht he hs) fun _ _ _ => up_lc (fun _ z => z) gk
theorem de_lcO [Amb] (hc : X.calm = true) (hN : X.N.Nodup) (hi : DI X tg iter Ti) (ok : BlkOk X.N X.env.scope scope own)
    (hg : ∀ (s : Shared) (H : Hp) (C : Addr) (cl : List (Str × Addr)) (fp : List Addr), PG (X.blk s H scope (compEnvC scope cl C X.env) fp) tg g) (gk : GOk X.K g gd (own.map (·.2)))
    (ht : ∀ (s : Shared) (H : Hp) (C : Addr) (cl : List (Str × Addr)) (fp : List Addr), DTs (X.blk s H scope (compEnvC scope cl C X.env) fp) ifs Tt)
    (he : ∀ (s : Shared) (H : Hp) (C : Addr) (cl : List (Str × Addr)) (fp : List Addr), DE (X.blk s H scope (compEnvC scope cl C X.env) fp) elt Te) (hs : ∀ x, foldedSetIterable iter X.env x = pure x := by intro _; rfl) :
    DE X (.ListComp elt [⟨tg, iter, ifs, 0⟩] scope pos) (dLcO Ti gd Tt Te (own.map (·.2))) :=
  PE.weak (pe_lc hc hN hi ok hg ht he hs) fun _ _ _ => up_lcO (fun _ z => z) gk
end
end DL

/-! DO: operators and built-ins over plain data. -/
namespace DL
open PySem PySem.Spec L2

/-! ### data as the library's data -/
mutual
def D.py : D → PyData
  | .non => .none
  | .bl b => .bool b
  | .int i => .int i
  | .str s => .str s
  | .lst xs => .list (pyAll xs)
  | .tup xs => .tuple (pyAll xs)
  | .dic kvs => .dict (pyKv kvs)
  | .obj _ _ => .none
  | .raw _ => .none
def pyAll : List D → List PyData
  | [] => []
  | x :: xs => x.py :: pyAll xs
def pyKv : List (Key × D) → List (PyData × PyData)
  | [] => []
  | (.inl i, v) :: r => (.int i, v.py) :: pyKv r
  | (.inr s, v) :: r => (.str s, v.py) :: pyKv r
end
mutual
/-- nothing raw in it -/
def D.ok : D → Bool
  | .raw _ => false
  | .obj _ _ => false
  | .lst xs => okAll xs
  | .tup xs => okAll xs
  | .dic kvs => okKv kvs
  | _ => true
def okAll : List D → Bool
  | [] => true
  | x :: xs => x.ok && okAll xs
def okKv : List (Key × D) → Bool
  | [] => true
  | (_, v) :: r => v.ok && okKv r
end
mutual
/-- neither raw nor a dict in it -/
def D.flat : D → Bool
  | .raw _ => false
  | .obj _ _ => false
  | .dic _ => false
  | .lst xs => flatAll xs
  | .tup xs => flatAll xs
  | _ => true
def flatAll : List D → Bool
  | [] => true
  | x :: xs => x.flat && flatAll xs
end
section
variable {K : PySem.W.Frag} {X : Cx} {f h : Fp} {H H' : Hp} {ω ω' : Om}
theorem flat_cons {x : D} {xs : List D} (e : flatAll (x :: xs) = true) : x.flat = true ∧ flatAll xs = true := by simpa [flatAll] using e
mutual
theorem Rp.dp : ∀ (d : D) {v : V}, d.flat = true → Rp K f H d v → Dp K H v d.py
  | .non, _, _, r => by cases r; simp only [D.py]; exact .non
  | .bl b, _, _, r => by cases r; simp only [D.py]; exact .bl b
  | .int i, _, _, r => by cases r; simp only [D.py]; exact .int i
  | .str x, _, _, r => by cases r; simp only [D.py]; exact .str x
  | .raw v, _, e, r => by simp [D.flat] at e
  | .lst ds, _, e, r => by
    cases r with
    | lst s r => simp only [D.py]; exact .lst s.sq (RpAll.dp ds (by simpa [D.flat] using e) r)
  | .tup ds, _, e, r => by
    cases r with
    | tup s r => simp only [D.py]; exact .tup s.sq (RpAll.dp ds (by simpa [D.flat] using e) r)
  | .dic _, _, e, _ => by simp [D.flat] at e
  | .obj _ _, _, e, _ => by simp [D.flat] at e
theorem RpAll.dp : ∀ (ds : List D) {vs : List V}, flatAll ds = true → RpAll K f H ds vs → DpAll K H vs (pyAll ds)
  | [], _, _, r => by cases r; simp only [pyAll]; exact .nil
  | d :: ds, _, e, r => by
    cases r with
    | cons r t =>
      simp only [pyAll]
      exact .cons (Rp.dp d (flat_cons e).1 r) (RpAll.dp ds (flat_cons e).2 t)
end

/-! ### + -/
def rAddL (K : PySem.W.Frag) : R2 := fun x y H Q => ∃ a b xs ys, x = .ref a ∧ y = .ref b ∧ SqL K H a xs ∧ SqL K H b ys ∧ xs.length + ys.length ≤ sizeLine ∧ ∀ p, H p = none → Q (.ref p) (upd H p (.lst (xs ++ ys)))
theorem op_addL : OpR X (binaryOp .Add) (rAddL X.K) := by
  intro pins s σ H x y v u Q I rx ry hh
  obtain ⟨a, b, xs, ys, rfl, rfl, ha, hb, sz, q⟩ := hh
  cases rx
  cases ry
  obtain ⟨is, r1, p1, _⟩ := I.list ha
  obtain ⟨js, r2, p2, _⟩ := I.list hb
  obtain ⟨⟨c1, d1, t1, l1⟩, n1, g1, hc1, _, hd1⟩ := p1
  obtain ⟨⟨c2, d2, t2, l2⟩, n2, g2, hc2, _, hd2⟩ := p2
  simp only at hc1 hd1 hc2 hd2
  subst hc1 hd1 hc2 hd2
  have sz' : is.toArray.size + js.toArray.size ≤ sizeLine := by rw [List.size_toArray, List.size_toArray, ← r1.length, ← r2.length]; exact sz
  refine concat_meets ⟨_, g1, rfl⟩ ⟨_, g2, rfl⟩ noFill_list_add seq_list_add PySem.F.slot_list_add PySem.F.entry_list_add
    (PySem.F.args_list_add_2 _ _) (PyProof.Rows.list_addW a b is.toArray js.toArray n1 n2 d1 d2 l1 l2 sz') ⟨g1, g2, ?_⟩
  have ea : is.toArray ++ js.toArray = (is ++ js).toArray := by simp
  rw [ea]
  exact ⟨.ref _, _, I.lnew (t' := s.toks) (r1.append r2) (by rw [List.length_append]; exact sz), rfl, q _ I.fresh⟩
def rAddT (K : PySem.W.Frag) : R2 := fun x y H Q => ∃ a b xs ys, x = .ref a ∧ y = .ref b ∧ SqT K H a xs ∧ SqT K H b ys ∧ xs.length + ys.length ≤ sizeLine ∧
  (xs = [] → Q (.ref b) H) ∧ (xs ≠ [] → ys = [] → Q (.ref a) H) ∧ (xs ≠ [] → ys ≠ [] → ∀ p, H p = none → Q (.ref p) (upd H p (.tup (xs ++ ys))))
theorem op_addT : OpR X (binaryOp .Add) (rAddT X.K) := by
  intro pins s σ H x y v u Q I rx ry hh
  obtain ⟨a, b, xs, ys, rfl, rfl, ha, hb, sz, q0, q1, q2⟩ := hh
  by_cases ex : xs = []
  · subst ex
    cases rx
    cases ry
    obtain ⟨is, r1, p1, _⟩ := I.tuple ha
    obtain ⟨js, r2, p2, _⟩ := I.tuple hb
    cases r1
    obtain ⟨⟨c1, d1, t1, l1⟩, g1, hc1, n1, hd1⟩ := p1
    obtain ⟨⟨c2, d2, t2, l2⟩, g2, hc2, n2, hd2⟩ := p2
    simp only at hc1 hd1 hc2 hd2
    subst hc1 hd1 hc2 hd2
    exact concat_meets ⟨_, g1, rfl⟩ ⟨_, g2, rfl⟩ noFill_tuple_add seq_tuple_add PySem.F.slot_tuple_add PySem.F.entry_tuple_add
      (PySem.F.args_tuple_add_2 _ _) (PyProof.Rows.tuple_addW0 a b #[] js.toArray n1 n2 d1 d2 l1 l2 rfl) ⟨g1, g2, .ref b, H, I, rfl, q0 rfl⟩
  · exact op_catT pins s σ H _ _ v u Q I rx ry ⟨a, b, xs, ys, rfl, rfl, ha, hb, ex, sz, q1 ex, q2 ex⟩
/-- a list's items: a plain one, or an owned one -/
def lstOf (ω : Om) : D → Option (List D)
  | .lst xs => some xs
  | .raw (.ref p) => match ω p with
    | some (.lst xs) => some xs
    | _ => none
  | _ => none
theorem lstOf_sq [Amb] {d : D} {v : V} {xs : List D} (w : Wd K h H ω) (e : lstOf ω d = some xs) (r : Rp K (fre ω h) H d v) : ∃ a vs, v = .ref a ∧ SqL K H a vs ∧ RpAll K (fre ω h) H xs vs := by
  cases r with
  | lst s ra =>
    cases e
    exact ⟨_, _, rfl, s.sq, ra⟩
  | raw v =>
    cases v with
    | ref p =>
      simp only [lstOf] at e
      split at e
      · rename_i ys ey
        cases e
        obtain ⟨vs, e1, e2⟩ := w.cell p _ ey
        exact ⟨_, vs, rfl, .inl (.inl e1), e2⟩
      · cases e
    | _ => simp [lstOf] at e
  | _ => simp [lstOf] at e
def dAdd : DO2 := fun x y ω Q => match x, y with
  | .int i, .int j => Q (.int (i + j)) ω
  | .str s, .str t => s.length + t.length ≤ sizeLine ∧ Q (.str (s ++ t)) ω
  | .tup xs, .tup ys => xs.length + ys.length ≤ sizeLine ∧ Q (.tup (xs ++ ys)) ω
  | .lst xs, .lst ys => xs.length + ys.length ≤ sizeLine ∧ Q (.lst (xs ++ ys)) ω
  | x, y => ∃ xs ys, lstOf ω x = some xs ∧ lstOf ω y = some ys ∧ xs.length + ys.length ≤ sizeLine ∧ Q (.lst (xs ++ ys)) ω
def rAddA (K : PySem.W.Frag) : R2 := fun x y H Q => rI0 (fun i j => .int (i + j)) x y H Q ∨ (∃ i j, x = .str i ∧ y = .str j ∧ i.length + j.length ≤ sizeLine ∧ Q (.str (i ++ j)) H) ∨ rAddL K x y H Q ∨ rAddT K x y H Q
theorem op_addA : OpR X (binaryOp .Add) (rAddA X.K) := op_add.or (op_add_str.or (op_addL.or op_addT))
theorem ok_addL [Amb] {x y : D} {vx vy : V} {R : DQ} {Q : VK} {xs ys : List D} (w : Wd K h H ω) (ex : lstOf ω x = some xs) (ey : lstOf ω y = some ys) (sz : xs.length + ys.length ≤ sizeLine) (q : R (.lst (xs ++ ys)) ω) (rx : Rp K (fre ω h) H x vx) (ry : Rp K (fre ω h) H y vy)
    (k : Cnt K h H ω R Q) : rAddL K vx vy H Q := by
  obtain ⟨a, us, rfl, sx, ra⟩ := lstOf_sq w ex rx
  obtain ⟨b, ws, rfl, sy, rb⟩ := lstOf_sq w ey ry
  exact ⟨a, b, us, ws, rfl, rfl, sx, sy, by rw [← ra.len, ← rb.len]; exact sz, fun p e => k.nlst w q (ra.app rb) e⟩
theorem ok_addT [Amb] {xs ys : List D} {vx vy : V} {R : DQ} {Q : VK} (w : Wd K h H ω) (sz : xs.length + ys.length ≤ sizeLine) (q : R (.tup (xs ++ ys)) ω) (rx : Rp K (fre ω h) H (.tup xs) vx) (ry : Rp K (fre ω h) H (.tup ys) vy)
    (k : Cnt K h H ω R Q) : rAddT K vx vy H Q := by
  cases rx with
  | tup sx ra =>
    cases ry with
    | tup sy rb =>
      refine ⟨_, _, _, _, rfl, rfl, sx.sq, sy.sq, by rw [← ra.len, ← rb.len]; exact sz, fun e => ?_, fun _ e => ?_, fun _ _ p e => k.ntup w q (ra.app rb) e⟩
      · subst e
        cases ra
        exact k.self w q (.tup sy rb)
      · subst e
        cases rb
        rw [List.append_nil] at q
        exact k.self w q (.tup sx ra)
theorem ok_add [Amb] : OpD K dAdd (rAddA K) := by
  intro h x y ω R vx vy H Q t w rx ry k
  unfold dAdd at t
  split at t
  · cases rx; cases ry; exact .inl ⟨_, _, rfl, rfl, k.self w t (.int _)⟩
  · cases rx; cases ry; exact .inr (.inl ⟨_, _, rfl, rfl, t.1, k.self w t.2 (.str _)⟩)
  · exact .inr (.inr (.inr (ok_addT w t.1 t.2 rx ry k)))
  · exact .inr (.inr (.inl (ok_addL w rfl rfl t.1 t.2 rx ry k)))
  · obtain ⟨xs, ys, ex, ey, sz, q⟩ := t
    exact .inr (.inr (.inl (ok_addL w ex ey sz q rx ry k)))

/-! ### the other operators on ints -/
def dI2 (C : Int → Int → Prop) (g : Int → Int → Int) : DO2 := fun x y ω Q => ∃ i j, x = .int i ∧ y = .int j ∧ C i j ∧ Q (.int (g i j)) ω
theorem ok_i2 [Amb] {C : Int → Int → Prop} {g : Int → Int → Int} : OpD K (dI2 C g) (rI C fun i j => .int (g i j)) := by
  intro h x y ω R vx vy H Q ⟨i, j, e1, e2, c, t⟩ w rx ry k
  subst e1 e2
  cases rx; cases ry
  exact ⟨i, j, rfl, rfl, c, k.self w t (.int _)⟩
def dI0 (g : Int → Int → Int) : DO2 := fun x y ω Q => ∃ i j, x = .int i ∧ y = .int j ∧ Q (.int (g i j)) ω
theorem ok_i0 [Amb] {g : Int → Int → Int} : OpD K (dI0 g) (rI0 fun i j => .int (g i j)) := by
  intro h x y ω R vx vy H Q ⟨i, j, e1, e2, t⟩ w rx ry k
  subst e1 e2
  cases rx; cases ry
  exact ⟨i, j, rfl, rfl, k.self w t (.int _)⟩
def dB0 (g : Int → Int → Bool) : DO2 := fun x y ω Q => ∃ i j, x = .int i ∧ y = .int j ∧ Q (.bl (g i j)) ω
theorem ok_b0 [Amb] {g : Int → Int → Bool} : OpD K (dB0 g) (rI0 fun i j => .bl (g i j)) := by
  intro h x y ω R vx vy H Q ⟨i, j, e1, e2, t⟩ w rx ry k
  subst e1 e2
  cases rx; cases ry
  exact ⟨i, j, rfl, rfl, k.self w t (.bl _)⟩
abbrev dSub : DO2 := dI0 fun i j => i - j
abbrev dMod : DO2 := dI2 (fun _ j => 0 < j) fun i j => i % j
abbrev dFdv : DO2 := dI2 CDivW fun i j => i / j
abbrev dPow : DO2 := dI2 CPow fun i j => i ^ j.toNat
def rMulL (K : PySem.W.Frag) : R2 := fun x y H Q => ∃ l k xs, x = .ref l ∧ y = .int k ∧ SqL K H l xs ∧ -(2 ^ 63) ≤ k ∧ k < 2 ^ 63 ∧ xs.length * k.toNat ≤ sizeLine ∧
  ∀ p, H p = none → Q (.ref p) (upd H p (.lst (List.replicate k.toNat xs).flatten))
theorem op_mulL [Amb] : OpR X (binaryOp .Mult) (rMulL X.K) := by
  intro pins s σ H x y v u Q I rx ry hh
  obtain ⟨l, k, xs, rfl, rfl, hl, lo, up, sz, q⟩ := hh
  cases rx
  obtain ⟨t, rfl⟩ := ry
  obtain ⟨is, r1, p1, _⟩ := I.list hl
  obtain ⟨⟨c1, d1, t1, l1⟩, n1, g1, hc1, _, hd1⟩ := p1
  simp only at hc1 hd1
  subst hc1 hd1
  have ln := r1.length
  have sz2 : is.toArray.size * k.toNat ≤ 2 ^ 24 := by
    have e : (2 : Nat) ^ 24 = sizeLine := by decide
    rw [List.size_toArray, ← ln, e]
    exact sz
  refine wpAny_binaryOp_repeat_ref (T := "list") (U := "int") (by decide) ⟨_, g1, rfl⟩ (fun s' => typeIs_int s' k t) noFill_list_mul F.fills_int_mul
    F.slot_int_rmul repeat_list F.slot_int_index.lookup (call_meets F.slot_int_rmul (typeIs_int s k t) F.entry_int_rmul (F.args_int_rmul_2 _ _) (lm_int_rmul_list_any k t l is.toArray n1 d1 l1)
      ⟨g1, rfl, ⟨_, g1, rfl⟩, call_meets F.slot_list_mul ⟨_, g1, rfl⟩ F.entry_list_mul (F.args_list_mul_2 _ _)
        (lm_list_mul_any l is.toArray n1 d1 l1 k t (by simp [Builtin.List.listFitsIndex]; omega) (by omega) (by simp [Builtin.List.listTooLong, sizeLine]; omega)) ⟨g1, ?_⟩⟩)
  rw [PyProof.Rows.listMul_foldl_if]
  exact ⟨.ref _, _, I.lnew (t' := s.toks) (r1.rep k.toNat) (by rw [PyProof.Rows.lm_len_rep_flat, Nat.mul_comm]; exact sz), rfl, q _ I.fresh⟩
/-- * : ints, a list or a tuple times an int -/
def dMul : DO2 := fun x y ω Q => match x, y with
  | .int i, .int j => CMul i j ∧ Q (.int (i * j)) ω
  | .lst xs, .int k => -(2 ^ 63) ≤ k ∧ k < 2 ^ 63 ∧ xs.length * k.toNat ≤ sizeLine ∧ Q (.lst (List.replicate k.toNat xs).flatten) ω
  | .tup xs, .int k => xs ≠ [] ∧ 2 ≤ k ∧ k ≤ 1000 ∧ xs.length ≤ 1000 ∧ Q (.tup (List.replicate k.toNat xs).flatten) ω
  | _, _ => False
def rMulA (K : PySem.W.Frag) : R2 := fun x y H Q => rI CMul (fun i j => .int (i * j)) x y H Q ∨ rRepT K x y H Q ∨ rMulL K x y H Q
theorem op_mulA : OpR X (binaryOp .Mult) (rMulA X.K) := op_mul.or (op_repT.or op_mulL)
theorem ok_mul [Amb] : OpD K dMul (rMulA K) := by
  intro h x y ω R vx vy H Q t w rx ry k
  unfold dMul at t
  split at t
  · cases rx; cases ry; exact .inl ⟨_, _, rfl, rfl, t.1, k.self w t.2 (.int _)⟩
  · obtain ⟨k2, k3, l, q⟩ := t
    cases ry
    cases rx with
    | lst s ra => exact .inr (.inr ⟨_, _, _, rfl, rfl, s.sq, k2, k3, by rw [← ra.len]; exact l, fun p e => k.nlst w q (ra.rep _) e⟩)
  · obtain ⟨n, k2, k3, l, q⟩ := t
    cases ry
    cases rx with
    | tup s ra =>
      refine .inr (.inl ⟨_, _, _, rfl, rfl, s.sq, fun e => n ?_, k2, k3, by rw [← ra.len]; exact l, fun p e => k.ntup w q (ra.rep _) e⟩)
      subst e
      cases ra
      rfl
  · exact t.elim
theorem ok_neg [Amb] : UnD K (fun x ω Q => ∃ i, x = .int i ∧ Q (.int (-i)) ω) (rU fun i => .int (-i)) := by
  intro h x ω R vx H Q ⟨i, e, t⟩ w rx k
  subst e
  cases rx
  exact ⟨i, rfl, k.self w t (.int _)⟩

/-! ### == and != -/
def eqS : D → D → Option Bool
  | .int i, .int j => some (decide (i = j))
  | .str s, .str t => some (decide (s = t))
  | .bl a, .bl b => some (decide (a = b))
  | .non, .non => some true
  | .non, .int _ => some false
  | .int _, .non => some false
  | .non, .str _ => some false
  | .str _, .non => some false
  | .int _, .str _ => some false
  | .str _, .int _ => some false
  | _, _ => none
def eqD (x y : D) : Prop := x.flat = true ∧ y.flat = true ∧ SeqAt.shaped x.py = true ∧ SeqAt.shaped y.py = true
def dEq (neg : Bool) : DO2 := fun x y ω Q => match eqS x y with
  | some b => Q (.bl (if neg then !b else b)) ω
  | none => eqD x y ∧ Q (.bl (if neg then !PyData.eqv x.py y.py else PyData.eqv x.py y.py)) ω
def rEqA (K : PySem.W.Frag) : R2 := fun x y H Q => rEq x y H Q ∨ rEqD K x y H Q
def rNeA (K : PySem.W.Frag) : R2 := fun x y H Q => rNe x y H Q ∨ rNeD K x y H Q
theorem op_eqA (hu : X.A.units + 64 < cLine) : OpR X (compareOp .Eq) (rEqA X.K) := op_eq.or (op_eqD hu)
theorem op_neA (hu : X.A.units + 64 < cLine) : OpR X (compareOp .NotEq) (rNeA X.K) := op_ne.or (op_neD hu)
theorem eqS_ok {x y : D} {b : Bool} {vx vy : V} (e : eqS x y = some b) (rx : Rp K f H x vx) (ry : Rp K f H y vy) : scal vx vy = true ∧ decide (vx = vy) = b := by
  unfold eqS at e
  split at e <;> cases e <;> cases rx <;> cases ry <;> refine ⟨rfl, ?_⟩ <;> simp
theorem ok_eq [Amb] : OpD K (dEq false) (rEqA K) := by
  intro h x y ω R vx vy H Q t w rx ry k
  unfold dEq at t
  split at t
  · rename_i b e
    obtain ⟨s, e2⟩ := eqS_ok e rx ry
    refine .inl ⟨s, ?_⟩
    rw [e2]
    exact k.self w t (.bl b)
  · obtain ⟨⟨f1, f2, s1, s2⟩, q⟩ := t
    exact .inr ⟨_, _, Rp.dp _ f1 rx, Rp.dp _ f2 ry, s1, s2, k.self w q (.bl _)⟩
theorem ok_ne [Amb] : OpD K (dEq true) (rNeA K) := by
  intro h x y ω R vx vy H Q t w rx ry k
  unfold dEq at t
  split at t
  · rename_i b e
    obtain ⟨s, e2⟩ := eqS_ok e rx ry
    refine .inl ⟨s, ?_⟩
    rw [e2]
    exact k.self w t (.bl (!b))
  · obtain ⟨⟨f1, f2, s1, s2⟩, q⟩ := t
    exact .inr ⟨_, _, Rp.dp _ f1 rx, Rp.dp _ f2 ry, s1, s2, k.self w q (.bl _)⟩
def isNonD : D → Bool
  | .non => true
  | .raw .non => true
  | _ => false
def dIsN (neg : Bool) : DO2 := fun x y ω Q => y = .non ∧ Q (.bl (if neg then !isNonD x else isNonD x)) ω
theorem isNon_ok {x : D} {v : V} (r : Rp K f H x v) : decide (v = .non) = isNonD x := by
  cases r with
  | raw v => cases v <;> rfl
  | _ => rfl
theorem ok_isN [Amb] : OpD K (dIsN false) (fun x y H Q => y = .non ∧ Q (.bl (decide (x = .non))) H) := by
  intro h x y ω R vx vy H Q ⟨e, t⟩ w rx ry k
  subst e
  cases ry
  refine ⟨rfl, ?_⟩
  rw [isNon_ok rx]
  exact k.self w t (.bl _)
theorem ok_notN [Amb] : OpD K (dIsN true) (fun x y H Q => y = .non ∧ Q (.bl (!decide (x = .non))) H) := by
  intro h x y ω R vx vy H Q ⟨e, t⟩ w rx ry k
  subst e
  cases ry
  refine ⟨rfl, ?_⟩
  rw [isNon_ok rx]
  exact k.self w t (.bl _)
end
end DL

/-! DP: subscripts, slices, len, tuple, list, isinstance, repr, str, int .. over plain data. -/
namespace DL
open PySem PySem.Spec L2
section
variable {K : PySem.W.Frag} {X : Cx} {f h : Fp} {H H' : Hp} {ω ω' : Om} {a b c e : Expr} {pos p p2 : Pos} {Ta Tb Tc : TD} {T : TAD} {es : List Expr}

theorem RpAll.atI {ds : List D} {vs : List V} {i : Int} {d : D} (r : RpAll K f H ds vs) (e : L2.atI ds i = some d) : ∃ v, L2.atI vs i = some v ∧ Rp K f H d v := by
  unfold L2.atI at e ⊢
  rw [r.len] at e
  cases z : ixN vs.length i with
  | none => rw [z] at e; cases e
  | some j =>
    rw [z] at e
    exact r.get e
/-- x[i] of a list, a tuple -/
def dIx : DO2 := fun x y ω Q => ∃ i xs d, y = .int i ∧ (x = .tup xs ∨ lstOf ω x = some xs) ∧ L2.atI xs i = some d ∧ Q d ω
theorem ok_ix [Amb] : OpD K dIx (fun x y H Q => rIxL K x y H Q ∨ rIxT K x y H Q) := by
  intro h x y ω R vx vy H Q ⟨i, xs, d, e1, e2, e3, q⟩ w rx ry k
  subst e1
  cases ry
  rcases e2 with e2 | e2
  · subst e2
    cases rx with
    | tup s ra =>
      obtain ⟨v, ev, rv⟩ := ra.atI e3
      exact .inr ⟨_, _, i, v, rfl, rfl, s.sq, ev, k.self w q rv⟩
  · obtain ⟨a, vs, rfl, sx, ra⟩ := lstOf_sq w e2 rx
    obtain ⟨v, ev, rv⟩ := ra.atI e3
    exact .inl ⟨_, _, i, v, rfl, rfl, sx, ev, k.self w q rv⟩
theorem de_ix [Amb] (ha : DE X a Ta) (hb : DE X b Tb) (hs : PlainIx b) : DE X (.Subscript a b pos) (dBin dIx Ta Tb) :=
  PE.weak (pe_ix (ix_list.or ix_tup) ha hb hs) fun _ _ _ => up_bin ok_ix

/-! ### slices -/
abbrev TOD := Rho → Om → (Option Int → Om → Prop) → Prop
def upO [Amb] (K : PySem.W.Frag) (T : TOD) : TO := fun σ H Q => ∃ h ρ ω R, Sl K (fre ω h) H σ ρ ∧ Wd K h H ω ∧ T ρ ω R ∧ ∀ o ω' H', R o ω' → Fr H ω H' ω' → Wd K h H' ω' → Q o H'
abbrev DOp [Amb] (X : Cx) (e : Option Expr) (T : TOD) : Prop := PO X e (upO X.K T)
theorem PO.weak {X : Cx} {e : Option Expr} {t u : TO} (p : PO X e t) (w : ∀ σ H Q, u σ H Q → t σ H Q) : PO X e u := ⟨fun pins s σ H Q I q => p.run pins s σ H Q I (w σ H Q q)⟩
def dNoP : TOD := fun _ ω Q => Q none ω
def dPart (Ta : TD) : TOD := fun ρ ω Q => Ta ρ ω fun x ω1 => ∃ i, x = .int i ∧ Q (some i) ω1
theorem do_none [Amb] : DOp X none dNoP := PO.weak po_none fun _ _ _ ⟨_, _, _, _, _, w, q, k⟩ => k none _ _ q Fr.refl w
theorem do_some [Amb] (ha : DE X a Ta) : DOp X (some a) (dPart Ta) := by
  refine PO.weak (po_some ha) fun σ H Q ⟨h, ρ, ω, R, sl, w, t, k⟩ => ?_
  refine ⟨h, ρ, ω, _, sl, w, t, fun x ω1 v H1 t1 f1 w1 r => ?_⟩
  obtain ⟨i, e, q⟩ := t1
  subst e
  cases r
  exact ⟨i, rfl, k _ _ _ q f1 w1⟩
def cutD {α : Type} (xs : List α) (lo hi : Option Int) : List α := (xs.drop (HT.sIx xs.length 0 lo)).take (HT.sIx xs.length xs.length hi - HT.sIx xs.length 0 lo)
theorem RpAll.cut {ds : List D} {vs : List V} (r : RpAll K f H ds vs) (lo hi : Option Int) : RpAll K f H (cutD ds lo hi) (cutV vs lo hi) := by
  unfold cutD cutV
  rw [r.len]
  exact (r.drop _).take _
def dSl (Te : TD) (Tl Th : TOD) : TD := fun ρ ω Q => Te ρ ω fun x ω1 => Tl ρ ω1 fun lo ω2 => Th ρ ω2 fun hi ω3 => (∃ xs, x = .tup xs ∧ Q (.tup (cutD xs lo hi)) ω3) ∨ ∃ xs, lstOf ω3 x = some xs ∧ Q (.lst (cutD xs lo hi)) ω3
theorem cut_whole {α : Type} {xs : List α} {lo hi : Option Int} (e : HT.sIx xs.length 0 lo = 0 ∧ HT.sIx xs.length xs.length hi = xs.length) : cutD xs lo hi = xs := by
  unfold cutD
  rw [e.1, e.2, List.drop_zero, Nat.sub_zero, List.take_length]
theorem de_sl [Amb] {lo hi : Option Expr} {Tl Th : TOD} (ha : DE X a Ta) (hl : DOp X lo Tl) (hh : DOp X hi Th) : DE X (.Subscript a (.Slice lo hi none p2) pos) (dSl Ta Tl Th) := by
  refine PE.weak (pe_slice (sl_list.or sl_tupA) ha hl hh) fun σ H Q ⟨h, ρ, ω, R, sl, w, t, k⟩ => ?_
  refine ⟨h, ρ, ω, _, sl, w, t, fun x ω1 v H1 t1 f1 w1 r1 => ?_⟩
  refine ⟨h, ρ, ω1, _, sl.keep f1.kp, w1, t1, fun l ω2 H2 t2 f2 w2 => ?_⟩
  refine ⟨h, ρ, ω2, _, sl.keep (f1.trans f2).kp, w2, t2, fun u ω3 H3 t3 f3 w3 => ?_⟩
  have kk := k.go (f1.trans (f2.trans f3))
  have r3 := r1.keep (f2.trans f3).kp
  rcases t3 with ⟨xs, e, q⟩ | ⟨xs, e, q⟩
  · subst e
    cases r3 with
    | tup s ra =>
      refine .inr ⟨_, _, rfl, s.sq, fun z => ?_, fun _ p e => kk.ntup w3 q (ra.cut l u) e⟩
      rw [← ra.len] at z
      rw [cut_whole z] at q
      exact kk.self w3 q (.tup s ra)
  · obtain ⟨a, vs, rfl, sx, ra⟩ := lstOf_sq w3 e r3
    exact .inl ⟨a, vs, rfl, sx, fun p e => kk.nlst w3 q (ra.cut l u) e⟩

/-! ### len, tuple, list -/
def dLen : DOn := fun xs ω Q => ∃ x, xs = [x] ∧ ((∃ ys, (x = .tup ys ∨ lstOf ω x = some ys) ∧ Q (.int ys.length) ω) ∨ ∃ z, x = .str z ∧ z.length ≤ sizeLine ∧ Q (.int z.length) ω)
theorem RpAll.one {d : D} {vs : List V} (r : RpAll K f H [d] vs) : ∃ v, vs = [v] ∧ Rp K f H d v := by
  cases r with
  | cons r t => cases t; exact ⟨_, rfl, r⟩
theorem RpAll.two {d e : D} {vs : List V} (r : RpAll K f H [d, e] vs) : ∃ v u, vs = [v, u] ∧ Rp K f H d v ∧ Rp K f H e u := by
  cases r with
  | cons r t =>
    obtain ⟨u, rfl, r2⟩ := t.one
    exact ⟨_, u, rfl, r, r2⟩
theorem ok_len [Amb] : CallD K dLen (fun xs H Q => ∃ x n, xs = [x] ∧ LenV K x H n ∧ Q (.int n) H) := by
  intro h xs ω R vs H Q ⟨x, e, t⟩ w r k
  subst e
  obtain ⟨v, rfl, rv⟩ := r.one
  rcases t with ⟨ys, e | e, q⟩ | ⟨z, e, l, q⟩
  · subst e
    cases rv with
    | tup s ra => exact ⟨_, _, rfl, .inr ⟨_, s.sq, by rw [← ra.len]⟩, k.self w q (.int _)⟩
  · obtain ⟨a, vs, rfl, sx, ra⟩ := lstOf_sq w e rv
    exact ⟨_, _, rfl, .inl ⟨_, sx, by rw [← ra.len]⟩, k.self w q (.int _)⟩
  · subst e
    cases rv
    exact ⟨_, _, rfl, ⟨l, rfl⟩, k.self w q (.int _)⟩
def dTupOf : DOn := fun xs ω Q => ∃ x ys, xs = [x] ∧ (x = .tup ys ∨ lstOf ω x = some ys) ∧ Q (.tup ys) ω
def dLstOf : DOn := fun xs ω Q => ∃ x ys, xs = [x] ∧ (x = .tup ys ∨ lstOf ω x = some ys) ∧ Q (.lst ys) ω
def dTupRg (T : TAD) : TD := fun ρ ω Q => T ρ ω fun xs ω1 => ∃ n, xs = [.int n] ∧ RgOk 0 n ∧ Q (.tup (rngD 0 n.toNat)) ω1

/-! ### isinstance of built-in types -/
def tyN : D → Option String
  | .non => some "NoneType"
  | .bl _ => some "bool"
  | .int _ => some "int"
  | .str _ => some "str"
  | .lst _ => some "list"
  | .tup _ => some "tuple"
  | .dic _ => some "dict"
  | .obj _ _ => none
  | .raw _ => none
/-- a value of the first type is an instance of the second -/
def isN (t n : String) : Bool := t == n || n == "object" || (t == "bool" && n == "int")
def knownT : List String := ["NoneType", "bool", "int", "str", "list", "tuple", "dict"]
theorem kit_all : (knownT.all fun t => ["bool", "int", "str", "list", "tuple", "dict"].all fun n => kitB t n == some (isN t n)) = true := by decide +kernel
theorem kit_of2 {t n : String} (ht : t ∈ knownT) (hn : n ∈ ["bool", "int", "str", "list", "tuple", "dict"]) : kitB t n = some (isN t n) := by
  have z := List.all_eq_true.mp (List.all_eq_true.mp kit_all t ht) n hn
  exact eq_of_beq z
def dIsi : DOn := fun xs ω Q => ∃ x n t, xs = [x, .raw (.ty n)] ∧ n ∈ ["bool", "int", "str", "list", "tuple", "dict"] ∧ tyN x = some t ∧ Q (.bl (isN t n)) ω
theorem sl_ty {a : Addr} {vs : List V} (s : SL K f H a vs) : TyX K H (.ref a) (.type "list") := by
  rcases s with ⟨_, r | ⟨o, r⟩⟩ | (⟨r | ⟨_, r⟩⟩ | ⟨o, its, n, hl, hc, _⟩)
  · exact .base (.lst r)
  · exact .base (.frz r)
  · cases r
  · cases r
  · exact .kList hl hc
theorem st_ty {a : Addr} {vs : List V} (s : ST K f H a vs) : TyX K H (.ref a) (.type "tuple") := by
  exact .base (.tup s.2)
theorem ty_ok {x : D} {v : V} {t : String} (e : tyN x = some t) (r : Rp K f H x v) : t ∈ knownT ∧ TyX K H v (.type t) := by
  cases r <;> cases e <;> refine ⟨by decide, ?_⟩
  · exact .base .non
  · exact .base (.bl _)
  · exact .base (.int _)
  · exact .base (.str _)
  · exact sl_ty ‹_›
  · exact st_ty ‹_›
  · exact .base (.dK ‹_›)
theorem ok_isi [Amb] : CallD K dIsi (rIsi K) := by
  intro h xs ω R vs H Q ⟨x, n, t, e, hn, et, q⟩ w r k
  subst e
  obtain ⟨v, u, rfl, r1, r2⟩ := r.two
  cases r2
  obtain ⟨kt, ty⟩ := ty_ok et r1
  exact ⟨v, _, _, _, _, rfl, .ty n, ty, kit_ty (kit_of2 kt hn), k.self w q (.bl _)⟩

/-! ### small built-ins -/
def dInt1 : DOn := fun xs ω Q => (∃ i, xs = [.int i] ∧ Q (.int i) ω) ∨ ∃ b, xs = [.bl b] ∧ Q (.int (if b then 1 else 0)) ω
def dStr1 : DOn := fun xs ω Q => ∃ i, xs = [.int i] ∧ i.natAbs.log2 < 1920 ∧ Q (.str (toString i)) ω
def dAbs : DOn := fun xs ω Q => ∃ i, xs = [.int i] ∧ Q (.int (if i < 0 then -i else i)) ω
theorem ok_abs [Amb] : CallD K dAbs (fun xs H Q => ∃ i, xs = [.int i] ∧ Q (.int (if i < 0 then -i else i)) H) := by
  intro h xs ω R vs H Q ⟨i, e, q⟩ w r k
  subst e
  obtain ⟨v, rfl, rv⟩ := r.one
  cases rv
  exact ⟨i, rfl, k.self w q (.int _)⟩
def dII (g : Int → Int → Int) : DOn := fun xs ω Q => ∃ i j, xs = [.int i, .int j] ∧ Q (.int (g i j)) ω
theorem ok_ii [Amb] {g : Int → Int → Int} : CallD K (dII g) (fun xs H Q => ∃ i j, xs = [.int i, .int j] ∧ Q (.int (g i j)) H) := by
  intro h xs ω R vs H Q ⟨i, j, e, q⟩ w r k
  subst e
  obtain ⟨v, u, rfl, r1, r2⟩ := r.two
  cases r1; cases r2
  exact ⟨i, j, rfl, k.self w q (.int _)⟩
abbrev dMax2 : DOn := dII fun i j => if j > i then j else i
abbrev dMin2 : DOn := dII fun i j => if j < i then j else i
def dSum : DOn := fun xs ω Q => ∃ (x : D) (ns : List Int), xs = [x] ∧ lstOf ω x = some (ns.map D.int) ∧ Q (.int ns.sum) ω
theorem ok_sum [Amb] : CallD K dSum (rSum K) := by
  intro h xs ω R vs H Q ⟨x, ns, e, t, q⟩ w r k
  subst e
  obtain ⟨v, rfl, rv⟩ := r.one
  obtain ⟨a, vs, rfl, sx, ra⟩ := lstOf_sq w t rv
  have z := ra.ints
  subst z
  exact ⟨a, ns, rfl, sx, k.self w q (.int _)⟩
end
end DL

/-! DQ: repr of data in which each dict stands elsewhere than sys.modules (lists may stand anywhere). -/
namespace PySem
mutual
inductive Rs (h : Heap) : Value → PyData → Prop
  | none : Rs h .none .none
  | bool (b) : Rs h (.bool b) (.bool b)
  | int (i t) : Rs h (.int i t) (.int i)
  | str (x t) : Rs h (.str x t) (.str x)
  | list {a o vs n xs} : h.get? a = some o → o.cls = .type "list" → o.data = .seq vs n → RsAll h vs.toList xs → Rs h (.ref a) (.list xs)
  | tuple {a o vs n xs} : h.get? a = some o → o.cls = .type "tuple" → o.data = .seq vs n → RsAll h vs.toList xs → Rs h (.ref a) (.tuple xs)
  | dict {a o es n kvs} : h.get? a = some o → o.cls = .type "dict" → o.data = .dict es n → a ≠ sysModules → RsAll h (es.toList.map (·.key)) (kvs.map (·.1)) → RsAll h (es.toList.map (·.val)) (kvs.map (·.2)) → Rs h (.ref a) (.dict kvs)
inductive RsAll (h : Heap) : List Value → List PyData → Prop
  | nil : RsAll h [] []
  | cons {v vs d ds} : Rs h v d → RsAll h vs ds → RsAll h (v :: vs) (d :: ds)
end
section
variable {prog : Program} {w : World} {h₀ : Heap}
mutual
theorem Rs.reads : ∀ {v : Value} {d : PyData}, Rs h₀ v d → ∃ as, Reads h₀ v d as
  | _, _, .none => ⟨_, .none⟩
  | _, _, .bool b => ⟨_, .bool b⟩
  | _, _, .int i t => ⟨_, .int i t⟩
  | _, _, .str x t => ⟨_, .str x t⟩
  | _, _, .list a b c r => let ⟨_, q⟩ := r.readsAll; ⟨_, .list a b c q⟩
  | _, _, .tuple a b c r => let ⟨_, q⟩ := r.readsAll; ⟨_, .tuple a b c q⟩
  | _, _, .dict a b c _ r t => let ⟨_, q⟩ := r.readsAll; let ⟨_, q'⟩ := t.readsAll; ⟨_, .dict a b c q q'⟩
theorem RsAll.readsAll : ∀ {vs : List Value} {ds : List PyData}, RsAll h₀ vs ds → ∃ as, ReadsAll h₀ vs ds as
  | _, _, .nil => ⟨_, .nil⟩
  | _, _, .cons r t => let ⟨_, q⟩ := r.reads; let ⟨_, q'⟩ := t.readsAll; ⟨_, .cons q q'⟩
end
theorem kv_keys (kvs : List (PyData × PyData)) (hz : (dictText (PyData.shownKv kvs)).length ≤ sizeLine) : ∀ t ∈ PyData.shownAll (kvs.map (·.1)), t.length ≤ sizeLine := fun t ht =>
  let ⟨_, hp, l⟩ := PyData.shownKv_key_le kvs t ht
  Nat.le_trans l (Nat.le_trans (dictText_mem_le hp) hz)
theorem kv_vals (kvs : List (PyData × PyData)) (hz : (dictText (PyData.shownKv kvs)).length ≤ sizeLine) : ∀ t ∈ PyData.shownAll (kvs.map (·.2)), t.length ≤ sizeLine := fun t ht =>
  let ⟨_, hp, l⟩ := PyData.shownKv_val_le kvs t ht
  Nat.le_trans l (Nat.le_trans (dictText_mem_le hp) hz)
mutual
theorem Rs.k : ∀ {v : Value} {d : PyData}, Rs h₀ v d → d.showable = true → d.shown.length ≤ sizeLine → ∃ bs, ReadAtMost h₀ d.depth bs ∧ ReprK prog w bs h₀ d.depth v d.shown
  | _, _, .none, _, _ => ⟨[], fun _ z => (nomatch z), by simp only [PyData.shown]; exact .of_is ReprIs.none _ _ _⟩
  | _, _, .bool b, _, _ => ⟨[], fun _ z => (nomatch z), by simp only [PyData.shown]; exact .of_is (ReprIs.bool b) _ _ _⟩
  | _, _, .int i t, s, _ => ⟨[], fun _ z => (nomatch z), by simp only [PyData.shown]; exact .of_is (ReprIs.int t (by simpa [PyData.showable] using s)) _ _ _⟩
  | _, _, .str x t, _, z => ⟨[], fun _ z => (nomatch z), by simp only [PyData.shown]; exact .of_is (ReprIs.str x t (by simpa only [PyData.shown] using z)) _ _ _⟩
  | _, _, .list (a := a) (vs := vs) (xs := xs) e1 e2 e3 rr, s, z => by
    have z' : (listText (PyData.shownAll xs)).length ≤ sizeLine := by simpa only [PyData.shown] using z
    obtain ⟨bs, hb, k⟩ := RsAll.k rr (by simpa [PyData.showable] using s) fun t ht => Nat.le_trans (listText_mem_le ht) z'
    obtain ⟨as, q⟩ := rr.readsAll
    have r : Reads h₀ (.ref a) (.list xs) _ := .list e1 e2 e3 q
    have na : a ∉ bs := not_mem_of_deeper r (by simp only [PyData.depth]; omega) hb
    refine ⟨a :: bs, hb.cons r (by simp only [PyData.depth]; omega), ?_⟩
    simp only [PyData.depth, PyData.shown]
    obtain ⟨l⟩ := vs
    cases l with
    | nil =>
      have rr' : RsAll h₀ [] xs := rr
      cases rr'
      simp only [PyData.shownAll, listText_nil]
      exact .listEmpty e1 e2 e3
    | cons x l => exact .list e1 e2 e3 na (by simpa using k.length_eq) fun i y e => k.item i y (by simpa using e)
  | _, _, .tuple (a := a) (xs := xs) e1 e2 e3 rr, s, z => by
    have z' : (tupleText (PyData.shownAll xs)).length ≤ sizeLine := by simpa only [PyData.shown] using z
    obtain ⟨bs, hb, k⟩ := RsAll.k rr (by simpa [PyData.showable] using s) fun t ht => Nat.le_trans (tupleText_mem_le ht) z'
    obtain ⟨as, q⟩ := rr.readsAll
    have r : Reads h₀ (.ref a) (.tuple xs) _ := .tuple e1 e2 e3 q
    have na : a ∉ bs := not_mem_of_deeper r (by simp only [PyData.depth]; omega) hb
    refine ⟨a :: bs, hb.cons r (by simp only [PyData.depth]; omega), ?_⟩
    simp only [PyData.depth, PyData.shown]
    exact .tuple e1 e2 e3 na k
  | _, _, .dict (a := a) (es := es) (kvs := kvs) e1 e2 e3 ne r1 r2, s, z => by
    have z' : (dictText (PyData.shownKv kvs)).length ≤ sizeLine := by simpa only [PyData.shown] using z
    obtain ⟨s1, s2⟩ := PyData.showableKv_split kvs (by simpa [PyData.showable] using s)
    obtain ⟨b1, hb1, k1⟩ := RsAll.k r1 s1 (kv_keys kvs z')
    obtain ⟨b2, hb2, k2⟩ := RsAll.k r2 s2 (kv_vals kvs z')
    obtain ⟨as, q1⟩ := r1.readsAll
    obtain ⟨bs, q2⟩ := r2.readsAll
    have r : Reads h₀ (.ref a) (.dict kvs) _ := .dict e1 e2 e3 q1 q2
    have hb : ReadAtMost h₀ (PyData.depthKv kvs) (b1 ++ b2) :=
      (hb1.mono (PyData.depthAll_keys_le kvs)).append (hb2.mono (PyData.depthAll_vals_le kvs))
    have na : a ∉ b1 ++ b2 := not_mem_of_deeper r (by simp only [PyData.depth]; omega) hb
    refine ⟨a :: (b1 ++ b2), hb.cons r (by simp only [PyData.depth]; omega), ?_⟩
    simp only [PyData.depth, PyData.shown, PyData.shownKv_eq]
    exact .dict e1 e2 e3 (beq_eq_false_iff_ne.mpr ne) na (.of_two es.toList _ _
      (k1.more_le (fun _ => List.mem_append_left _) (PyData.depthAll_keys_le kvs)) (k2.more_le (fun _ => List.mem_append_right _) (PyData.depthAll_vals_le kvs)))
theorem RsAll.k : ∀ {vs : List Value} {ds : List PyData}, RsAll h₀ vs ds → PyData.showableAll ds = true → (∀ t ∈ PyData.shownAll ds, t.length ≤ sizeLine) →
    ∃ bs, ReadAtMost h₀ (PyData.depthAll ds) bs ∧ ReprAllK prog w bs h₀ (PyData.depthAll ds) vs (PyData.shownAll ds)
  | _, _, .nil, _, _ => ⟨[], fun _ z => (nomatch z), by simp only [PyData.shownAll]; exact .nil⟩
  | _, _, .cons (d := d) (ds := ds) r t, s, z => by
    have s' : d.showable = true ∧ PyData.showableAll ds = true := by simpa [PyData.showableAll] using s
    obtain ⟨b1, hb1, k1⟩ := Rs.k r s'.1 (z _ (by simp only [PyData.shownAll]; exact List.mem_cons_self ..))
    obtain ⟨b2, hb2, k2⟩ := RsAll.k t s'.2 fun u hu => z u (by simp only [PyData.shownAll]; exact List.mem_cons_of_mem _ hu)
    simp only [PyData.depthAll, PyData.shownAll]
    exact ⟨b1 ++ b2, (hb1.mono (Nat.le_max_left _ _)).append (hb2.mono (Nat.le_max_right _ _)),
      .cons ((k1.more fun _ => List.mem_append_left _).level_le (Nat.le_max_left _ _)) (k2.more_le (fun _ => List.mem_append_right _) (Nat.le_max_right _ _))⟩
end
theorem shows_rs {a : Addr} {d : PyData} (R : Rs h₀ (.ref a) d) (s : d.showable = true) (z : d.shown.length ≤ sizeLine) : ∃ T idr, ShowsBy prog w h₀ a d T idr := by
  obtain ⟨_, r0⟩ := R.reads
  cases R with
  | list e1 e2 e3 rr =>
    rename_i o vs n xs
    have z' : (listText (PyData.shownAll xs)).length ≤ sizeLine := by simpa only [PyData.shown] using z
    obtain ⟨bs, hb, k⟩ := RsAll.k (prog := prog) (w := w) rr (by simpa [PyData.showable] using s) fun t ht => Nat.le_trans (listText_mem_le ht) z'
    have na : a ∉ bs := not_mem_of_deeper r0 (by simp only [PyData.depth]; omega) hb
    refine ⟨"list", "list.__repr__", F.slot_list_repr.toG, F.slot_list_str, F.slot_list_format, fun s kp => ⟨o, kp _ _ e1, e2⟩, fun A E s Q gd hu kp hq => ?_⟩
    simp only [PyData.depth] at hu
    simp only [PyData.shown] at hq
    obtain ⟨l⟩ := vs
    cases l with
    | nil =>
      have rr' : RsAll h₀ [] xs := rr
      cases rr'
      simp only [PyData.shownAll, listText_nil] at hq
      exact call_list_repr_empty ⟨o, kp _ _ e1, e2⟩ (kp _ _ e1) e3 (hq _ _ _ fun _ _ e => e)
    | cons x l =>
      exact call_list_reprK e1 e2 e3 na (by simpa using k.length_eq) (fun i y e => k.item i y (by simpa using e)) gd (fun b _ => Clear.nil b) hu kp hq z'
  | tuple e1 e2 e3 rr =>
    rename_i o vs n xs
    have z' : (tupleText (PyData.shownAll xs)).length ≤ sizeLine := by simpa only [PyData.shown] using z
    obtain ⟨bs, hb, k⟩ := RsAll.k (prog := prog) (w := w) rr (by simpa [PyData.showable] using s) fun t ht => Nat.le_trans (tupleText_mem_le ht) z'
    have na : a ∉ bs := not_mem_of_deeper r0 (by simp only [PyData.depth]; omega) hb
    refine ⟨"tuple", "tuple.__repr__", F.slot_tuple_repr, F.slot_tuple_str, F.slot_tuple_format, fun s kp => ⟨o, kp _ _ e1, e2⟩, fun A E s Q gd hu kp hq => ?_⟩
    simp only [PyData.depth] at hu
    simp only [PyData.shown] at hq
    exact call_tuple_reprK e1 e2 e3 na k gd (fun b _ => Clear.nil b) hu kp hq z'
  | dict e1 e2 e3 ne r1 r2 =>
    rename_i o es n kvs
    have z' : (dictText (PyData.shownKv kvs)).length ≤ sizeLine := by simpa only [PyData.shown] using z
    obtain ⟨s1, s2⟩ := PyData.showableKv_split kvs (by simpa [PyData.showable] using s)
    obtain ⟨b1, hb1, k1⟩ := RsAll.k (prog := prog) (w := w) r1 s1 (kv_keys kvs z')
    obtain ⟨b2, hb2, k2⟩ := RsAll.k (prog := prog) (w := w) r2 s2 (kv_vals kvs z')
    have hb : ReadAtMost h₀ (PyData.depthKv kvs) (b1 ++ b2) :=
      (hb1.mono (PyData.depthAll_keys_le kvs)).append (hb2.mono (PyData.depthAll_vals_le kvs))
    have na : a ∉ b1 ++ b2 := not_mem_of_deeper r0 (by simp only [PyData.depth]; omega) hb
    refine ⟨"dict", "dict.__repr__", F.slot_dict_repr, F.slot_dict_str, F.slot_dict_format, fun s kp => ⟨o, kp _ _ e1, e2⟩, fun A E s Q gd hu kp hq => ?_⟩
    simp only [PyData.depth] at hu
    simp only [PyData.shown, PyData.shownKv_eq] at hq
    exact call_dict_reprK e1 e2 e3 (beq_eq_false_iff_ne.mpr ne) na (.of_two es.toList _ _
      (k1.more_le (fun _ => List.mem_append_left _) (PyData.depthAll_keys_le kvs)) (k2.more_le (fun _ => List.mem_append_right _) (PyData.depthAll_vals_le kvs))) gd (fun b _ => Clear.nil b) hu kp hq
      (by rw [← PyData.shownKv_eq]; exact z')
theorem repr_rs {A : Around} {E : Value → Shared → Prop} {s : Shared} {Q : Value → Shared → Prop} {a : Addr} {d : PyData} (R : Rs h₀ (.ref a) d) (sh : d.showable = true) (gd : A.guards = some []) (hu : A.units + (d.depth + 1) < cLine)
    (kp : ∀ b o, h₀.get? b = some o → s.heap.get? b = some o) (hq : ∀ h' u tk, (∀ b o, s.heap.get? b = some o → h'.get? b = some o) → Q (.str d.shown u) { s with heap := h', toks := tk })
    (z : d.shown.length ≤ sizeLine) : wpAny (model prog w) A (call (.builtin "repr") [.ref a]) Q E s := by
  obtain ⟨T, idr, S⟩ := shows_rs (prog := prog) (w := w) R sh z
  exact call_repr_slot (by omega) (S.typeIs s kp) S.slotRepr
    (S.call A.in1 E s _ gd (by show A.units + 1 + d.depth < cLine; omega) kp fun h' u tk hk => ⟨_, _, rfl, hq h' u tk hk⟩)
end
end PySem

/-! DR: repr over plain data. -/
namespace DL
open PySem PySem.Spec L2
section
variable {X : Cx} {f : Fp} {H : Hp} {σ : L2.St} {s : Shared} {pins : List (Addr × Obj)}
def pyK : Key → PyData
  | .inl i => .int i
  | .inr s => .str s
theorem pyKv_1 : ∀ kvs : List (Key × D), (pyKv kvs).map (·.1) = kvs.map fun p => pyK p.1
  | [] => by simp [pyKv]
  | (.inl i, v) :: r => by simp only [pyKv, List.map_cons, pyKv_1 r, pyK]
  | (.inr i, v) :: r => by simp only [pyKv, List.map_cons, pyKv_1 r, pyK]
theorem pyKv_2 : ∀ kvs : List (Key × D), (pyKv kvs).map (·.2) = pyAll (kvs.map (·.2))
  | [] => by simp [pyKv, pyAll]
  | (.inl i, v) :: r => by simp only [pyKv, List.map_cons, pyKv_2 r, pyAll]
  | (.inr i, v) :: r => by simp only [pyKv, List.map_cons, pyKv_2 r, pyAll]
theorem vals_pairs {P : Program} {w : World} : ∀ {es : List DictEntry} {vs : List (Key × Value)}, Pairs (mixKind P w) es vs → es.map (·.val) = vs.map (·.2)
  | _, _, .nil => rfl
  | _, _, .cons a b c => by rw [List.map_cons, List.map_cons, b, vals_pairs c]
theorem okc {x : D} {xs : List D} (e : okAll (x :: xs) = true) : x.ok = true ∧ okAll xs = true := by simpa [okAll] using e
theorem kv_split : ∀ {kvs : List (Key × V)} {vs : List (Key × Value)}, KV kvs vs → (kvs.map (·.1)) = vs.map (·.1) ∧ Vals (kvs.map (·.2)) (vs.map (·.2))
  | _, _, .nil => ⟨rfl, .nil⟩
  | _, _, .cons a b => by
    obtain ⟨h1, h2⟩ := kv_split b
    exact ⟨by rw [List.map_cons, List.map_cons, a.1, h1], .cons a.2 h2⟩
theorem rpkv_split : ∀ {kds : List (Key × D)} {kvs : List (Key × V)}, RpKv X.K f H kds kvs → (kds.map (·.1)) = kvs.map (·.1) ∧ RpAll X.K f H (kds.map (·.2)) (kvs.map (·.2))
  | _, _, .nil => ⟨rfl, .nil⟩
  | _, _, .cons a b => by
    obtain ⟨h1, h2⟩ := rpkv_split b
    exact ⟨by rw [List.map_cons, List.map_cons, h1], .cons a h2⟩
theorem key_rs {h : Heap} {k : Key} {u : Value} (e : keyIs k u = true) : Rs h u (pyK k) := by
  rcases keyIs_shape e with ⟨i, t, rfl, rfl⟩ | ⟨x, t, rfl, rfl⟩
  · exact .int i t
  · exact .str x t
theorem keys_rs {h : Heap} {P : Program} {w : World} : ∀ {es : List DictEntry} {vs : List (Key × Value)}, Pairs (mixKind P w) es vs → RsAll h (es.map (·.key)) (vs.map fun p => pyK p.1)
  | _, _, .nil => .nil
  | _, _, .cons a b c => .cons (key_rs a) (keys_rs c)
mutual
theorem Rp.rs (I : Inv X pins σ H s) : ∀ (d : D) (v : V) (u : Value), d.ok = true → Rp X.K f H d v → RelV v u → Rs s.heap u d.py
  | .non, _, _, _, r, z => by cases r; cases z; simp only [D.py]; exact .none
  | .bl b, _, _, _, r, z => by cases r; cases z; simp only [D.py]; exact .bool b
  | .int i, _, _, _, r, z => by cases r; obtain ⟨t, rfl⟩ := z; simp only [D.py]; exact .int i t
  | .str x, _, _, _, r, z => by cases r; obtain ⟨t, rfl⟩ := z; simp only [D.py]; exact .str x t
  | .raw v, _, _, e, _, _ => by simp [D.ok] at e
  | .obj _ _, _, _, e, _, _ => by simp [D.ok] at e
  | .lst ds, _, _, e, r, z => by
    cases r with
    | @lst a vs _ sl ra =>
      cases z
      obtain ⟨its, rv, ⟨o, n, ho, hc, _, hd⟩, _⟩ := I.list sl.sq
      simp only [D.py]
      exact .list ho hc hd (Rp.rsAll I ds _ its (by simpa [D.ok] using e) ra rv)
  | .tup ds, _, _, e, r, z => by
    cases r with
    | @tup a vs _ sl ra =>
      cases z
      obtain ⟨its, rv, ⟨o, ho, hc, n, hd⟩, _⟩ := I.tuple sl.sq
      simp only [D.py]
      exact .tuple ho hc hd (Rp.rsAll I ds _ its (by simpa [D.ok] using e) ra rv)
  | .dic kds, _, _, e, r, z => by
    cases r with
    | @dic a kvs _ fa ha rk =>
      cases z
      obtain ⟨_, hsm, vs, rel, o, es, ep, ho, hx, hd, _, hp, _⟩ := I.hok a _ ha
      obtain ⟨k1, k2⟩ := kv_split rel
      obtain ⟨k3, k4⟩ := rpkv_split rk
      have rr := Rp.rsKv I kds kvs _ (by simpa [D.ok] using e) rk k2
      simp only [D.py]
      have e1 : (pyKv kds).map (·.1) = vs.map fun p => pyK p.1 := by
        rw [pyKv_1]
        have q : (kds.map (·.1)).map pyK = (vs.map (·.1)).map pyK := by rw [k3, k1]
        rw [List.map_map, List.map_map] at q
        exact q
      exact .dict ho hx.1 hd (fun q => by rw [q] at hsm; simp at hsm) (by rw [e1]; exact keys_rs hp) (by rw [pyKv_2, vals_pairs hp]; exact rr)
theorem Rp.rsAll (I : Inv X pins σ H s) : ∀ (ds : List D) (vs : List V) (us : List Value), okAll ds = true → RpAll X.K f H ds vs → Vals vs us → RsAll s.heap us (pyAll ds)
  | [], _, _, _, r, z => by cases r; cases z; simp only [pyAll]; exact .nil
  | d :: ds, _, _, e, r, z => by
    cases r with
    | cons r1 r2 =>
      cases z with
      | cons z1 z2 =>
        simp only [pyAll]
        exact .cons (Rp.rs I d _ _ (okc e).1 r1 z1) (Rp.rsAll I ds _ _ (okc e).2 r2 z2)
theorem Rp.rsKv (I : Inv X pins σ H s) : ∀ (ds : List (Key × D)) (vs : List (Key × V)) (us : List Value), okKv ds = true → RpKv X.K f H ds vs → Vals (vs.map (·.2)) us → RsAll s.heap us (pyAll (ds.map (·.2)))
  | [], _, _, _, r, z => by cases r; cases z; simp only [List.map_nil, pyAll]; exact .nil
  | (k, d) :: ds, _, _, e, r, z => by
    have e' : d.ok = true ∧ okKv ds = true := by simpa [okKv] using e
    cases r with
    | cons r1 r2 =>
      rw [List.map_cons] at z
      cases z with
      | cons z1 z2 =>
        rw [List.map_cons]
        simp only [pyAll]
        exact .cons (Rp.rs I d _ _ e'.1 r1 z1) (Rp.rsKv I ds _ _ e'.2 r2 z2)
end
/-- what repr wants of a value -/
structure Shows (d : D) : Prop where
  ok : d.ok = true
  sh : d.py.showable = true
  dp : d.py.depth ≤ 60
  sz : d.py.shown.length ≤ sizeLine
def rReprD (X : Cx) : List V → Hp → VK → Prop := fun xs H Q => ∃ v d f, xs = [v] ∧ Rp X.K f H d v ∧ Shows d ∧ Q (.str d.py.shown) H
theorem call_reprD (hu : X.A.units + 64 < cLine) (gd : X.A.guards = some []) : CallR X (.builtin "repr") (rReprD X) := by
  intro pins s σ H xs us Q I r hh
  obtain ⟨v, d, f, rfl, rp, S, q⟩ := hh
  obtain ⟨u, rfl, ru⟩ := vals1 r
  have key : ∀ a, u = .ref a → wpAny (model X.prog X.w) X.A (call (.builtin "repr") [.ref a]) (EP X pins σ Q) X.xe s := by
    rintro a rfl
    exact repr_rs (Rp.rs I d v _ S.ok rp ru) S.sh gd (by have := S.dp; omega) (fun _ _ e => e) (fun h' t tk kp => ⟨.str d.py.shown, H, I.kept kp, ⟨_, rfl⟩, q⟩) S.sz
  cases rp with
  | non =>
    cases ru
    exact P.repr_of_none ⟨.str _, H, I.tok _, ⟨_, rfl⟩, q⟩
  | bl b =>
    cases ru
    exact P.repr_of_bool ⟨.str _, H, I.tok _, ⟨_, rfl⟩, q⟩
  | int i =>
    obtain ⟨t, rfl⟩ := ru
    exact P.repr_of_int (by have := S.sh; simpa [D.py, PyData.showable] using this) ⟨.str _, H, I.tok _, ⟨_, rfl⟩, q⟩
  | str x =>
    obtain ⟨t, rfl⟩ := ru
    exact P.repr_of_str ⟨.str _, H, I.tok _, ⟨_, rfl⟩, q⟩ (by have := S.sz; simpa [D.py, PyData.shown] using this)
  | raw v => have := S.ok; simp [D.ok] at this
  | obj _ _ _ => have := S.ok; simp [D.ok] at this
  | lst s1 ra => cases ru; exact key _ rfl
  | tup s1 ra => cases ru; exact key _ rfl
  | dic h1 h2 h3 => cases ru; exact key _ rfl
def dRepr : DOn := fun xs ω Q => ∃ d, xs = [d] ∧ Shows d ∧ Q (.str d.py.shown) ω
theorem ok_repr [Amb] : CallD X.K dRepr (rReprD X) := by
  intro h xs ω R vs H Q ⟨d, e, S, q⟩ w r k
  subst e
  obtain ⟨v, rfl, rv⟩ := r.one
  exact ⟨v, d, _, rfl, rv, S, k.self w q (.str _)⟩
end
end DL

/-! DT: short forms for written derivations; calls of defs by their promises; stores; the law's end. -/
namespace DL
open PySem PySem.Spec L2
abbrev dLt : DO2 := dB0 fun i j => decide (i < j)
abbrev dLe : DO2 := dB0 fun i j => decide (i ≤ j)
abbrev dGt : DO2 := dB0 fun i j => decide (j < i)
abbrev dGe : DO2 := dB0 fun i j => decide (j ≤ i)
def dNeg : DO1 := fun x ω Q => ∃ i, x = .int i ∧ Q (.int (-i)) ω
section
variable {K : PySem.W.Frag} {X : Cx} {f h : Fp} {H H' : Hp} {ω ω' : Om} {a b c e : Expr} {pos p p2 : Pos} {Ta Tb Tc : TD} {T : TAD} {es : List Expr}
theorem dv [Amb] (i : Nat) {x : Str} (hN : X.N[i]? = some x := by rfl) (hv : Vis X.env.scope x := by first | exact Or.inl rfl | exact Or.inr (Or.inl rfl) | exact Or.inr (Or.inr rfl)) (hd : (x == ("__debug__" : Str)) = false := by decide)
    (hcd : (x == ("__classdict__" : Str)) = false := by decide) : DE X (.Name x pos) (dVar i) := de_var hN hv hd hcd
theorem de_globI2 [Amb] {x : Str} {i : Int} (hg : Gl X x) (hm : ∃ t, X.mg x = some (.int i t)) (hd : (x == ("__debug__" : Str)) = false := by decide) : DE X (.Name x pos) (dC (.int i)) := by
  obtain ⟨t, e⟩ := hm
  exact de_globI hg e ⟨t, rfl⟩ hd
/-! ### a def's promise, as its callers have it -/
def CalD (P : Program) (w : World) (K : PySem.W.Frag) (mg : Str → Option Value) (base : Heap) (k : Nat) (x : Str) (ps : List Str) (S : SpD) : Prop :=
  ∃ f fd, FnG P w K mg base CX0 k f fd ps (spU K S) ∧ mg x = some (.ref f) ∧ PySem.W.keepIn K (.ref f) = true ∧ Binds K fd ps [] ∧ ∃ oc od osl, K.lookup f = some ⟨oc, od, .func fd, osl⟩
def DefAt (K : PySem.W.Frag) (mg : Str → Option Value) (x : Str) (st : Stmt) : Prop := ∃ f fd, mg x = some (.ref f) ∧ Fun K x x st f fd
theorem de_call [Amb] {k : Nat} {x : Str} {ps : List Str} {S : SpD} (C : CalD X.prog X.w X.K X.mg X.base k x ps S) (hr : Room k X.A) (gd : X.A.guards = some []) (hg : Gl X x) (ha : DA X (e :: es) T) (hdb : (x == ("__debug__" : Str)) = false := by decide)
    (e1 : starEach (e :: es) X.env = (false, eval e X.env) :: starEach es X.env := by rfl) (e2 : (backTo pos (starEach es X.env)).any (·.1) = false := by rfl) : DE X (.Call (.Name x p) (e :: es) [] pos) (dCall S T) := by
  obtain ⟨f, fd, F, hm, hk, hb, _⟩ := C
  exact de_fn (E := fun _ _ _ => True) F hr gd hg hm hk hb (fun _ _ _ _ _ _ _ z => z.elim) ha hdb e1 e2
theorem CalD.mk {P : Program} {w : World} {K : PySem.W.Frag} {mg : Str → Option Value} {base : Heap} {k : Nat} {x : Str} {st : Stmt} {N ps : List Str} {S : SpD} {T : TSD} (D : DefAt K mg x st) (sc : FnScope N ps (defScope st))
    (bi : ∀ (kV doc pm : Value) (an : Option Addr) (cdv ct : Value) (us : List Value), us.length = ps.length → bindArgs (PySem.W.fnOf x x (defArgs st) (defBody st) (defScope st) .none kV doc pm an cdv ct) ⟨us, []⟩ = pure (ps.zip us))
    (ar : ∀ ds ω R, S ds ω R → ds.length = ps.length)
    (b : ∀ (f : Addr) (cdv : Value) (A : Around) (fs : List Env) (s : Shared) (hp : Hp) (e : XK), Room k (A.deeper (PyProof.Rows.envOfC x (defScope st) s.heap.objs.size f cdv)) → A.guards = some [] →
      DSs (cxOf CX0 P w K mg base N x (defScope st) f cdv A fs s hp e).nox (defBody st) T)
    (rd : ∀ ds ω R, S ds ω R → T { nx := fun _ ω' => R .non ω', rt := R } (startD N ds) ω) : CalD P w K mg base (k + 1) x ps S := by
  obtain ⟨f, fd, hm, F⟩ := D
  refine ⟨f, fd, FnG.ofD F sc ar (b f) rd, hm, F.kp, F.binds bi, ?_⟩
  obtain ⟨oc, od, kV, doc, pm, an, cdv, ct, osl, e, lk, _⟩ := F.ex
  exact ⟨oc, od, osl, lk⟩
theorem DefAt.mk {K : PySem.W.Frag} {h : Heap} {mg : Str → Option Value} (X : K.In h) (G : h.Ns mainGlobals mg) {x : Str} {st : Stmt} {f : Addr} {oc : Value} {od an : Option Addr} {osl : Array (Option Value)} {kV doc pm cdv ct : Value}
    (a : PySem.W.nsIn K mainGlobals x = some (some (.ref f))) (l : K.lookup f = some ⟨oc, od, .func (PySem.W.fnOf x x (defArgs st) (defBody st) (defScope st) .none kV doc pm an cdv ct), osl⟩)
    (c : PySem.W.codeIn K cdv x = true) (k : PySem.W.keepIn K (.ref f) = true) : DefAt K mg x st := ⟨f, _, PySem.W.mg_of X G a, fun_mk l c k⟩
/-! ### stores into an owned list -/
def dgSub (Ta Tb : TD) : TGD := fun x ρ ω Q => Ta ρ ω fun o ω1 => Tb ρ ω1 fun i ω2 => ∃ p k xs j, o = .raw (.ref p) ∧ i = .int k ∧ ω2 p = some (.lst xs) ∧ ixN xs.length k = some j ∧ Q ρ (oset ω2 p (.lst (xs.set j x)))
theorem dg_sub [Amb] (ha : DE X a Ta) (hb : DE X b Tb)
    (hh : ∀ v, assign (.Subscript a b pos) X.env v = (do
      let o ← holding [v] (eval a X.env)
      let i ← holding [v, o] (eval b X.env)
      standAt pos
      holding [v, o, i] (setItem o i v)
      release [v, o, i] []) := by intro _; rfl) : DG X (.Subscript a b pos) (dgSub Ta Tb) := by
  refine PG.weak (pg_sub ha hb set_list hh) fun v σ H Q ⟨h, ρ, ω, d, R, sl, w, r, t, k⟩ => ?_
  refine ⟨h, ρ, ω, _, sl, w, t, fun x ω1 vx H1 t1 f1 w1 rx => ?_⟩
  refine ⟨h, ρ, ω1, _, sl.keep f1.kp, w1, t1, fun y ω2 vy H2 t2 f2 w2 ry => ?_⟩
  obtain ⟨p, i, xs, j, e1, e2, e3, e4, q⟩ := t2
  subst e1 e2
  cases rx
  cases ry
  obtain ⟨vs, z1, z2⟩ := w2.cell p _ e3
  have r2 := r.keep (f1.trans f2).kp
  refine ⟨p, vs, i, j, rfl, rfl, z1, by rw [← z2.len]; exact e4, k _ _ _ _ q (f1.trans (f2.trans (Fr.put e3))) (w2.put e3 fun H' f' kp hp => ⟨_, hp, (z2.set r2 j).keep kp⟩) (sl.keep (f1.trans (f2.trans (Fr.put e3))).kp)⟩
/-! ### a written dict of one entry -/
def dDic1 (Ta Tb : TD) : TD := fun ρ ω Q => Ta ρ ω fun x ω1 => Tb ρ ω1 fun y ω2 => ∃ s, x = .str s ∧ Q (.dic [(.inr s, y)]) ω2
def dDic0 : TD := fun _ ω Q => Q (.dic []) ω
/-! ### name = [..] on one line -/
/-- what a law's def promises: for each list of ints it hands back True -/
def spLaw (bd : List Int → Prop) : SpD := fun ds ω R => ∃ ns : List Int, ds = [.lst (ns.map D.int)] ∧ ns.length ≤ 63 ∧ bd ns ∧ (∀ a, ω a = none) ∧ ∀ ω', R (.bl true) ω'
end
end DL
namespace DL
open PySem PySem.Spec L2
/-- the law's def, from its promise over every base -/
theorem law_fd {P : Program} {w : World} {K : PySem.W.Frag} {mg : Str → Option Value} {fa : Addr} {k : Nat} {S : SpD} {I : Heap → Prop} (b0 : Heap) (h0 : I b0) (hm : mg "law" = some (.ref fa)) (C : ∀ base, I base → CalD P w K mg base k "law" ["script"] S)
    (bi : ∀ fd oc od osl, K.lookup fa = some ⟨oc, od, .func fd, osl⟩ → ∀ (s : Shared) (u : Value), BindsTo s fd ⟨[u], []⟩ [("script", u)]) :
    ∃ fd : FuncData, (∀ (s : Shared) (u : Value), BindsTo s fd ⟨[u], []⟩ [("script", u)]) ∧ ∀ base : Heap, I base → FnG P w K mg base CX0 k fa fd ["script"] (spU K S) := by
  obtain ⟨f, fd, F, e, _, _, oc, od, osl, lk⟩ := C b0 h0
  obtain rfl : fa = f := by
    have z := hm.symm.trans e
    cases z
    rfl
  refine ⟨fd, bi fd oc od osl lk, fun base hb => ?_⟩
  obtain ⟨f, fd2, F2, e2, _, _, oc2, od2, osl2, lk2⟩ := C base hb
  obtain rfl : fa = f := by
    have z := hm.symm.trans e2
    cases z
    rfl
  rw [lk] at lk2
  cases lk2
  exact F2
end DL

/-! DE: enumerate of a tuple. -/
namespace DL
open PySem PySem.Spec L2
section
open Sem (wp)
theorem enum_new1 {v : Value} {o : Obj} {Z : Heap → Prop} (B : Begins v o Z) :
    Meets (Builtin.«enumerate.__new__» ⟨[.type "enumerate", v], []⟩) (fun _ R s => Z s.heap ∧
      R (.ok (.ret (.ref (s.heap.push o).objs.size)))
        { s with heap := (s.heap.push o).push { cls := .type "enumerate", data := .fields #[.none, .bool false, .ref s.heap.objs.size, rawInt 0, .none, .none] } }) :=
  .of_wp fun prog w A R s hh => by
    obtain ⟨hp, g, d, tk, os⟩ := s
    obtain ⟨z, hh⟩ := hh
    have s1 := sub_enumerate
    have s2 : ∀ {B' : Around} {E Q : Value → Shared → Prop}, Q (.ref hp.objs.size) ⟨hp.push o, g, d, tk, os⟩ → wpAny (model prog w) B' (pyIter v) Q E ⟨hp, g, d, tk, os⟩ :=
      fun q => B.iter prog w _ _ ⟨hp, g, d, tk, os⟩ _ z q
    wp_walk using s2
    refine wpAny_stack_any fun st => wpAny_pure ?_
    split
    · rename_i c _ _ _ _ _
      cases (c == Value.type "enumerate") <;>
      · wp_walk using s2
        exact ⟨_, rfl, hh⟩
    · wp_walk using s2
      exact ⟨_, rfl, hh⟩
variable {prog : Program} {w : World} {A : Around} {E : Value → Shared → Prop} {s : Shared}
theorem enum_call1 {v : Value} {o : Obj} {Z : Heap → Prop} {Q : Value → Shared → Prop} (B : Begins v o Z) (z : Z s.heap)
    (hh : ∀ h', IsEnum h' (s.heap.objs.size + 1) s.heap.objs.size 0 .none → h'.get? s.heap.objs.size = some o →
      (∀ b u, s.heap.get? b = some u → h'.get? b = some u) → Q (.ref (s.heap.objs.size + 1)) { s with heap := h' }) :
    wpAny (model prog w) A (call (.type "enumerate") [v]) Q E s := by
  refine callType_new F.called_enumerate (by decide) (F.typeCall_enumerate_1 _) (F.newCall_enumerate_1 _) (fun obj => F.args_object_init_2 obj _) F.entry_enumerate_new
    (enum_new1 B) ⟨z, ?_⟩
  have sz : (s.heap.push o).objs.size = s.heap.objs.size + 1 := Heap.size_push ..
  show _ ∧ _
  rw [sz]
  have ie : IsEnum ((s.heap.push o).push { cls := .type "enumerate", data := .fields #[.none, .bool false, .ref s.heap.objs.size, rawInt 0, .none, .none] }) (s.heap.objs.size + 1) s.heap.objs.size 0 .none := by
    have q := Heap.get?_push_size (s.heap.push o) (o := { cls := .type "enumerate", data := .fields #[.none, .bool false, .ref s.heap.objs.size, rawInt 0, .none, .none] }) rfl
    rw [sz] at q
    exact q
  exact ⟨⟨_, ie, rfl⟩, hh _ ie (Heap.get?_push_of_some _ (Heap.get?_push_size _ B.free)) fun b u x => Heap.get?_push_of_some _ (Heap.get?_push_of_some _ x)⟩
end
/-- the tuple at a, each item in a new pair with its number -/
def IteT (K : PySem.W.Frag) (a : Addr) : It :=
  ⟨fun i H => ∃ (xs : List V) (x : V), SqT K H a xs ∧ xs[i]? = some x,
   fun i H v H' => ∃ p x, v = .ref p ∧ H p = none ∧ H' = upd H p (.tup [.int (i : Nat), x]) ∧ ∀ xs, SqT K H a xs → xs[i]? = some x,
   fun i H => ∃ xs : List V, SqT K H a xs ∧ xs.length = i⟩
theorem turn_enumT {P : Program} {w : World} {K : PySem.W.Frag} {elts : List Expr} {kk : Nat} {tpos : Pos} (a e it : Addr) :
    Turn P w K (.Tuple elts kk tpos) (IteT K a) [e, it] e (fun i h => (∃ old, IsEnum h e it ((i : Nat) : Int) old) ∧ h.IsTupleIter it a i ∧ e ≠ it) where
  mem := by simp
  obj := fun i h ⟨⟨old, ie⟩, ⟨o, ho, hc, hd⟩, _⟩ b hb => by
    have z : b = e ∨ b = it := by simpa using hb
    rcases z with rfl | rfl
    · exact ⟨_, ie, fun v q => nomatch q⟩
    · exact ⟨o, ho, fun v q => by rw [hd] at q; cases q⟩
  keep := fun i h h' ⟨⟨old, ie⟩, ii, ne⟩ k => ⟨⟨old, k e (by simp) _ ie⟩, ii.at fun o q => k it (by simp) o q, ne⟩
  item := by
    intro X hP hw hK hc i pins s σ H E I hf ⟨⟨old, ie⟩, ii, ne⟩ ⟨xs, x, hq, hx⟩
    subst hP hw hK
    obtain ⟨its, rv, p, hz⟩ := I.tuple hq
    obtain ⟨u, hu, ru⟩ := rv.get hx
    have nai : a ≠ it := fun z => by
      obtain ⟨o, ho, hcl, _⟩ := ii
      obtain ⟨o2, ho2, hcl2, _⟩ := p
      rw [z, ho] at ho2
      cases ho2
      rw [hcl] at hcl2
      exact absurd (Value.type.inj hcl2) (by decide)
    have nae : e ∉ [it, a] := fun z => by
      have z' : e = it ∨ e = a := by simpa using z
      rcases z' with z | z
      · exact ne z
      · obtain ⟨o2, ho2, hcl2, _⟩ := p
        have ie' : s.heap.get? e = _ := ie
        rw [z, ho2] at ie'
        cases ie'
        exact absurd (Value.type.inj hcl2) (by decide)
    have le : e < s.heap.objs.size := Heap.lt_size ie
    have li : it < s.heap.objs.size := by obtain ⟨_, q, _⟩ := ii; exact Heap.lt_size q
    have lt : i < its.toArray.size := by
      rw [List.size_toArray]
      exact (List.getElem?_eq_some_iff.mp hu).1
    refine wpAny_pyNext_enum_itemD (Draws.tuple (A := X.A.in1) (I.ok.hd hc) it a nai its.toArray) ie ⟨ii, p⟩ lt ne nae fun y h' tk py ho st' hT hsz hk => ?_
    obtain rfl : u = y := by
      have q : its.toArray[i]? = some u := by simpa using hu
      exact Option.some.inj (q.symm.trans py)
    refine ⟨_, rfl, wpAny_letOwnedTupleGo_enum (s := { s with heap := h', toks := tk + 1 }) ho fun h2 he2 sb => ?_⟩
    have hT2 : h2.get? s.heap.objs.size = some { cls := .type "tuple", data := .seq #[.int i tk, u] } := (sb.2 _ (Nat.ne_of_gt le)).trans hT
    have new : ObjOk X.prog X.w (upd H s.heap.objs.size (.tup [.int (i : Nat), x])) h2 s.heap.objs.size (.tup [.int (i : Nat), x]) :=
      ⟨by show 2 ≤ sizeLine; decide, [.int i tk, u], .cons ⟨_, rfl⟩ (.cons ru .nil), ⟨_, hT2, rfl, _, rfl⟩⟩
    have I1 : Inv X pins σ (upd H s.heap.objs.size (.tup [.int (i : Nat), x])) { s with heap := h2, toks := tk + 1 } :=
      I.turnedNew (ch := [e, it]) (fun b ob hb q => (sb.2 b fun z => hb (by simp [z])).trans (hk b ob (fun z => hb (by simp [z])) (fun z => hb (by simp [z])) q)) hf (Nat.le_refl _) new
    refine ⟨.ref s.heap.objs.size, _, I1, rfl, ⟨_, x, rfl, I.hok.fresh (Nat.le_refl _), rfl, fun ys hy => by rw [I.tuple_inj hy hq]; exact hx⟩, ⟨⟨u, ?_⟩, st'.1.at fun o q => (sb.2 it (Ne.symm ne)).trans q, ne⟩, fun b hb => ?_⟩
    · have q : ((i + 1 : Nat) : Int) = (i : Int) + 1 := by omega
      rw [q]
      exact he2
    · have z : b = e ∨ b = it := by simpa using hb
      have lb : b < s.heap.objs.size := z.elim (fun z => z ▸ le) fun z => z ▸ li
      rw [upd_ne (Nat.ne_of_lt lb)]
      exact (hf b hb).1
  done := by
    intro X hP hw hK hc i pins s σ H E I hf ⟨⟨old, ie⟩, ii, ne⟩ ⟨xs, hq, hx⟩
    subst hP hw hK
    obtain ⟨its, rv, p, hz⟩ := I.tuple hq
    obtain ⟨f0, f1, f2, f3, f4, f5⟩ := hf it (by simp)
    have nai : a ≠ it := fun z => by
      obtain ⟨o, ho, hcl, _⟩ := ii
      obtain ⟨o2, ho2, hcl2, _⟩ := p
      rw [z, ho] at ho2
      cases ho2
      rw [hcl] at hcl2
      exact absurd (Value.type.inj hcl2) (by decide)
    have e1 : i = its.toArray.size := by rw [List.size_toArray, ← rv.length]; exact hx.symm
    subst e1
    exact wpAny_pyNext_enum_endD (Draws.tuple (A := X.A.in1) (I.ok.hd hc) it a nai its.toArray) ie ⟨ii, p⟩ fun h' eb =>
      ⟨rfl, I.turned (t' := s.toks) (fun b o hb q => eb b o hb q) f0 f1 f3 f4 f5⟩
  self := fun A i s Q E ⟨⟨_, ie⟩, _⟩ hh => wpAny_pyIter_enum ie hh
def iEnumT (K : PySem.W.Frag) (ta : TA) : TI := fun σ H R => ta σ H fun vs H1 => ∃ a xs, vs = [.ref a] ∧ SqT K H1 a xs ∧ R (IteT K a) H1
theorem pi_enumT {X : Cx} {e : Expr} {ta : TA} {p pos tpos : Pos} {elts : List Expr} {kk : Nat} (hg : Gl X "enumerate") (hm : X.mg "enumerate" = none) (ha : PA X [e] ta) (hs : starEach [e] X.env = [(false, eval e X.env)] := by rfl) :
    PI X (.Tuple elts kk tpos) (.Call (.Name "enumerate" p) [e] [] pos) (iEnumT X.K ta) := by
  constructor
  intro pins s σ H R I hh
  refine PyProof.Rows.Call_ (ld_blt I hg hm PyProof.Rows.boot_enumerate (PyProof.Rows.callWith_type1 (thn (ha.run pos pins s σ H _ I hh) fun us s1 ⟨vs, H1, I1, r1, q1⟩ => ?_) hs rfl))
  obtain ⟨a, xs, ex, hq, q⟩ := q1
  subst ex
  cases r1 with
  | cons r rr =>
    cases rr
    cases r
    obtain ⟨its, rv, pt, hz⟩ := I1.tuple hq
    refine enum_call1 (begins_tuple a its.toArray) pt fun h' ie io hk => wpAny_pyIter_enum ie ?_
    have I2 : Inv X pins σ H1 { s1 with heap := h' } := I1.kept (t' := s1.toks) hk
    refine ⟨s1.heap.objs.size + 1, [s1.heap.objs.size + 1, s1.heap.objs.size], _, _, H1, rfl, I2, turn_enumT a (s1.heap.objs.size + 1) s1.heap.objs.size, ⟨⟨.none, ie⟩, ⟨_, io, rfl, rfl⟩, Nat.succ_ne_self _⟩, fun b hb => ?_, q⟩
    have z : b = s1.heap.objs.size + 1 ∨ b = s1.heap.objs.size := by simpa using hb
    have hle : s1.heap.objs.size ≤ b := z.elim (fun z => z ▸ Nat.le_add_right _ _) fun z => z ▸ Nat.le_refl _
    exact I1.fpOk hle (I1.hok.fresh hle)
section
variable {K : PySem.W.Frag} {X : Cx} {h : Fp} {H : Hp} {ω : Om} {a : Expr} {p pos tpos : Pos} {T : TAD} {elts : List Expr} {kk : Nat}
def enumD (xs : List D) : List D := (List.range xs.length).map fun i => .tup [.int (i : Nat), xs.getD i .non]
theorem enumD_len {xs : List D} : (enumD xs).length = xs.length := by simp [enumD]
theorem enumD_get {xs : List D} {i : Nat} {d : D} (e : xs[i]? = some d) : (enumD xs)[i]? = some (.tup [.int (i : Nat), d]) := by
  obtain ⟨l, e2⟩ := List.getElem?_eq_some_iff.mp e
  unfold enumD
  rw [List.getElem?_map, List.getElem?_range l]
  simp [List.getD, e]
theorem itok_enumT [Amb] {a : Addr} {vs : List V} {xs : List D} {P : Om → Prop} (s : ST K (fre ω h) H a vs) (r : RpAll K (fre ω h) H xs vs) : ItOk K h (IteT K a) (enumD xs) P H ω := by
  intro h2 i H2 ω2 _ f w
  have s2 := (s.keep f).sq
  refine ⟨fun l => ⟨vs, s2, by rw [← r.len, ← enumD_len]; exact l.symm⟩, fun d e => ?_⟩
  have li : i < xs.length := by
    have z := (List.getElem?_eq_some_iff.mp e).1
    rw [enumD_len] at z
    exact z
  have ei : xs[i]? = some xs[i] := List.getElem?_eq_getElem li
  rw [enumD_get ei] at e
  cases e
  obtain ⟨v, ev, rv⟩ := r.get ei
  refine ⟨⟨vs, v, s2, ev⟩, fun x H3 ⟨q, y, e1, hn, e2, e3⟩ => ?_⟩
  subst e1 e2
  have e4 := e3 vs s2
  rw [ev] at e4
  cases e4
  exact ⟨Fr.new hn, w.new hn, Rp.new_tup w hn (.cons (.int _) (.cons (rv.keep f) .nil))⟩
def dEnum (T : TAD) : TID := fun ρ ω Q => T ρ ω fun ds ω1 => ∃ xs, ds = [.tup xs] ∧ Q (enumD xs) (fun _ => True) ω1
theorem di_enum [Amb] (hg : Gl X "enumerate") (hm : X.mg "enumerate" = none) (ha : DA X [a] T) (hs : starEach [a] X.env = [(false, eval a X.env)] := by rfl) : DI X (.Tuple elts kk tpos) (.Call (.Name "enumerate" p) [a] [] pos) (dEnum T) := by
  refine PI.weak (pi_enumT hg hm ha hs) fun σ H Q ⟨h, ρ, ω, R, sl, w, t, k⟩ => ?_
  refine ⟨h, ρ, ω, _, sl, w, t, fun ds ω1 vs H1 t1 f1 w1 r => ?_⟩
  obtain ⟨xs, e, q⟩ := t1
  subst e
  obtain ⟨v, rfl, rv⟩ := r.one
  cases rv with
  | tup s ra => exact ⟨_, _, rfl, s.sq, k _ _ _ _ _ q f1 w1 (itok_enumT s ra)⟩
end
end DL
namespace DL
open PySem PySem.Spec L2
section
variable {K : PySem.W.Frag} {X : Cx} {a b c : Expr} {pos : Pos} {T : TAD}
def dPar3 (i j l : Nat) (T : TAD) : TSD := fun E ρ ω => T ρ ω fun xs ω1 => ∃ x y z, xs = [x, y, z] ∧ E.nx (((ρ.set i (some x)).set j (some y)).set l (some z)) ω1
end
end DL

/-! DV: one step of a reading at a time. -/
namespace DL
open PySem PySem.Spec L2
section
variable {ρ : Rho} {ω ω' : Om} {Q : DQ} {E : DEnds} {Ta Tb Tc : TD} {A B : TTD} {t u : TSD} {g : TGD} {gs : TGsD} {us : TAD} {QB : Bool → Om → Prop} {QL : List D → Om → Prop} {QS : Rho → Om → Prop} {x y d : D} {xs ys : List D} {i j k : Int} {n m : Nat} {p : Addr} {s z : Str} {b : Bool} {o o' : DO2} {o1 : DO1} {on : DOn}
theorem st_seq (h : t { E with nx := u E } ρ ω) : dSeq t u E ρ ω := h
theorem st_next (h : E.nx ρ ω) : dNext E ρ ω := h
theorem st_asg (h : Ta ρ ω fun x ω1 => g x ρ ω1 E.nx) : dAsg Ta g E ρ ω := h
theorem st_ret (h : Ta ρ ω E.rt) : dRet Ta E ρ ω := h
theorem st_retN (h : E.rt .non ω) : dRetN E ρ ω := h
theorem st_drop (h : Ta ρ ω fun _ ω1 => E.nx ρ ω1) : dDrop Ta E ρ ω := h
theorem st_ifs (h : A ρ ω fun c ω1 => if c = true then t E ρ ω1 else u E ρ ω1) : dIfS A t u E ρ ω := h
theorem st_par {T : TAD} (h : T ρ ω fun xs ω1 => ∃ x y, xs = [x, y] ∧ E.nx ((ρ.set n (some x)).set m (some y)) ω1) : dPar n m T E ρ ω := h
theorem st_par' {Z : D → D → Prop} (h : Z x y) : ∃ x' y', [x, y] = [x', y'] ∧ Z x' y' := ⟨x, y, rfl, h⟩
theorem st_par3 {T : TAD} {l : Nat} (h : T ρ ω fun xs ω1 => ∃ x y z, xs = [x, y, z] ∧ E.nx (((ρ.set n (some x)).set m (some y)).set l (some z)) ω1) : dPar3 n m l T E ρ ω := h
theorem st_par3' {c : D} {Z : D → D → D → Prop} (h : Z x y c) : ∃ x' y' c', [x, y, c] = [x', y', c'] ∧ Z x' y' c' := ⟨x, y, c, rfl, h⟩
theorem st_name (h : QS (ρ.set n (some x)) ω) : dgName n x ρ ω QS := h
theorem st_gtup (l : xs.length = n) (h : gs xs ρ ω QS) : dgTup n gs (.tup xs) ρ ω QS := ⟨xs, rfl, l, h⟩
theorem st_gcons (h : g x ρ ω fun ρ' ω' => gs xs ρ' ω' QS) : dgCons g gs (x :: xs) ρ ω QS := ⟨x, xs, rfl, h⟩
theorem st_gnil (h : QS ρ ω) : dgNil [] ρ ω QS := ⟨rfl, h⟩
theorem st_var (e : ρ[n]? = some (some d)) (h : Q d ω) : dVar n ρ ω Q := ⟨d, e, h⟩
theorem st_c (h : Q d ω) : dC d ρ ω Q := h
theorem st_bin (h : Ta ρ ω fun x ω1 => Tb ρ ω1 fun y ω2 => o x y ω2 Q) : dBin o Ta Tb ρ ω Q := h
theorem st_un (h : Ta ρ ω fun x ω1 => o1 x ω1 Q) : dUn o1 Ta ρ ω Q := h
theorem st_neg (h : Q (.int (-i)) ω) : dNeg (.int i) ω Q := ⟨i, rfl, h⟩
theorem st_addI (h : Q (.int (i + j)) ω) : dAdd (.int i) (.int j) ω Q := h
theorem st_addT (l : xs.length + ys.length ≤ sizeLine) (h : Q (.tup (xs ++ ys)) ω) : dAdd (.tup xs) (.tup ys) ω Q := ⟨l, h⟩
theorem st_addL (l : xs.length + ys.length ≤ sizeLine) (h : Q (.lst (xs ++ ys)) ω) : dAdd (.lst xs) (.lst ys) ω Q := ⟨l, h⟩
theorem st_sub (h : Q (.int (i - j)) ω) : dSub (.int i) (.int j) ω Q := ⟨i, j, rfl, rfl, h⟩
theorem st_mulI (c : CMul i j) (h : Q (.int (i * j)) ω) : dMul (.int i) (.int j) ω Q := ⟨c, h⟩
theorem st_mod (c : 0 < j) (h : Q (.int (i % j)) ω) : dMod (.int i) (.int j) ω Q := ⟨i, j, rfl, rfl, c, h⟩
theorem st_fdv (c : CDivW i j) (h : Q (.int (i / j)) ω) : dFdv (.int i) (.int j) ω Q := ⟨i, j, rfl, rfl, c, h⟩
theorem st_pow (c : CPow i j) (h : Q (.int (i ^ j.toNat)) ω) : dPow (.int i) (.int j) ω Q := ⟨i, j, rfl, rfl, c, h⟩
theorem st_b0 {f : Int → Int → Bool} (h : Q (.bl (f i j)) ω) : dB0 f (.int i) (.int j) ω Q := ⟨i, j, rfl, rfl, h⟩
theorem st_eqI {neg : Bool} (h : Q (.bl (if neg then !decide (i = j) else decide (i = j))) ω) : dEq neg (.int i) (.int j) ω Q := h
theorem st_eqStr {neg : Bool} (h : Q (.bl (if neg then !decide (s = z) else decide (s = z))) ω) : dEq neg (.str s) (.str z) ω Q := h
theorem st_isN {neg : Bool} (h : Q (.bl (if neg then !isNonD x else isNonD x)) ω) : dIsN neg x .non ω Q := ⟨rfl, h⟩
theorem st_ixT (e : L2.atI xs i = some d) (h : Q d ω) : dIx (.tup xs) (.int i) ω Q := ⟨i, xs, d, rfl, .inl rfl, e, h⟩
theorem st_ixL (e : L2.atI xs i = some d) (h : Q d ω) : dIx (.lst xs) (.int i) ω Q := ⟨i, xs, d, rfl, .inr rfl, e, h⟩
theorem lst_raw (c : ω p = some (.lst xs)) : lstOf ω (.raw (.ref p)) = some xs := by
  simp only [lstOf, c]
theorem st_ixO (c : ω p = some (.lst xs)) (e : L2.atI xs i = some d) (h : Q d ω) : dIx (.raw (.ref p)) (.int i) ω Q := ⟨i, xs, d, rfl, .inr (lst_raw c), e, h⟩
theorem st_gsub (h : Ta ρ ω fun o ω1 => Tb ρ ω1 fun i ω2 => ∃ p k xs j, o = .raw (.ref p) ∧ i = .int k ∧ ω2 p = some (.lst xs) ∧ ixN xs.length k = some j ∧ QS ρ (oset ω2 p (.lst (xs.set j x)))) : dgSub Ta Tb x ρ ω QS := h
theorem st_gsub' {Z : Addr → List D → Nat → Prop} (c : ω p = some (.lst xs)) (e : ixN xs.length k = some n) (h : Z p xs n) : ∃ p' k' xs j, D.raw (.ref p) = .raw (.ref p') ∧ D.int k = .int k' ∧ ω p' = some (.lst xs) ∧ ixN xs.length k' = some j ∧ Z p' xs j :=
  ⟨p, k, xs, n, rfl, rfl, c, e, h⟩
theorem st_call {T : TAD} (h : T ρ ω fun xs ω1 => on xs ω1 Q) : dCall on T ρ ω Q := h
theorem st_cons (h : Ta ρ ω fun x ω1 => us ρ ω1 fun xs ω2 => QL (x :: xs) ω2) : dCons Ta us ρ ω QL := h
theorem st_nil (h : QL [] ω) : dNil ρ ω QL := h
theorem st_lst (h : us ρ ω fun xs ω1 => xs.length ≤ sizeLine ∧ Q (.lst xs) ω1) : dLst us ρ ω Q := h
theorem st_tup (h : us ρ ω fun xs ω1 => xs.length ≤ sizeLine ∧ Q (.tup xs) ω1) : dTup us ρ ω Q := h
theorem st_lstO (h : us ρ ω fun xs ω1 => xs.length ≤ sizeLine ∧ ∀ p, ω1 p = none → Q (.raw (.ref p)) (oset ω1 p (.lst xs))) : dLstO us ρ ω Q := h
theorem st_sz (l : xs.length ≤ sizeLine) {Z : Prop} (h : Z) : xs.length ≤ sizeLine ∧ Z := ⟨l, h⟩
theorem st_lenT (h : Q (.int xs.length) ω) : dLen [.tup xs] ω Q := ⟨_, rfl, .inl ⟨xs, .inl rfl, h⟩⟩
theorem st_lenL (h : Q (.int xs.length) ω) : dLen [.lst xs] ω Q := ⟨_, rfl, .inl ⟨xs, .inr rfl, h⟩⟩
theorem st_lenO (c : ω p = some (.lst xs)) (h : Q (.int xs.length) ω) : dLen [.raw (.ref p)] ω Q := ⟨_, rfl, .inl ⟨xs, .inr (lst_raw c), h⟩⟩
theorem st_tupT (h : Q (.tup xs) ω) : dTupOf [.tup xs] ω Q := ⟨_, xs, rfl, .inl rfl, h⟩
theorem st_tupL (h : Q (.tup xs) ω) : dTupOf [.lst xs] ω Q := ⟨_, xs, rfl, .inr rfl, h⟩
theorem st_lstT (h : Q (.lst xs) ω) : dLstOf [.tup xs] ω Q := ⟨_, xs, rfl, .inl rfl, h⟩
theorem st_lstL (h : Q (.lst xs) ω) : dLstOf [.lst xs] ω Q := ⟨_, xs, rfl, .inr rfl, h⟩
theorem st_abs (h : Q (.int (if i < 0 then -i else i)) ω) : dAbs [.int i] ω Q := ⟨i, rfl, h⟩
theorem st_ii {f : Int → Int → Int} (h : Q (.int (f i j)) ω) : dII f [.int i, .int j] ω Q := ⟨i, j, rfl, h⟩
theorem st_int1b (h : Q (.int (if b then 1 else 0)) ω) : dInt1 [.bl b] ω Q := .inr ⟨b, rfl, h⟩
theorem st_int1i (h : Q (.int i) ω) : dInt1 [.int i] ω Q := .inl ⟨i, rfl, h⟩
theorem st_repr (S : Shows d) (h : Q (.str d.py.shown) ω) : dRepr [d] ω Q := ⟨d, rfl, S, h⟩
theorem st_dic0 (h : Q (.dic []) ω) : dDic0 ρ ω Q := h
theorem st_dic1 (h : Ta ρ ω fun x ω1 => Tb ρ ω1 fun y ω2 => ∃ s, x = .str s ∧ Q (.dic [(.inr s, y)]) ω2) : dDic1 Ta Tb ρ ω Q := h
theorem st_dic1' {Z : Str → Prop} (h : Z s) : ∃ s', D.str s = .str s' ∧ Z s' := ⟨s, rfl, h⟩
theorem st_tst (h : Ta ρ ω fun x ω1 => ∃ b, x = .bl b ∧ QB b ω1) : dTst Ta ρ ω QB := h
theorem st_bl {Z : Bool → Prop} (h : Z b) : ∃ b', D.bl b = .bl b' ∧ Z b' := ⟨b, rfl, h⟩
theorem st_andT (h : A ρ ω fun b ω1 => if b = true then B ρ ω1 QB else QB false ω1) : dAndT A B ρ ω QB := h
theorem st_orT (h : A ρ ω fun b ω1 => if b = true then QB true ω1 else B ρ ω1 QB) : dOrT A B ρ ω QB := h
theorem st_notT (h : A ρ ω fun b ω1 => QB (!b) ω1) : dNotT A ρ ω QB := h
theorem st_andV (h : Ta ρ ω fun x ω1 => ∃ c, x = .bl c ∧ if c = true then Tb ρ ω1 Q else Q (.bl false) ω1) : dAndV Ta Tb ρ ω Q := h
theorem st_orV (h : Ta ρ ω fun x ω1 => ∃ c, x = .bl c ∧ if c = true then Q (.bl true) ω1 else Tb ρ ω1 Q) : dOrV Ta Tb ρ ω Q := h
theorem st_notV (h : Ta ρ ω fun x ω1 => ∃ c, x = .bl c ∧ Q (.bl (!c)) ω1) : dNotV Ta ρ ω Q := h
theorem st_if (h : A ρ ω fun c ω1 => if c = true then Ta ρ ω1 Q else Tb ρ ω1 Q) : dIf A Ta Tb ρ ω Q := h
theorem st_chain (h : Ta ρ ω fun x ω1 => Tb ρ ω1 fun y ω2 => o x y ω2 fun z ω3 => ∃ k, z = .bl k ∧ if k = true then Tc ρ ω3 fun u ω4 => o' y u ω4 Q else Q (.bl false) ω3) : dChain o o' Ta Tb Tc ρ ω Q := h
theorem st_sl {Tl Th : TOD} (h : Ta ρ ω fun x ω1 => Tl ρ ω1 fun lo ω2 => Th ρ ω2 fun hi ω3 => (∃ xs, x = .tup xs ∧ Q (.tup (cutD xs lo hi)) ω3) ∨ ∃ xs, lstOf ω3 x = some xs ∧ Q (.lst (cutD xs lo hi)) ω3) : dSl Ta Tl Th ρ ω Q := h
theorem st_slT {Z Z' : List D → Prop} (h : Z xs) : (∃ ys, D.tup xs = .tup ys ∧ Z ys) ∨ ∃ ys, lstOf ω (.tup xs) = some ys ∧ Z' ys := .inl ⟨xs, rfl, h⟩
theorem st_slL {Z Z' : List D → Prop} (h : Z' xs) : (∃ ys, D.lst xs = .tup ys ∧ Z ys) ∨ ∃ ys, lstOf ω (.lst xs) = some ys ∧ Z' ys := .inr ⟨xs, rfl, h⟩
theorem st_nop {QO : Option Int → Om → Prop} (h : QO none ω) : dNoP ρ ω QO := h
theorem st_part {QO : Option Int → Om → Prop} (h : Ta ρ ω fun x ω1 => ∃ i, x = .int i ∧ QO (some i) ω1) : dPart Ta ρ ω QO := h
theorem st_int {Z : Int → Prop} (h : Z i) : ∃ i', D.int i = .int i' ∧ Z i' := ⟨i, rfl, h⟩
theorem st_dec {c : Prop} [Decidable c] {Y Z : Prop} (ht : c → Y) (hf : ¬c → Z) : if decide c = true then Y else Z := by
  by_cases h : c
  · rw [decide_eq_true h]; exact ht h
  · rw [decide_eq_false h]; exact hf h
theorem st_ndec {c : Prop} [Decidable c] {Y Z : Prop} (ht : ¬c → Y) (hf : c → Z) : if (!decide c) = true then Y else Z := by
  by_cases h : c
  · rw [decide_eq_true h]; exact hf h
  · rw [decide_eq_false h]; exact ht h
theorem st_isiT {t' n' : String} (hn : n' ∈ ["bool", "int", "str", "list", "tuple", "dict"]) (e : tyN x = some t') (eb : isN t' n' = true) (h : Q (.bl true) ω) : dIsi [x, .raw (.ty n')] ω Q := ⟨x, n', t', rfl, hn, e, by rw [eb]; exact h⟩
theorem st_isiF {t' n' : String} (hn : n' ∈ ["bool", "int", "str", "list", "tuple", "dict"]) (e : tyN x = some t') (eb : isN t' n' = false) (h : Q (.bl false) ω) : dIsi [x, .raw (.ty n')] ω Q := ⟨x, n', t', rfl, hn, e, by rw [eb]; exact h⟩
theorem st_T2 {Y Z : Prop} (h : Y) : if (!false) = true then Y else Z := h
theorem st_F2 {Y Z : Prop} (h : Z) : if (!true) = true then Y else Z := h
theorem st_nT (h : Q (.bl false) ω) : ∃ c, D.bl true = .bl c ∧ Q (.bl (!c)) ω := ⟨true, rfl, h⟩
theorem st_nF (h : Q (.bl true) ω) : ∃ c, D.bl false = .bl c ∧ Q (.bl (!c)) ω := ⟨false, rfl, h⟩
theorem st_T {Y Z : Prop} (h : Y) : if true = true then Y else Z := h
theorem st_F {Y Z : Prop} (h : Z) : if false = true then Y else Z := h
end
end DL

/-! DK: what the laws' own helpers promise: the deck, a draw, a tower. -/
namespace DL
open PySem PySem.Spec L2
end DL
local macro_rules | `(tactic| walk_at "e1") => `(tactic| first | (with_reducible first | refine DL.st_seq ?_ | refine DL.st_next ?_ | refine DL.st_asg ?_ | refine DL.st_ret ?_ | refine DL.st_retN ?_ | refine DL.st_drop ?_ | refine DL.st_ifs ?_ | refine DL.st_par ?_ | refine DL.st_par' ?_ | refine DL.st_par3 ?_ | refine DL.st_par3' ?_ | refine DL.st_name ?_ | refine DL.st_gcons ?_ | refine DL.st_gnil ?_ | refine DL.st_c ?_ | refine DL.st_bin ?_ | refine DL.st_un ?_ | refine DL.st_neg ?_ | refine DL.st_addI ?_ | refine DL.st_sub ?_ | refine DL.st_b0 ?_ | refine DL.st_eqI ?_ | refine DL.st_eqStr ?_ | refine DL.st_isN ?_ | refine DL.st_gsub ?_ | refine DL.st_call ?_ | refine DL.st_cons ?_ | refine DL.st_nil ?_ | refine DL.st_lst ?_ | refine DL.st_tup ?_ | refine DL.st_lstO ?_ | refine DL.st_lenT ?_ | refine DL.st_lenL ?_ | refine DL.st_tupT ?_ | refine DL.st_tupL ?_ | refine DL.st_lstT ?_ | refine DL.st_lstL ?_ | refine DL.st_abs ?_ | refine DL.st_ii ?_ | refine DL.st_int1b ?_ | refine DL.st_int1i ?_ | refine DL.st_dic0 ?_ | refine DL.st_dic1 ?_ | refine DL.st_dic1' ?_ | refine DL.st_tst ?_ | refine DL.st_bl ?_ | refine DL.st_andT ?_ | refine DL.st_orT ?_ | refine DL.st_notT ?_ | refine DL.st_andV ?_ | refine DL.st_orV ?_ | refine DL.st_notV ?_ | refine DL.st_if ?_ | refine DL.st_chain ?_ | refine DL.st_sl ?_ | refine DL.st_slT ?_ | refine DL.st_slL ?_ | refine DL.st_nop ?_ | refine DL.st_part ?_ | refine DL.st_int ?_ | refine DL.st_T ?_ | refine DL.st_F ?_ | refine DL.st_T2 ?_ | refine DL.st_F2 ?_ | refine DL.st_nT ?_ | refine DL.st_nF ?_ | refine DL.st_lc ?_ | refine DL.st_lcO ?_ | refine DL.st_rng1 ?_ | refine DL.st_items ?_ | refine DL.st_itemsL ?_ | refine DL.st_itemsT ?_ | refine DL.st_enum ?_ | refine DL.st_enum' ?_ | refine DL.st_for ?_ | refine DL.st_tupRg ?_ | refine DL.st_p6 ?_ | refine DL.st_p18 ?_ | refine DL.st_p39 ?_) | ((with_reducible refine DL.st_var (d := ?d) ?e ?_); (case e => exact rfl)) | ((with_reducible refine DL.st_gtup ?e ?_); (case e => exact rfl)) | ((with_reducible refine DL.st_sz ?e ?_); (case e => (simp only [List.length_cons, List.length_nil]; decide))) | ((with_reducible refine DL.st_isiT (t' := ?t) ?n ?e ?b ?_); (case n => decide); (case e => exact rfl); (case b => decide)) | ((with_reducible refine DL.st_isiF (t' := ?t) ?n ?e ?b ?_); (case n => decide); (case e => exact rfl); (case b => decide)))
local macro_rules | `(tactic| walk_at "es") => `(tactic| repeat walk_at "e1")
namespace DL
open PySem PySem.Spec L2
/-- the deck: a list [cells, count] at a, its cells at p -/
def Deck (ω : Om) (a p : Addr) (N : Nat) : Prop := a ≠ p ∧ ∃ (cells : List Int) (n : Nat), ω a = some (.lst [.raw (.ref p), .int n]) ∧ ω p = some (.lst (cells.map D.int)) ∧ n ≤ N ∧ cells.length ≤ 63
/-- nothing else is owned -/
def Alone (ω : Om) (a p : Addr) : Prop := ∀ b, b ≠ a → b ≠ p → ω b = none
def DrawT : TSD := (dSeq (dAsg (dBin dAdd (dBin dIx (dVar 0) (dC (.int 1))) (dC (.int 1))) (dgSub (dVar 0) (dC (.int 1))))
    (dSeq (dAsg (dTup (dCons (dC (.int 0)) (dCons (dUn dNeg (dC (.int 1))) dNil))) (dgTup 2 (dgCons (dgName 2) (dgCons (dgName 3) dgNil))))
    (dSeq (dIfS (dTst (dBin dGt (dCall dLen (dCons (dBin dIx (dVar 0) (dC (.int 0))) dNil)) (dC (.int 0)))) (dSeq (dAsg (dBin dMod (dBin dIx (dVar 0) (dC (.int 1))) (dCall dLen (dCons (dBin dIx (dVar 0) (dC (.int 0))) dNil))) (dgName 3))
    (dAsg (dBin dIx (dBin dIx (dVar 0) (dC (.int 0))) (dVar 3)) (dgName 2))) dNext)
    (dSeq (dIfS (dTst (dBin dGe (dVar 2) (dBin dPow (dC (.int 10)) (dC (.int 18))))) (dSeq (dAsg (dBin dFdv (dVar 2) (dVar 1)) (dgSub (dBin dIx (dVar 0) (dC (.int 0))) (dVar 3)))
    (dRet (dBin dMod (dVar 2) (dVar 1)))) dNext)
    (dRet (dBin dMod (dBin dFdv (dBin dMod (dBin dPow (dBin dAdd (dBin dAdd (dBin dMod (dVar 2) (dC (.int 2147483587))) (dBin dMul (dC (.int 7919)) (dBin dIx (dVar 0) (dC (.int 1))))) (dC (.int 1))) (dC (.int 5))) (dC (.int 2147483647))) (dC (.int 7))) (dVar 1)))))))
/-- a draw: some number below the limit; the deck has been drawn from once more -/
def DrawS : SpD := fun ds ω R => ∃ a p N k, ds = [.raw (.ref a), .int k] ∧ 0 < k ∧ k < 2 ^ 100 ∧ Deck ω a p N ∧ N ≤ 2 ^ 40 ∧ ∀ (i : Int) ω', 0 ≤ i → i < k → Deck ω' a p (N + 1) → (∀ b, b ≠ a → b ≠ p → ω' b = ω b) → R (.int i) ω'
theorem atI_0 {α : Type} {x : α} {xs : List α} : L2.atI (x :: xs) 0 = some x := by
  unfold L2.atI L2.ixN
  simp
theorem atI_1 {α : Type} {x y : α} {xs : List α} : L2.atI (x :: y :: xs) 1 = some y := by
  unfold L2.atI L2.ixN
  have h : (1 : Int) < ((x :: y :: xs).length : Nat) := by simp only [List.length_cons]; omega
  rw [if_pos (by omega), if_pos h]
  rfl
theorem atI_nat {α : Type} {xs : List α} {i : Int} (h0 : 0 ≤ i) (h1 : i < (xs.length : Nat)) : L2.atI xs i = some (xs[i.toNat]'(by omega)) := by
  unfold L2.atI L2.ixN
  rw [if_pos h0, if_pos h1]
  exact List.getElem?_eq_getElem _
theorem ixN_nat {n : Nat} {i : Int} (h0 : 0 ≤ i) (h1 : i < (n : Nat)) : ixN n i = some i.toNat := by
  unfold L2.ixN
  rw [if_pos h0, if_pos h1]
theorem pow_lt64 {x : Int} (h0 : 0 ≤ x) (h1 : x < 2 ^ 63) : CPow x 5 := ⟨by decide, by decide, by omega⟩
theorem divW {i j : Int} (h0 : 0 < j) (h1 : j < 2 ^ 200) : CDivW i j := wide_div (b := 200) h0 (by omega) (by decide) (by decide)
end DL

/-! DN: values small enough to be written; picks from written lists; comprehensions and loops by what holds of them. -/
namespace DL
open PySem PySem.Spec L2
/-- may be written: nothing raw, so deep at most, so long at most -/
structure Nice (k n : Nat) (d : D) : Prop where
  ok : d.ok = true
  sh : d.py.showable = true
  dp : d.py.depth ≤ k
  sz : d.py.shown.length ≤ n
theorem Nice.mono {k n k' n' : Nat} {d : D} (h : Nice k n d) (a : k ≤ k') (b : n ≤ n') : Nice k' n' d := ⟨h.ok, h.sh, Nat.le_trans h.dp a, Nat.le_trans h.sz b⟩
theorem Nice.shows {k n : Nat} {d : D} (h : Nice k n d) (a : k ≤ 60) (b : n ≤ sizeLine) : Shows d := ⟨h.ok, h.sh, Nat.le_trans h.dp a, Nat.le_trans h.sz b⟩
theorem nice_bl {k n : Nat} (b : Bool) (h : 5 ≤ n) : Nice k n (.bl b) := ⟨rfl, rfl, Nat.zero_le _, Nat.le_trans (by cases b <;> decide) h⟩
theorem nice_int {k n m : Nat} {i : Int} (h : i.natAbs < 2 ^ m) (h0 : 0 < m) (h1 : m ≤ 1900) (hn : m + 1 ≤ n) : Nice k n (.int i) := by
  have l : i.natAbs.log2 < m := PySem.Flt.log2_lt_of h0 h
  refine ⟨rfl, ?_, Nat.zero_le _, ?_⟩
  · simp only [D.py, PyData.showable]
    exact decide_eq_true (by omega)
  · have e := int_text_length_le (k := m) h0 l
    simp only [D.py, PyData.shown]
    show (Str.ofString (toString i)).length ≤ n
    rw [ofString_length]
    omega
theorem join_le (ts : List Str) : (Str.join ", " ts).length ≤ piled ts := by
  cases ts with
  | nil => exact Nat.zero_le _
  | cons x r =>
    have := join_length_add (x :: r) (by simp)
    omega
theorem textFrom_le : ∀ (ts : List Str) (k : Nat) (acc : Str), (textFrom k acc ts).length ≤ acc.length + piled ts
  | [], k, acc => by show acc.length ≤ _; omega
  | t :: r, k, acc => by
    have h := textFrom_le r (k + 1) (acc ++ (if k > 0 then ", " else "" : String) ++ t)
    rw [strLen_append, strLen_append] at h
    rw [piled_cons]
    have e : (Str.ofString (if k > 0 then ", " else "" : String)).length ≤ 2 := by split <;> decide
    show (textFrom (k + 1) (acc ++ (if k > 0 then ", " else "" : String) ++ t) r).length ≤ _
    omega
theorem listText_le (ts : List Str) : (listText ts).length ≤ piled ts + 2 := by
  have h := textFrom_le ts 0 "["
  unfold listText
  rw [strLen_append]
  have e1 : (Str.ofString "[").length = 1 := by decide
  have e2 : (Str.ofString "]").length = 1 := by decide
  omega
theorem tupleText_le (ts : List Str) : (tupleText ts).length ≤ piled ts + 3 := by
  have h := join_le ts
  unfold tupleText
  rw [strLen_append, strLen_append]
  have e1 : (Str.ofString "(").length = 1 := by decide
  have e2 : (Str.ofString (if ts.length == 1 then ",)" else ")" : String)).length ≤ 2 := by split <;> decide
  omega
structure NiceAll (k n : Nat) (xs : List D) : Prop where
  ok : okAll xs = true
  sh : PyData.showableAll (pyAll xs) = true
  dp : PyData.depthAll (pyAll xs) ≤ k
  sz : piled (PyData.shownAll (pyAll xs)) ≤ xs.length * (n + 2)
theorem nice_all {k n : Nat} : ∀ {xs : List D}, (∀ x ∈ xs, Nice k n x) → NiceAll k n xs
  | [], _ => ⟨rfl, rfl, Nat.zero_le _, by simp [pyAll, PyData.shownAll, piled]⟩
  | x :: xs, h => by
    have hx := h x (by simp)
    have hr := nice_all fun y hy => h y (List.mem_cons_of_mem _ hy)
    refine ⟨?_, ?_, ?_, ?_⟩
    · simp [okAll, hx.ok, hr.ok]
    · simp [pyAll, PyData.showableAll, hx.sh, hr.sh]
    · simp only [pyAll, PyData.depthAll]
      exact Nat.max_le.mpr ⟨hx.dp, hr.dp⟩
    · simp only [pyAll, PyData.shownAll, piled_cons, List.length_cons]
      have h1 := hx.sz
      have h2 := hr.sz
      rw [Nat.add_mul]
      omega
theorem nice_tup {k n k' n' : Nat} {xs : List D} (h : ∀ x ∈ xs, Nice k n x) (hk : k + 1 ≤ k') (hn : xs.length * (n + 2) + 3 ≤ n') : Nice k' n' (.tup xs) := by
  have a := nice_all h
  refine ⟨by simpa [D.ok] using a.ok, by simpa [D.py, PyData.showable] using a.sh, ?_, ?_⟩
  · have := a.dp
    simp only [D.py, PyData.depth]
    omega
  · have h1 := tupleText_le (PyData.shownAll (pyAll xs))
    have h2 := a.sz
    simp only [D.py, PyData.shown]
    omega
theorem nice_lst {k n k' n' : Nat} {xs : List D} (h : ∀ x ∈ xs, Nice k n x) (hk : k + 1 ≤ k') (hn : xs.length * (n + 2) + 2 ≤ n') : Nice k' n' (.lst xs) := by
  have a := nice_all h
  refine ⟨by simpa [D.ok] using a.ok, by simpa [D.py, PyData.showable] using a.sh, ?_, ?_⟩
  · have := a.dp
    simp only [D.py, PyData.depth]
    omega
  · have h1 := listText_le (PyData.shownAll (pyAll xs))
    have h2 := a.sz
    simp only [D.py, PyData.shown]
    omega
theorem nice_str {k n : Nat} {x : Str} (h : (reprText x).length ≤ n) : Nice k n (.str x) := ⟨rfl, rfl, Nat.zero_le _, by simpa only [D.py, PyData.shown] using h⟩
theorem all_nil {Y : D → Prop} : ∀ x ∈ ([] : List D), Y x := fun _ h => nomatch h
theorem all_cons {Y : D → Prop} {a : D} {xs : List D} (h : Y a) (t : ∀ x ∈ xs, Y x) : ∀ x ∈ a :: xs, Y x := fun x hx => by
  rcases List.mem_cons.mp hx with e | hx
  · rw [e]; exact h
  · exact t x hx
theorem all_app {Y : D → Prop} {xs ys : List D} (h : ∀ x ∈ xs, Y x) (t : ∀ x ∈ ys, Y x) : ∀ x ∈ xs ++ ys, Y x := fun x hx => (List.mem_append.mp hx).elim (h x) (t x)
section
variable {ρ : Rho} {ω : Om} {Q : DQ} {xs : List D} {i : Int}
/-- an item of a written list, whichever it is -/
theorem st_pick (Y : D → Prop) (h0 : 0 ≤ i) (h1 : i < (xs.length : Nat)) (all : ∀ x ∈ xs, Y x) (k : ∀ d, Y d → Q d ω) : dIx (.lst xs) (.int i) ω Q :=
  st_ixL (atI_nat h0 h1) (k _ (all _ (List.getElem_mem _)))
/-! ### comprehensions -/
variable {Ti : TID} {gd : TGD} {Tt : TTD} {Te : TD} {vs : List Nat} {P : Om → Prop} {F : List D → Om → Prop} {T : TAD}
theorem st_lc (h : Ti ρ ω fun xs P ω1 => lcBody gd Tt Te vs ρ xs P ω1 fun acc ω2 => Q (.lst acc) ω2) : dLc Ti gd Tt Te vs ρ ω Q := h
theorem st_lcO (h : Ti ρ ω fun xs P ω1 => lcBody gd Tt Te vs ρ xs P ω1 fun acc ω2 => ∀ p, ω2 p = none → Q (.raw (.ref p)) (oset ω2 p (.lst acc))) : dLcO Ti gd Tt Te vs ρ ω Q := h
variable {QI : List D → (Om → Prop) → Om → Prop} {n : Int}
theorem st_rng1 (h : T ρ ω fun xs ω1 => ∃ n : Int, xs = [.int n] ∧ -(2 ^ 62) ≤ n ∧ n < 2 ^ 62 ∧ QI (rngD 0 n.toNat) (fun _ => True) ω1) : dRng1 T ρ ω QI := h
theorem st_rng1' {Z : Int → Prop} (l : -(2 ^ 62) ≤ n) (u : n < 2 ^ 62) (h : Z n) : ∃ m : Int, [D.int n] = [.int m] ∧ -(2 ^ 62) ≤ m ∧ m < 2 ^ 62 ∧ Z m := ⟨n, rfl, l, u, h⟩
theorem st_tupRg {T : TAD} (h : T ρ ω fun xs ω1 => ∃ n, xs = [.int n] ∧ RgOk 0 n ∧ Q (.tup (rngD 0 n.toNat)) ω1) : dTupRg T ρ ω Q := h
theorem st_items (h : Ta ρ ω fun x ω1 => (∃ xs, seqD x = some xs ∧ QI xs (fun _ => True) ω1) ∨ ∃ p xs, x = .raw (.ref p) ∧ ω1 p = some (.lst xs) ∧ QI xs (fun ω => ω p = some (.lst xs)) ω1) : dItems Ta ρ ω QI := h
theorem st_itemsL {p : Prop} {Z : List D → Prop} (h : Z xs) : (∃ ys, seqD (.lst xs) = some ys ∧ Z ys) ∨ p := .inl ⟨xs, rfl, h⟩
theorem st_itemsT {p : Prop} {Z : List D → Prop} (h : Z xs) : (∃ ys, seqD (.tup xs) = some ys ∧ Z ys) ∨ p := .inl ⟨xs, rfl, h⟩
theorem st_enum (h : T ρ ω fun ds ω1 => ∃ xs, ds = [.tup xs] ∧ QI (enumD xs) (fun _ => True) ω1) : dEnum T ρ ω QI := h
theorem st_enum' {Z : List D → Prop} (h : Z xs) : ∃ ys, [D.tup xs] = [.tup ys] ∧ Z ys := ⟨xs, rfl, h⟩
/-- no test: each item gives some value with Y, the world keeps J -/
theorem lc_map (Y : D → D → Prop) (J : Nat → Om → Prop) (j0 : J 0 ω) (jp : ∀ i ω, J i ω → P ω) (sz : xs.length ≤ sizeLine)
    (step : ∀ i d ω (Z : DQ), xs[i]? = some d → J i ω → (∀ y ω', Y d y → J (i + 1) ω' → Z y ω') → gd d (wipeD ρ vs) ω fun ρ2 ω2 => Te ρ2 ω2 Z)
    (fin : ∀ acc ω, acc.length = xs.length → (∀ (i : Nat) y, acc[i]? = some y → ∃ d, xs[i]? = some d ∧ Y d y) → J xs.length ω → F acc ω) : lcBody gd dYes Te vs ρ xs P ω F := by
  refine ⟨fun i acc ω => i ≤ xs.length ∧ acc.length = i ∧ (∀ (j : Nat) y, acc[j]? = some y → ∃ d, xs[j]? = some d ∧ Y d y) ∧ J i ω, ⟨Nat.zero_le _, rfl, fun j y e => by simp at e, j0⟩, fun i acc ω h => jp i ω h.2.2.2, fun i d acc ω e h => ?_, fun acc ω h => fin acc ω h.2.1 h.2.2.1 h.2.2.2⟩
  obtain ⟨hi, hl, ha, hj⟩ := h
  have li : i < xs.length := (List.getElem?_eq_some_iff.mp e).1
  refine step i d ω _ e hj fun y ω' hy hj' => ⟨by omega, li, by rw [List.length_append, hl]; rfl, fun j z ez => ?_, hj'⟩
  by_cases hj2 : j < acc.length
  · rw [List.getElem?_append_left hj2] at ez
    exact ha j z ez
  · rw [List.getElem?_append_right (Nat.le_of_not_lt hj2)] at ez
    have ej : j - acc.length = 0 := by
      cases q : j - acc.length with
      | zero => rfl
      | succ m => rw [q] at ez; simp at ez
    have ej2 : j = i := by omega
    rw [ej] at ez
    cases ez
    subst ej2
    exact ⟨d, e, hy⟩
/-- a test and a value that are functions of the item; the world stays as it is -/
theorem lc_fun (t : D → Bool) (f : D → D) (sz : xs.length ≤ sizeLine) (hP : P ω)
    (step : ∀ d (Z : List D → Om → Prop) (acc : List D), d ∈ xs → acc.length < sizeLine → (t d = true → Z (acc ++ [f d]) ω) → (t d = false → Z acc ω) → gd d (wipeD ρ vs) ω fun ρ2 ω2 => Tt ρ2 ω2 fun b ω3 => if b = true then Te ρ2 ω3 fun y ω4 => acc.length < sizeLine ∧ Z (acc ++ [y]) ω4 else Z acc ω3)
    (fin : F ((xs.filter t).map f) ω) : lcBody gd Tt Te vs ρ xs P ω F := by
  refine ⟨fun i acc ω' => i ≤ xs.length ∧ acc = ((xs.take i).filter t).map f ∧ ω' = ω, ⟨Nat.zero_le _, rfl, rfl⟩, fun i acc ω' h => h.2.2 ▸ hP, fun i d acc ω' e h => ?_, fun acc ω' h => ?_⟩
  · obtain ⟨hi, rfl, rfl⟩ := h
    obtain ⟨li, ed⟩ := List.getElem?_eq_some_iff.mp e
    have tk : xs.take (i + 1) = xs.take i ++ [d] := by rw [List.take_succ, e]; rfl
    have ll : (((xs.take i).filter t).map f).length < sizeLine := by
      rw [List.length_map]
      have := List.length_filter_le t (xs.take i)
      rw [List.length_take] at this
      omega
    refine step d (fun acc' ω'' => i + 1 ≤ xs.length ∧ acc' = ((xs.take (i + 1)).filter t).map f ∧ ω'' = ω') _ (List.mem_of_getElem? e) ll (fun ht => ⟨li, ?_, rfl⟩) fun ht => ⟨li, ?_, rfl⟩
    · rw [tk, List.filter_append, List.map_append]
      simp [ht]
    · rw [tk, List.filter_append, List.map_append]
      simp [ht]
  · obtain ⟨_, rfl, rfl⟩ := h
    rw [List.take_length] at *
    exact fin
/-- a loop: what holds of its slots and the world between two turns -/
theorem st_for {E : DEnds} {g : TGD} {Tb : TSD} (h : Ti ρ ω fun xs P ω1 => ∃ I : Nat → Rho → Om → Prop, I 0 ρ ω1 ∧ (∀ i ρ ω, I i ρ ω → P ω) ∧ (∀ i d ρ ω, xs[i]? = some d → I i ρ ω → g d ρ ω fun ρ2 ω2 => Tb { E with nx := I (i + 1), ct := I (i + 1), bk := E.nx } ρ2 ω2) ∧ ∀ ρ ω, I xs.length ρ ω → E.nx ρ ω) : dFor Ti g Tb E ρ ω := h
end
end DL
namespace DL
open PySem PySem.Spec L2
section
variable {ρ : Rho} {ω : Om} {Q : DQ} {xs : List D} {i k : Int} {a p : Addr} {N : Nat}
theorem st_p6 (h : Q (.int 1000000) ω) : dPow (.int 10) (.int 6) ω Q := st_pow ⟨by decide, by decide, by decide⟩ h
theorem st_p18 (h : Q (.int 1000000000000000000) ω) : dPow (.int 10) (.int 18) ω Q := st_pow ⟨by decide, by decide, by decide⟩ h
theorem st_p39 (h : Q (.int 1000000000000000000000000000000000000000) ω) : dPow (.int 10) (.int 39) ω Q := st_pow ⟨by decide, by decide, by decide⟩ h
theorem cut_to {α : Type} {xs : List α} {k : Int} (h : 0 ≤ k) : cutD xs none (some k) = xs.take k.toNat := by
  unfold cutD
  have e : HT.sIx xs.length xs.length (some k) = min k.toNat xs.length := by
    have := HT.sIx_nat xs.length xs.length k.toNat
    rw [Int.toNat_of_nonneg h] at this
    exact this
  rw [e, HT.sIx_none, List.drop_zero, Nat.sub_zero]
  by_cases l : k.toNat ≤ xs.length
  · rw [Nat.min_eq_left l]
  · rw [Nat.min_eq_right (by omega), List.take_length, List.take_of_length_le (by omega)]
theorem cut_from {α : Type} {xs : List α} {k : Int} (h : 0 ≤ k) : cutD xs (some k) none = xs.drop k.toNat := by
  unfold cutD
  have e : HT.sIx xs.length 0 (some k) = min k.toNat xs.length := by
    have := HT.sIx_nat xs.length 0 k.toNat
    rw [Int.toNat_of_nonneg h] at this
    exact this
  rw [e, HT.sIx_none]
  by_cases l : k.toNat ≤ xs.length
  · rw [Nat.min_eq_left l, List.take_of_length_le (by rw [List.length_drop]; omega)]
  · rw [Nat.min_eq_right (by omega), List.drop_length, List.drop_of_length_le (by omega)]
    simp
theorem ints_of : ∀ {xs : List D}, (∀ x ∈ xs, ∃ i, x = .int i) → ∃ ns : List Int, xs = ns.map D.int
  | [], _ => ⟨[], rfl⟩
  | x :: xs, h => by
    obtain ⟨i, e⟩ := h x (by simp)
    obtain ⟨ns, e2⟩ := ints_of fun y hy => h y (List.mem_cons_of_mem _ hy)
    exact ⟨i :: ns, by rw [e, e2]; rfl⟩
theorem flat_ints : ∀ ns : List Int, flatAll (ns.map D.int) = true
  | [] => rfl
  | n :: ns => by simp [flatAll, D.flat, flat_ints ns]
theorem lay_ints : ∀ ns : List Int, PyData.canLayAll0 (pyAll (ns.map D.int)) = true ∧ PyData.depthAll (pyAll (ns.map D.int)) = 0
  | [] => ⟨rfl, rfl⟩
  | n :: ns => by
    obtain ⟨h1, h2⟩ := lay_ints ns
    simp [pyAll, D.py, PyData.canLayAll0, PyData.canLay0, PyData.depthAll, PyData.depth, h1, h2]
/-- the deck, and nothing else owned -/
def DeckA (ω : Om) (a p : Addr) (N : Nat) : Prop := Deck ω a p N ∧ Alone ω a p
theorem DeckA.le {M : Nat} (h : DeckA ω a p N) (l : N ≤ M) : DeckA ω a p M := by
  obtain ⟨⟨n, c, m, h1, h2, h3, h4⟩, al⟩ := h
  exact ⟨⟨n, c, m, h1, h2, Nat.le_trans h3 l, h4⟩, al⟩
end
theorem nice_of {k n : Nat} {d : D} (h : (d.ok && d.py.showable && decide (d.py.depth ≤ k) && decide (d.py.shown.length ≤ n)) = true) : Nice k n d := by
  rw [Bool.and_eq_true, Bool.and_eq_true, Bool.and_eq_true] at h
  exact ⟨h.1.1.1, h.1.1.2, of_decide_eq_true h.1.2, of_decide_eq_true h.2⟩
theorem all_ints {Y : D → Prop} {ns : List Int} (h : ∀ n ∈ ns, Y (.int n)) : ∀ x ∈ ns.map D.int, Y x := fun x hx => by
  obtain ⟨n, hn, rfl⟩ := List.mem_map.mp hx
  exact h n hn
end DL

/-! DU: a tuple turned round, sorted(set(t)) of ints, != of lists of two lengths, in, is of truth values. -/
namespace DL
open PySem PySem.Spec PyProof.Rows L2 HT
/-! ### lists of two lengths -/
section
variable {X : Cx} {K : PySem.W.Frag}
def rNeL (K : PySem.W.Frag) : R2 := fun x y H Q => ∃ a b xs ys, x = .ref a ∧ y = .ref b ∧ SqL K H a xs ∧ SqL K H b ys ∧ xs.length ≠ ys.length ∧ Q (.bl true) H
def dNeL : DO2 := fun x y ω Q => ∃ xs ys, x = .lst xs ∧ y = .lst ys ∧ xs.length ≠ ys.length ∧ Q (.bl true) ω
def dOr2 (o o' : DO2) : DO2 := fun x y ω Q => o x y ω Q ∨ o' x y ω Q
/-! ### is, of truth values -/
def dIsB : DO2 := fun x y ω Q => ∃ a b, x = .bl a ∧ y = .bl b ∧ Q (.bl (decide (a = b))) ω
/-! ### in, of ints -/
def dIn (neg : Bool) : DO2 := fun x y ω Q => ∃ (i : Int) (ns : List Int), x = .int i ∧ (y = .lst (ns.map D.int) ∨ y = .tup (ns.map D.int)) ∧ Q (.bl (if neg then !decide (i ∈ ns) else decide (i ∈ ns))) ω
end
/-! ### a tuple turned round -/
section
variable {P : Program} {w : World} {A : Around} {E : Value → Shared → Prop} {s : Shared}
end
section
variable {X : Cx} {a e : Expr} {Ta : TD}
def tRevU (K : PySem.W.Frag) (te : TE) : TE := fun σ H Q => te σ H fun x H1 => ∃ a xs, x = .ref a ∧ SqT K H1 a xs ∧ ∀ p, H1 p = none → Q (.ref p) (upd H1 p (.tup xs.reverse))
def dRev (Ta : TD) : TD := fun ρ ω Q => Ta ρ ω fun x ω1 => ∃ xs, x = .tup xs ∧ Q (.tup xs.reverse) ω1
end
/-! ### sorted(set(t)) -/
section
variable {X : Cx} {a : Expr} {Ta : TD} {p p1 p2 pos : Pos}
def rSetI (K : PySem.W.Frag) (w : World) : List V → Hp → VK → Prop := fun vs H Q => ∃ (l : Addr) (ns : List Int), vs = [V.ref l] ∧ SqT K H l (ns.map V.int) ∧ ns.length < 64 ∧
  ∀ a n, H a = none → n ≤ ns.length → Q (.ref a) (upd H a (SetO w a (fun j => decide (j ∈ ns)) n))
def dSoSet (Ta : TD) : TD := fun ρ ω Q => Ta ρ ω fun x ω1 => ∃ ns : List Int, x = .tup (ns.map D.int) ∧ ns.length < 64 ∧ ∀ ns' : List Int, ns'.Pairwise (· < ·) → (∀ k : Int, k ∈ ns' ↔ k ∈ ns) → Q (.lst (ns'.map D.int)) ω1
end
end DL
namespace DL
open PySem PySem.Spec L2
section
variable {ρ : Rho} {ω : Om} {Q : DQ} {xs ys : List D} {i : Int} {ns : List Int} {Ta : TD} {neg : Bool} {x y : D}
theorem st_yes {QB : Bool → Om → Prop} (h : QB true ω) : dYes ρ ω QB := h
theorem st_rev (h : Ta ρ ω fun x ω1 => ∃ xs, x = .tup xs ∧ Q (.tup xs.reverse) ω1) : dRev Ta ρ ω Q := h
theorem st_rev' {Z : List D → Prop} (h : Z xs) : ∃ ys, D.tup xs = .tup ys ∧ Z ys := ⟨xs, rfl, h⟩
theorem st_soSet (h : Ta ρ ω fun x ω1 => ∃ ns : List Int, x = .tup (ns.map D.int) ∧ ns.length < 64 ∧ ∀ ns' : List Int, ns'.Pairwise (· < ·) → (∀ k : Int, k ∈ ns' ↔ k ∈ ns) → Q (.lst (ns'.map D.int)) ω1) : dSoSet Ta ρ ω Q := h
theorem st_isB {a b : Bool} (h : Q (.bl (decide (a = b))) ω) : dIsB (.bl a) (.bl b) ω Q := ⟨a, b, rfl, rfl, h⟩
theorem st_inL (h : Q (.bl (if neg then !decide (i ∈ ns) else decide (i ∈ ns))) ω) : dIn neg (.int i) (.lst (ns.map D.int)) ω Q := ⟨i, ns, rfl, .inl rfl, h⟩
theorem eqv_ints : ∀ ns ms : List Int, PyData.eqvAll (pyAll (ns.map D.int)) (pyAll (ms.map D.int)) = decide (ns = ms)
  | [], [] => by simp [pyAll, PyData.eqvAll]
  | [], _ :: _ => by simp [pyAll, PyData.eqvAll]
  | _ :: _, [] => by simp [pyAll, PyData.eqvAll]
  | n :: ns, m :: ms => by
    have ih := eqv_ints ns ms
    simp only [List.map_cons, pyAll, D.py, PyData.eqvAll, ih, PyData.eqv]
    by_cases e : n = m <;> by_cases e2 : ns = ms <;> simp [e, e2]
/-- two lists of the same two texts -/
theorem st_neStr2 {s : Str} (ok : PyData.strOk s = true) (h : Q (.bl false) ω) : dEq true (.lst [.str s, .str s]) (.lst [.str s, .str s]) ω Q := by
  show eqD _ _ ∧ Q _ ω
  refine ⟨⟨rfl, rfl, ?_, ?_⟩, ?_⟩
  · simp [SeqAt.shaped, D.py, pyAll, PyData.canLay0, PyData.canLayAll0, PyData.depth, PyData.depthAll, ok]
  · simp [SeqAt.shaped, D.py, pyAll, PyData.canLay0, PyData.canLayAll0, PyData.depth, PyData.depthAll, ok]
  · have e : PyData.eqv (D.lst [.str s, .str s]).py (D.lst [.str s, .str s]).py = true := by simp [D.py, pyAll, PyData.eqv, PyData.eqvAll]
    rw [e]
    exact h
variable {Ti : TID} {gd : TGD} {Tt : TTD} {Te : TD} {vs : List Nat} {P : Om → Prop} {F : List D → Om → Prop}
/-- some of the items, each kept one with Y; the world goes on as J says -/
theorem lc_any (Y : D → Prop) (J : Nat → Om → Prop) (j0 : J 0 ω) (jp : ∀ i ω, J i ω → P ω) (sz : xs.length ≤ sizeLine)
    (step : ∀ i d ω (Z : List D → Om → Prop) (acc : List D), xs[i]? = some d → J i ω → acc.length < sizeLine → (∀ y ω', Y y → J (i + 1) ω' → Z (acc ++ [y]) ω') → (∀ ω', J (i + 1) ω' → Z acc ω') →
      gd d (wipeD ρ vs) ω fun ρ2 ω2 => Tt ρ2 ω2 fun b ω3 => if b = true then Te ρ2 ω3 fun y ω4 => acc.length < sizeLine ∧ Z (acc ++ [y]) ω4 else Z acc ω3)
    (fin : ∀ acc ω, acc.length ≤ xs.length → (∀ y ∈ acc, Y y) → J xs.length ω → F acc ω) : lcBody gd Tt Te vs ρ xs P ω F := by
  refine ⟨fun i acc ω => i ≤ xs.length ∧ acc.length ≤ i ∧ (∀ y ∈ acc, Y y) ∧ J i ω, ⟨Nat.zero_le _, Nat.le_refl _, fun y hy => (nomatch hy), j0⟩, fun i acc ω h => jp i ω h.2.2.2, fun i d acc ω e h => ?_, fun acc ω h => fin acc ω h.2.1 h.2.2.1 h.2.2.2⟩
  obtain ⟨hi, hl, ha, hj⟩ := h
  have li : i < xs.length := (List.getElem?_eq_some_iff.mp e).1
  refine step i d ω (fun acc' ω' => i + 1 ≤ xs.length ∧ acc'.length ≤ i + 1 ∧ (∀ y ∈ acc', Y y) ∧ J (i + 1) ω') acc e hj (by omega) (fun y ω' hy hj' => ⟨li, ?_, all_app ha (all_cons hy all_nil), hj'⟩) fun ω' hj' => ⟨li, by omega, ha, hj'⟩
  rw [List.length_append]
  exact Nat.add_le_add_right hl 1
theorem sorted_eq : ∀ {as bs : List Int}, as.Pairwise (· < ·) → bs.Pairwise (· < ·) → (∀ k, k ∈ as ↔ k ∈ bs) → as = bs
  | [], [], _, _, _ => rfl
  | [], b :: bs, _, _, h => absurd ((h b).mpr (by simp)) (by simp)
  | a :: as, [], _, _, h => absurd ((h a).mp (by simp)) (by simp)
  | a :: as, b :: bs, pa, pb, h => by
    obtain ⟨ha, qa⟩ := List.pairwise_cons.mp pa
    obtain ⟨hb, qb⟩ := List.pairwise_cons.mp pb
    have e : a = b := by
      rcases List.mem_cons.mp ((h a).mp (by simp)) with z | z
      · exact z
      · rcases List.mem_cons.mp ((h b).mpr (by simp)) with y | y
        · exact y.symm
        · have := hb a z
          have := ha b y
          omega
    subst e
    have ih : as = bs := sorted_eq qa qb fun k => ⟨fun hk => by
      rcases List.mem_cons.mp ((h k).mp (List.mem_cons_of_mem _ hk)) with z | z
      · have := ha k hk
        omega
      · exact z, fun hk => by
      rcases List.mem_cons.mp ((h k).mpr (List.mem_cons_of_mem _ hk)) with z | z
      · have := hb k hk
        omega
      · exact z⟩
    rw [ih]
theorem strOk_of {s : Str} (h : ∀ c ∈ s.cps.toList, c < 0x110000) : PyData.strOk s = true := by
  unfold PyData.strOk
  exact Array.all_eq_true_iff_forall_mem.mpr fun c hc => by
    have := h c (Array.mem_toList_iff.mpr hc)
    simpa using this
theorem strOk_int (i : Int) : PyData.strOk (D.int i).py.shown = true := strOk_of fun c hc => by
  by_cases h : c < 58
  · omega
  · exact absurd hc (PyProof.Rows.int_text_free' c ⟨by omega, by omega⟩ i)
end
end DL

/-! DW: set(xs) of a list of ints, sorted of ints, owned lists that grow. -/
namespace DL
open PySem PySem.Spec PyProof.Rows L2 HT
section
variable {P : Program} {w : World} {A : Around} {E : Value → Shared → Prop} {s : Shared}
set_option quotPrecheck false
set_option maxHeartbeats 8000000 in
/-- as for a tuple, of a list -/
theorem call_set_lstI {l : Addr} {items : Array Value} (ns : List Int) {Q : Value → Shared → Prop} (hh : A.handled = none) (hl : s.heap.IsList l items) (it : IntsAre items.toList ns) (few : ns.length + 1 < scanBound)
    (h : ∀ (g : Heap) (tk c : Nat), SetR w g s.heap.objs.size (fun j => decide (j ∈ ns)) c → c ≤ ns.length → (∀ b o, s.heap.get? b = some o → g.get? b = some o) → Q (.ref s.heap.objs.size) { s with heap := g, toks := tk }) :
    wpAny (model P w) A (call (.type "set") [.ref l]) Q E s := by
  have size : items.size = ns.length := by
    have q := IntsAre.length it
    rwa [Array.length_toList] at q
  obtain ⟨c, tl, mro⟩ := F.called_set.mro
  have made := F.called_set.made
  have sub := F.called_set.sub
  (refine wpAny_call (codeAny_of_tree ?_); show wpAny _ _ (callAny (.type "set") _) _ _ _)
  (refine wpAny_pure ⟨Code.quiet_builtin _ (by decide +kernel), codeAny_builtin F.entry_type_call ?_⟩; rw [Around.under_plain (weight_type_call_type "set" [.ref l] []) rfl])
  have a1 := F.called_set.notType
  have a2 := F.called_set.canCreate
  have a3 := F.typeCall_set_1 (.ref l)
  (repeat (any_goals (first | assumption | wp_step)))
  refine codeAny_mono (code_set_led1 (.ref l) (E := E) (Q₁ := fun v z => v = .ref s.heap.objs.size ∧ z = { s with heap := s.heap.push ({ cls := .type "set", dict := none, data := .set #[] 0 (.fresh 0 0 (!w.params.followText "set-order")) } : Obj) }) ⟨rfl, rfl⟩) fun r z hr => ?_
  cases r with
  | error e => exact hr
  | ok fl => cases fl with
    | ret v =>
      obtain ⟨rfl, rfl⟩ := hr
      have gS : (s.heap.push ({ cls := .type "set", dict := none, data := .set #[] 0 (.fresh 0 0 (!w.params.followText "set-order")) } : Obj)).get? s.heap.objs.size = some ({ cls := .type "set", dict := none, data := .set #[] 0 (.fresh 0 0 (!w.params.followText "set-order")) } : Obj) := Heap.get?_push_size _ rfl
      have gT : Shared.TypeIs { s with heap := s.heap.push ({ cls := .type "set", dict := none, data := .set #[] 0 (.fresh 0 0 (!w.params.followText "set-order")) } : Obj) } (.ref s.heap.objs.size) "set" := ⟨_, gS, rfl⟩
      have b1 := F.called_set.init.lookup
      have b2 := F.called_set.init.bind (.ref s.heap.objs.size)
      (repeat (any_goals (first | assumption | wp_step)))
      refine codeAny_mono (codeAny_call_builtin (R := wants (fun r y => r = .none ∧ ∃ g tk c, y = { s with heap := g, toks := tk } ∧ SetR w g s.heap.objs.size (fun j => decide (j ∈ ns)) c ∧ c ≤ ns.length ∧ (∀ b o, s.heap.get? b = some o → g.get? b = some o)) E) F.called_set.init.plain F.entry_set_init (check_set_init_1 gT ?_)) fun r2 y2 hr2 => ?_
      · obtain ⟨⟨ocls, od, oda, osl⟩, hol, hcl, nl, hdl⟩ := hl
        simp only at hcl hdl
        (subst hcl; subst hdl)
        have gl : (s.heap.push ({ cls := .type "set", dict := none, data := .set #[] 0 (.fresh 0 0 (!w.params.followText "set-order")) } : Obj)).get? l = some { cls := .type "list", dict := od, data := .seq items nl, slots := osl } := Heap.get?_push_of_some _ hol
        have s1 := F.sub_list_set
        have s2 := F.sub_list_frozenset
        have nd : (Value.type "list" == Value.type "dict") = false := by decide
        have il : (s.heap.push ({ cls := .type "set", dict := none, data := .set #[] 0 (.fresh 0 0 (!w.params.followText "set-order")) } : Obj)).IsList l items := ⟨_, gl, rfl, nl, rfl⟩
        (unfold Builtin.«set.__init__» noKeywords Builtin.Frozenset.updateFrom; generalize hPI : pyIter = PI)
        wp_walk
        subst hPI
        refine wpAny_pyIter_list il (wpAny_bind (wpAny_runValue ?_))
        have lt : l < s.heap.objs.size := Heap.lt_size hol
        have h3 : A.in1.in1.in1.handled = none := by simp [hh]
        have hz : (s.heap.push ({ cls := .type "set", dict := none, data := .set #[] 0 (.fresh 0 0 (!w.params.followText "set-order")) } : Obj)).objs.size = s.heap.objs.size + 1 := Heap.size_push ..
        have n1 : l ≠ (s.heap.push ({ cls := .type "set", dict := none, data := .set #[] 0 (.fresh 0 0 (!w.params.followText "set-order")) } : Obj)).objs.size := by rw [hz]; exact Nat.ne_of_lt (Nat.lt_succ_of_lt lt)
        have n2 : s.heap.objs.size ∉ [(s.heap.push ({ cls := .type "set", dict := none, data := .set #[] 0 (.fresh 0 0 (!w.params.followText "set-order")) } : Obj)).objs.size, l] := by
          rw [hz]
          simp only [List.mem_cons, List.mem_singleton, List.not_mem_nil, or_false, not_or]
          exact ⟨Nat.ne_of_lt (Nat.lt_succ_self _), Nat.ne_of_gt lt⟩
        have val : ∀ (i : Nat) (v : Value), items[i]? = some v → ∃ k t, ns[i]? = some k ∧ v = .int k t := fun i v hv => by
          have hi : i < ns.length := by rw [← size]; exact (Array.getElem?_eq_some_iff.mp hv).1
          obtain ⟨t, e⟩ := PyProof.Rows.IntsAre.int_at it i v (by rw [Array.getElem?_toList]; exact hv)
          refine ⟨ns[i], t, List.getElem?_eq_getElem hi, ?_⟩
          (rw [e, List.getD_eq_getElem?_getD, List.getElem?_eq_getElem hi]; rfl)
        refine set_update_ints ((Walks.list h3 _ l n1 items).toS) s.heap.objs.size n2 ns size few val (items.size - 0) 0 _ (by omega) (Nat.zero_le _) ⟨⟨_, Heap.get?_push_size _ rfl, rfl, rfl⟩, (il.push _)⟩ ?hA ?hB
        case hA => exact ⟨0, Nat.le_refl 0, setR_new_at (Heap.get?_push_of_some _ gS)⟩
        case hB =>
          intro y c2 hm hc2 hS2
          obtain ⟨g, g2, d2, tk2, os2⟩ := y
          have eg : g2 = s.gens := hm.gens
          have ed : d2 = s.drawn := hm.drawn
          have eo : os2 = s.os := hm.os
          (subst eg; subst ed; subst eo)
          (show wpAny _ _ _ _ _ _; refine wpAny_pure ?_; show wpAny _ _ (ret Value.none) _ _ _)
          rw [size] at hc2
          refine wpAny_pure ⟨rfl, g, tk2, c2, rfl, hS2, hc2, fun b o e => ?_⟩
          have lb : b < s.heap.objs.size := Heap.lt_size e
          have e1 : b ≠ s.heap.objs.size := Nat.ne_of_lt lb
          have e2 : b ≠ (s.heap.push ({ cls := .type "set", dict := none, data := .set #[] 0 (.fresh 0 0 (!w.params.followText "set-order")) } : Obj)).objs.size := by rw [hz]; exact Nat.ne_of_lt (Nat.lt_succ_of_lt lb)
          exact hm.heap b o (by simp only [List.mem_cons, List.mem_singleton, List.not_mem_nil, or_false, not_or]; exact ⟨e1, e2⟩) (Heap.get?_push_of_some _ (Heap.get?_push_of_some _ e))
      · cases r2 with
        | error e => exact hr2
        | ok f2 => cases f2 with
          | ret r =>
            obtain ⟨rfl, g, tk, c2, rfl, hS2, hc2, hk⟩ := hr2
            (repeat (any_goals (first | assumption | wp_step)))
            exact h _ _ _ hS2 hc2 hk
          | _ => exact hr2.elim
    | _ => exact hr.elim
end
end DL

/-! DX: sorted(set(xs)) of a list of ints, sorted of ints, owned lists that grow, slices that count from the end. -/
namespace DL
open PySem PySem.Spec PyProof.Rows L2 HT
section
variable {X : Cx} {a : Expr} {Ta : TD} {p p1 p2 pos : Pos} {K : PySem.W.Frag}
def rSetL (K : PySem.W.Frag) (w : World) : List V → Hp → VK → Prop := fun vs H Q => ∃ (l : Addr) (ns : List Int), vs = [V.ref l] ∧ SqL K H l (ns.map V.int) ∧ ns.length < 64 ∧
  ∀ a n, H a = none → n ≤ ns.length → Q (.ref a) (upd H a (SetO w a (fun j => decide (j ∈ ns)) n))
/-- sorted(set(xs)), xs a list or a tuple -/
def dSoSetL (Ta : TD) : TD := fun ρ ω Q => Ta ρ ω fun x ω1 => ∃ ns : List Int, lstOf ω1 x = some (ns.map D.int) ∧ ns.length < 64 ∧ ∀ ns' : List Int, ns'.Pairwise (· < ·) → (∀ k : Int, k ∈ ns' ↔ k ∈ ns) → ns'.length ≤ ns.length → Q (.lst (ns'.map D.int)) ω1
/-- sorted(xs) of a list of ints -/
def dSorted : DOn := fun xs ω Q => ∃ (x : D) (ns : List Int), xs = [x] ∧ lstOf ω x = some (ns.map D.int) ∧ ∀ ns' : List Int, ns'.Perm ns → ns'.Pairwise (· ≤ ·) → Q (.lst (ns'.map D.int)) ω
end
end DL
namespace DL
open PySem PySem.Spec PyProof.Rows L2
section
variable {X : Cx} {a e : Expr} {Ta Te : TD} {K : PySem.W.Frag} {h : Fp} {H : Hp} {ω : Om}
/-- a list made by + that is owned -/
def dAddO : DO2 := fun x y ω Q => ∃ xs ys, lstOf ω x = some xs ∧ lstOf ω y = some ys ∧ xs.length + ys.length ≤ sizeLine ∧ ∀ p, ω p = none → Q (.raw (.ref p)) (oset ω p (.lst (xs ++ ys)))
/-- xs.append(e), xs owned -/
def dApp (Ta Te : TD) : TD := fun ρ ω Q => Ta ρ ω fun x ω1 => ∃ p, x = .raw (.ref p) ∧ (∃ xs, ω1 p = some (.lst xs)) ∧ Te ρ ω1 fun y ω2 => ∃ xs, ω2 p = some (.lst xs) ∧ xs.length < sizeLine ∧ Q .non (oset ω2 p (.lst (xs ++ [y])))
end
section
variable {ρ : Rho} {ω : Om} {Q : DQ} {xs ys : List D} {ns : List Int} {Ta Te : TD} {x y : D} {p : Addr} {i : Int} {neg : Bool}
theorem st_app (h : Ta ρ ω fun x ω1 => ∃ p, x = .raw (.ref p) ∧ (∃ xs, ω1 p = some (.lst xs)) ∧ Te ρ ω1 fun y ω2 => ∃ xs, ω2 p = some (.lst xs) ∧ xs.length < sizeLine ∧ Q .non (oset ω2 p (.lst (xs ++ [y])))) : dApp Ta Te ρ ω Q := h
theorem st_soSetL (h : Ta ρ ω fun x ω1 => ∃ ns : List Int, lstOf ω1 x = some (ns.map D.int) ∧ ns.length < 64 ∧ ∀ ns' : List Int, ns'.Pairwise (· < ·) → (∀ k : Int, k ∈ ns' ↔ k ∈ ns) → ns'.length ≤ ns.length → Q (.lst (ns'.map D.int)) ω1) : dSoSetL Ta ρ ω Q := h
theorem st_inT (h : Q (.bl (if neg then !decide (i ∈ ns) else decide (i ∈ ns))) ω) : dIn neg (.int i) (.tup (ns.map D.int)) ω Q := ⟨i, ns, rfl, .inr rfl, h⟩
theorem eqv_tups (ns ms : List Int) : PyData.eqv (D.tup (ns.map D.int)).py (D.tup (ms.map D.int)).py = decide (ns = ms) := by
  rw [← eqv_ints]
  simp only [D.py, PyData.eqv]
theorem shaped_intsT (ns : List Int) : SeqAt.shaped (D.tup (ns.map D.int)).py = true := by
  obtain ⟨h1, h2⟩ := lay_ints ns
  simp [SeqAt.shaped, D.py, PyData.canLay0, PyData.depth, h1, h2]
theorem st_eqIntsT {ms : List Int} (h : Q (.bl (if neg then !decide (ns = ms) else decide (ns = ms))) ω) : dEq neg (.tup (ns.map D.int)) (.tup (ms.map D.int)) ω Q := by
  show eqD _ _ ∧ Q _ ω
  refine ⟨⟨by simpa [D.flat] using flat_ints ns, by simpa [D.flat] using flat_ints ms, shaped_intsT ns, shaped_intsT ms⟩, ?_⟩
  rw [eqv_tups]
  exact h
/-- what is left of a list that is cut from place -k on -/
theorem cut_last {α : Type} {xs : List α} {k : Int} (h : 0 < k) : cutD xs (some (-k)) none = xs.drop (xs.length - k.toNat) := by
  unfold cutD
  have e : HT.sIx xs.length 0 (some (-k)) = xs.length - k.toNat := by
    unfold HT.sIx
    simp only
    split <;> omega
  rw [e, HT.sIx_none, List.take_of_length_le]
  rw [List.length_drop]
  omega
end
end DL
namespace DL
open PySem PySem.Spec L2
section
variable {ω : Om} {Q : DQ} {a p : Addr} {N : Nat} {k : Int}
/-- the deck, whatever else is owned -/
def DeckW (ω : Om) (a p : Addr) (N : Nat) : Prop := Deck ω a p N
theorem DeckW.le {M : Nat} (h : DeckW ω a p N) (l : N ≤ M) : DeckW ω a p M := by
  obtain ⟨nap, c, n, h1, h2, h3, h4⟩ := h
  exact ⟨nap, c, n, h1, h2, Nat.le_trans h3 l, h4⟩
theorem DeckA.w (h : DeckA ω a p N) : DeckW ω a p N := h.1
theorem DeckW.has {b : Addr} (h : DeckW ω a p N) (e : ω b = none) : b ≠ a ∧ b ≠ p := by
  obtain ⟨nap, c, n, h1, h2, h3, h4⟩ := h
  exact ⟨fun z => (by rw [z, h1] at e; cases e), fun z => (by rw [z, h2] at e; cases e)⟩
theorem DeckW.set {b : Addr} {c : Cell} (h : DeckW ω a p N) (n1 : b ≠ a) (n2 : b ≠ p) : DeckW (oset ω b c) a p N := by
  obtain ⟨nap, cs, n, h1, h2, h3, h4⟩ := h
  exact ⟨nap, cs, n, by rw [oset_ne (Ne.symm n1)]; exact h1, by rw [oset_ne (Ne.symm n2)]; exact h2, h3, h4⟩
theorem st_drawF (d : DeckW ω a p N) (hN : N ≤ 2 ^ 40) (k0 : 0 < k) (k1 : k < 2 ^ 100) (h : ∀ (i : Int) ω', 0 ≤ i → i < k → DeckW ω' a p (N + 1) → (∀ b, b ≠ a → b ≠ p → ω' b = ω b) → Q (.int i) ω') : DrawS [.raw (.ref a), .int k] ω Q :=
  ⟨a, p, N, k, rfl, k0, k1, d, hN, fun i ω' h0 h1 hd hf => h i ω' h0 h1 hd hf⟩
end
end DL

/-! DY: sorted(t) of a tuple of ints. -/
namespace DL
open PySem PySem.Spec PyProof.Rows L2 HT
section
variable {prog : Program} {w : World} {A : Around} {E : Value → Shared → Prop} {s : Shared}
theorem collect_tup {l : Addr} {vs : List Value} {Q : List Value → Shared → Prop} (ht : IsTup s.heap l vs.toArray) (sz : vs.length ≤ sizeLine)
    (h : Q vs { s with heap := (s.heap.push (seqObj "list" #[] 0)).update s.heap.objs.size (Obj.mapSeq (· ++ vs.toArray)) }) : wpAny (model prog w) A (collect (.ref l)) Q E s := by
  obtain ⟨o, ho, hc, n, hd⟩ := id ht
  (unfold collect; refine wpAny_bind (wpAny_runValue (codeAny_builtin entry_proto_collect' ?_)))
  (show wpAny _ _ (do again (.builtin "list.__iadd__" ⟨[← newList [], .ref l], []⟩)) _ _ s)
  (refine wpAny_bind (wpAny_newList (wpAny_pure ⟨Code.quiet_builtin _ (by decide +kernel), codeAny_builtin entry_list_iadd' ?_⟩)))
  (show wpAny _ _ (Builtin.List.listExtendWith (.ref s.heap.objs.size) (.ref l) (.ref s.heap.objs.size)) _ _ { s with heap := s.heap.push (seqObj "list" #[] 0) })
  unfold Builtin.List.listExtendWith
  have old : (s.heap.push (seqObj "list" #[] 0)).get? l = some o := Heap.get?_push_of_some _ ho
  refine wpAny_bind (wpAny_typeOf (T := "tuple") ⟨o, old, hc⟩ ?_)
  have t2 : (Value.type "tuple" == Value.type "tuple") = true := by rfl
  (rw [if_pos (by rw [t2]; simp)])
  refine wpAny_bind (listItems_at old hd ?_)
  (refine wpAny_bind (listItems_at (xs := #[]) (n := 0) (Heap.get?_push_size _ rfl) rfl ?_); rw [if_neg (by simp)])
  refine wpAny_bind (listUpdate_at (xs := #[]) (n := 0) (Heap.get?_push_size _ rfl) rfl ?_ (Nat.zero_le _) (by (show (#[] ++ vs.toArray).size ≤ sizeLine + 1); (simp only [Array.size_append, List.size_toArray, List.length_nil]; omega)))
  refine wpAny_pure ?_
  show wpAny (model prog w) A (do
      let z ← load s.heap.objs.size
      match z.data with
      | .seq xs _ => pure xs.toList
      | _ => unsupported "internal:collect") Q E { s with heap := (s.heap.push (seqObj "list" #[] 0)).update s.heap.objs.size (Obj.mapSeq (· ++ vs.toArray)) }
  refine wpAny_bind (wpAny_load (get?_update_seq (Heap.get?_push_size _ rfl) _) ?_)
  (show wpAny _ _ (pure ((#[] : Array Value) ++ vs.toArray).toList) Q E _; rw [show ((#[] : Array Value) ++ vs.toArray).toList = vs by simp])
  exact wpAny_pure h
theorem sorted_tupI {l : Addr} {vs : List Value} {ns : List Int} {Q : Value → Shared → Prop} (ht : IsTup s.heap l vs.toArray) (hI : IntsAre vs ns) (hz : vs.length ≤ sizeLine)
    (h : ∀ out : List Value, SrtO.Srtd SrtO.ltIv out → SrtO.Stb SrtO.ltIv out vs → Q (.ref (s.heap.objs.size + 1)) { s with heap := sortedAll s.heap vs out.toArray }) : wpAny (model prog w) A (call (.builtin "sorted") [.ref l]) Q E s := by
  (refine Calls.call_function_entry kind_sorted plain_sorted entry_sorted (args_sorted1 _) ?_; unfold Builtin.«sorted»)
  (refine wpAny_bind (m := checkCount "sorted" 1 1 _) (wpAny_pure ?_); refine wpAny_bind (collect_tup ht hz ?_); refine wpAny_bind (wpAny_newList ?_ hz))
  generalize hg : (s.heap.push (seqObj "list" #[] 0)).update s.heap.objs.size (Obj.mapSeq (· ++ vs.toArray)) = g
  have gs : g.objs.size = s.heap.objs.size + 1 := by rw [← hg, Heap.size_update, size_push']
  have gl : (g.push (seqObj "list" vs.toArray 0)).get? (s.heap.objs.size + 1) = some (seqObj "list" vs.toArray 0) := by rw [← gs]; exact Heap.get?_push_size _ rfl
  show wpAny _ _ _ _ _ { s with heap := g.push (seqObj "list" vs.toArray 0) }
  rw [gs]
  refine wpAny_bind (wpAny_holding (wpAny_call_entry slot_list_sort ⟨_, gl, rfl⟩ entry_list_sort (SrtO.list_sort_ord SrtO.swo_int gl hz (fun h2 => SrtO.ints_sortable hI h2) fun out hs hb => ⟨_, rfl, ?_⟩) (args_list_sort _)))
  have z := h out hs hb
  unfold sortedAll at z
  rw [hg] at z
  exact wpAny_pure ⟨_, rfl, z⟩
end
section
variable {X : Cx} {K : PySem.W.Frag} {Q : DQ} {ω : Om} {ns : List Int}
def rSortedT2 (K : PySem.W.Frag) : List V → Hp → VK → Prop := fun vs H Q => ∃ (a : Addr) (ns : List Int), vs = [V.ref a] ∧ SqT K H a (ns.map V.int) ∧
  ∀ (ns' : List Int) (p : Addr), ns'.Perm ns → ns'.Pairwise (· ≤ ·) → H p = none → Q (.ref p) (upd H p (.lst (ns'.map V.int)))
theorem cr_sortedT2 : CallR X (.builtin "sorted") (rSortedT2 X.K) := by
  intro pins s σ H vs us Q I r h
  obtain ⟨a, ns, rfl, hs, q⟩ := h
  obtain ⟨its, rv, ht, hz⟩ := I.tuple hs
  (rw [Vals.ref1 r]; have hi : IntsAre its ns := by simpa using rv.ints)
  refine sorted_tupI ht hi (by rw [← rv.length]; exact hz) fun out h1 h2 => ?_
  obtain ⟨k1, k2, k3⟩ := SrtO.ints_out hi h1 h2
  obtain ⟨ep, he⟩ := PyProof.Rows.sortedAll_at s.heap its out.toArray
  have len : ((out.map SrtO.iv).map V.int).length ≤ sizeLine := by
    rw [List.length_map, k2.length_eq]
    rwa [List.length_map] at hz
  exact ⟨.ref _, upd H (s.heap.objs.size + 1) (.lst ((out.map SrtO.iv).map V.int)), I.laid (t' := s.toks) (fun _ _ => PyProof.Rows.sortedAll_old) (Nat.le_succ _) ⟨len, out, ep, vals_of_ints k1, he⟩, rfl, q _ _ k2 k3 (I.hok.fresh (Nat.le_succ _))⟩
/-- sorted of a list or a tuple of ints -/
def dSortedA : DOn := fun xs ω Q => ∃ (x : D) (ns : List Int), xs = [x] ∧ (lstOf ω x = some (ns.map D.int) ∨ x = .tup (ns.map D.int)) ∧ ∀ ns' : List Int, ns'.Perm ns → ns'.Pairwise (· ≤ ·) → Q (.lst (ns'.map D.int)) ω
theorem cr_sortedA : CallR X (.builtin "sorted") (fun vs H Q => rSortedI X.K vs H Q ∨ rSortedT2 X.K vs H Q) := by
  intro pins s σ H vs us Q I r h
  rcases h with h | h
  · exact cr_sortedI pins s σ H vs us Q I r h
  · exact cr_sortedT2 pins s σ H vs us Q I r h
theorem ok_sortedA [Amb] : CallD K dSortedA (fun vs H Q => rSortedI K vs H Q ∨ rSortedT2 K vs H Q) := by
  intro h xs ω R vs H Q ⟨x, ns, e, t, q⟩ w r k
  subst e
  obtain ⟨v, rfl, rv⟩ := r.one
  rcases t with t | t
  · obtain ⟨a, vs, rfl, sx, ra⟩ := lstOf_sq w t rv
    have z := ra.ints
    subst z
    exact .inl ⟨a, ns, rfl, sx, fun ns' p hp hs e => k.nlst w (ds := ns'.map D.int) (q ns' hp hs) (RpAll.ofInts ns') e⟩
  · subst t
    cases rv with
    | tup s ra =>
      have z := ra.ints
      subst z
      exact .inr ⟨_, ns, rfl, s.sq, fun ns' p hp hs e => k.nlst w (ds := ns'.map D.int) (q ns' hp hs) (RpAll.ofInts ns') e⟩
theorem st_sortedT (h : ∀ ns' : List Int, ns'.Perm ns → ns'.Pairwise (· ≤ ·) → Q (.lst (ns'.map D.int)) ω) : dSortedA [.tup (ns.map D.int)] ω Q := ⟨_, ns, rfl, .inr rfl, h⟩
end
end DL

/-! Starred items of a display; a comprehension with an invariant over what it has found. -/
namespace DL
open PySem PySem.Spec L2 PyProof.Rows
section
variable {X : Cx} {Ta : TD} {T : TAD} {e : Expr} {es : List Expr} {p : Pos}
def dStar (Ta : TD) (T : TAD) : TAD := fun ρ ω Q => Ta ρ ω fun x ω1 => ∃ xs, (lstOf ω1 x = some xs ∨ x = .tup xs) ∧ T ρ ω1 fun ys ω2 => Q (xs ++ ys) ω2
theorem rpAll_app {K : PySem.W.Frag} {f : Fp} {H : Hp} {xs ys : List D} {vs us : List V} (a : RpAll K f H xs vs) (b : RpAll K f H ys us) : RpAll K f H (xs ++ ys) (vs ++ us) := by
  induction xs generalizing vs with
  | nil => cases a; exact b
  | cons x xs ih => cases a with | cons h t => exact .cons h (ih t)
theorem da_star [Amb] (ha : DE X e Ta) (hr : DA X es T) (he : starEach (.Starred e p :: es) X.env = (true, eval e X.env) :: starEach es X.env := by rfl) : DA X (.Starred e p :: es) (dStar Ta T) := by
  refine PA.weak (StX.pa_star ha hr he) fun σ H Q ⟨h, ρ, ω, R, sl, w, t, k⟩ => ?_
  refine ⟨h, ρ, ω, _, sl, w, t, fun x ω1 vx H1 t1 f1 w1 rx => ?_⟩
  obtain ⟨xs, tx, t2⟩ := t1
  have z : ∃ a vs, vx = V.ref a ∧ (SqT X.K H1 a vs ∨ SqL X.K H1 a vs) ∧ RpAll X.K (fre ω1 h) H1 xs vs := by
    rcases tx with tx | rfl
    · obtain ⟨a, vs, e, sx, ra⟩ := lstOf_sq w1 tx rx
      exact ⟨a, vs, e, .inr sx, ra⟩
    · cases rx with
      | tup s ra => exact ⟨_, _, rfl, .inl s.sq, ra⟩
  obtain ⟨a, vs, rfl, sq, ra⟩ := z
  exact ⟨a, vs, rfl, sq, h, ρ, ω1, _, sl.keep f1.kp, w1, t2, fun ys ω2 us H2 t3 f2 w2 rs => k _ ω2 _ _ t3 (f1.trans f2) w2 (rpAll_app (ra.keep f2.kp) rs)⟩
end
section
variable {ρ : Rho} {ω : Om} {Ta : TD} {T : TAD} {QL : List D → Om → Prop}
theorem st_star (h : Ta ρ ω fun x ω1 => ∃ xs, (lstOf ω1 x = some xs ∨ x = .tup xs) ∧ T ρ ω1 fun ys ω2 => QL (xs ++ ys) ω2) : dStar Ta T ρ ω QL := h
theorem st_starT {xs : List D} {Z : List D → Prop} (h : Z xs) : ∃ ys, (lstOf ω (.tup xs) = some ys ∨ D.tup xs = .tup ys) ∧ Z ys := ⟨xs, .inr rfl, h⟩
theorem st_starL {xs : List D} {Z : List D → Prop} (h : Z xs) : ∃ ys, (lstOf ω (.lst xs) = some ys ∨ D.lst xs = .tup ys) ∧ Z ys := ⟨xs, .inl rfl, h⟩
end
section
variable {ρ : Rho} {ω : Om} {xs : List D} {gd : TGD} {Tt : TTD} {Te : TD} {vs : List Nat} {P : Om → Prop} {F : List D → Om → Prop}
/-- whatever holds of what was found and of the world between two items -/
theorem lc_inv (I : Nat → List D → Om → Prop) (i0 : I 0 [] ω) (jp : ∀ i acc ω, I i acc ω → P ω) (sz : xs.length ≤ sizeLine)
    (step : ∀ i d ω (Z : List D → Om → Prop) (acc : List D), xs[i]? = some d → I i acc ω → acc.length < sizeLine → (∀ y ω', I (i + 1) (acc ++ [y]) ω' → Z (acc ++ [y]) ω') → (∀ ω', I (i + 1) acc ω' → Z acc ω') →
      gd d (wipeD ρ vs) ω fun ρ2 ω2 => Tt ρ2 ω2 fun b ω3 => if b = true then Te ρ2 ω3 fun y ω4 => acc.length < sizeLine ∧ Z (acc ++ [y]) ω4 else Z acc ω3)
    (fin : ∀ acc ω, acc.length ≤ xs.length → I xs.length acc ω → F acc ω) : lcBody gd Tt Te vs ρ xs P ω F := by
  refine ⟨fun i acc ω => i ≤ xs.length ∧ acc.length ≤ i ∧ I i acc ω, ⟨Nat.zero_le _, Nat.le_refl _, i0⟩, fun i acc ω h => jp i acc ω h.2.2, fun i d acc ω e h => ?_, fun acc ω h => fin acc ω h.2.1 h.2.2⟩
  obtain ⟨hi, hl, hj⟩ := h
  have li : i < xs.length := (List.getElem?_eq_some_iff.mp e).1
  refine step i d ω (fun acc' ω' => i + 1 ≤ xs.length ∧ acc'.length ≤ i + 1 ∧ I (i + 1) acc' ω') acc e hj (by omega) (fun y ω' hj' => ⟨li, ?_, hj'⟩) fun ω' hj' => ⟨li, by omega, hj'⟩
  rw [List.length_append]
  exact Nat.add_le_add_right hl 1
end
theorem st_negT {b c : Bool} {Y Z : Prop} (h : if b = true then Y else Z) : if (if true = true then b else c) = true then Y else Z := h
theorem st_negF {b c : Bool} {Y Z : Prop} (h : if c = true then Y else Z) : if (if false = true then b else c) = true then Y else Z := h
theorem st_sameN {a : Str} {i : Decidable (a = a)} {Y Z : Prop} (h : Z) : if (!(@decide (a = a) i)) = true then Y else Z := by rw [decide_eq_true rfl]; exact h
theorem st_sameP {a : Str} {i : Decidable (a = a)} {Y Z : Prop} (h : Y) : if (@decide (a = a) i) = true then Y else Z := by rw [decide_eq_true rfl]; exact h
end DL

/-! Equality of pairs of groups. -/
namespace DL
open PySem PySem.Spec L2 PyProof.Rows
section
variable {neg : Bool} {Q : DQ} {ω : Om}
def pairD (a b : List Int) : D := .tup [.tup (a.map D.int), .tup (b.map D.int)]
theorem flat_tups (ns : List Int) : (D.tup (ns.map D.int)).flat = true := by simpa [D.flat] using flat_ints ns
theorem flat_pair (a b : List Int) : (pairD a b).flat = true := by
  have h1 := flat_tups a
  have h2 := flat_tups b
  simp only [D.flat] at h1 h2
  simp [pairD, D.flat, flatAll, h1, h2]
end
end DL

/-! Shifts, while loops, what is owned besides. -/
namespace DL
open PySem PySem.Spec L2 PyProof.Rows
abbrev dShr : DO2 := dI2 (fun _ j => 0 ≤ j) fun i j => i / 2 ^ j.toNat
abbrev dShl : DO2 := dI2 CPow fun i j => i * 2 ^ j.toNat
section
variable {Q : DQ} {ω : Om} {ρ : Rho} {i j : Int}
theorem st_while {A : TTD} {Tb : TSD} {E : DEnds} (h : ∃ I : Nat → Rho → Om → Prop, (∃ m, I m ρ ω) ∧
  ∀ m ρ ω, I m ρ ω → A ρ ω fun b ω1 => if b = true then Tb { E with nx := fun ρ2 ω2 => ∃ m2, m2 < m ∧ I m2 ρ2 ω2, ct := fun ρ2 ω2 => ∃ m2, m2 < m ∧ I m2 ρ2 ω2, bk := E.nx } ρ ω1 else E.nx ρ ω1) : dWhile A Tb E ρ ω := h
end
/-- what was owned is as it was -/
def Ext (ω ω' : Om) : Prop := ∀ b, ω b ≠ none → ω' b = ω b
theorem Ext.refl {ω : Om} : Ext ω ω := fun _ _ => rfl
theorem Ext.trans {ω ω1 ω2 : Om} (a : Ext ω ω1) (b : Ext ω1 ω2) : Ext ω ω2 := fun x h => (b x (by rw [a x h]; exact h)).trans (a x h)
theorem Ext.new {ω ω' : Om} {p : Addr} (e : ω p = none) (h : ∀ b, b ≠ p → ω' b = ω b) : Ext ω ω' := fun b hb => h b fun z => hb (z ▸ e)
theorem Ext.cell {ω ω' : Om} {p : Addr} {c : Cell} (x : Ext ω ω') (e : ω p = some c) : ω' p = some c := (x p (by rw [e]; exact fun z => nomatch z)).trans e
theorem DeckW.ext {ω ω' : Om} {a p : Addr} {N : Nat} (d : DeckW ω a p N) (x : Ext ω ω') : DeckW ω' a p N := by
  obtain ⟨nap, cs, n, h1, h2, h3, h4⟩ := d
  exact ⟨nap, cs, n, x.cell h1, x.cell h2, h3, h4⟩
theorem atI_last {α : Type} {xs : List α} {x : α} : L2.atI (xs ++ [x]) (-1) = some x := by
  unfold L2.atI L2.ixN
  rw [if_neg (by decide), if_pos (by rw [List.length_append]; simp only [List.length_cons, List.length_nil]; omega)]
  show (xs ++ [x])[_]? = some x
  rw [show (-1 + (xs ++ [x]).length : Int).toNat = xs.length by rw [List.length_append]; simp only [List.length_cons, List.length_nil]; omega]
  simp
end DL

/-! A short tuple many times over; how much is written of three things. -/
namespace L2
open PySem PySem.Spec PyProof.Rows
def rRepB (K : PySem.W.Frag) : R2 := fun x y H Q => ∃ (b : Addr) (m : Int) (vs : List V), x = .ref b ∧ y = .int m ∧ SqT K H b vs ∧ vs ≠ [] ∧ (2 ≤ m ∧ m ≤ 5000) ∧ vs.length ≤ 100 ∧
  ∀ p, H p = none → Q (.ref p) (upd H p (.tup (List.replicate m.toNat vs).flatten))
section
variable {X : Cx}
end
end L2
namespace DL
open PySem PySem.Spec L2 PyProof.Rows
def dMulB : DO2 := fun x y ω Q => match x, y with
  | .tup xs, .int k => xs ≠ [] ∧ (2 ≤ k ∧ k ≤ 5000) ∧ xs.length ≤ 100 ∧ Q (.tup (List.replicate k.toNat xs).flatten) ω
  | _, _ => False
section
variable {ω : Om} {Q : DQ} {xs : List D} {k : Int}
end
end DL

/-! Lists that are owned: of a range, popped, compared; dicts that are owned; zip of tuples; two names in a comprehension. -/
namespace DL
open PySem PySem.Spec L2 PyProof.Rows
section
variable {X : Cx} {K : PySem.W.Frag} {h : Fp} {H : Hp} {ω : Om} {a e value : Expr} {pos p : Pos} {Ta Te Tv : TD} {T : TAD}
def dLstRgO (T : TAD) : TD := fun ρ ω Q => T ρ ω fun xs ω1 => ∃ n, xs = [.int n] ∧ RgOk 0 n ∧ ∀ p, ω1 p = none → Q (.raw (.ref p)) (oset ω1 p (.lst (rngD 0 n.toNat)))
/-- xs.pop(i), xs owned -/
def dPop (Ta Te : TD) : TD := fun ρ ω Q => Ta ρ ω fun x ω1 => ∃ p, x = .raw (.ref p) ∧ (∃ xs, ω1 p = some (.lst xs)) ∧ Te ρ ω1 fun y ω2 => ∃ (n : Nat) (xs : List D) (d : D), y = .int n ∧ n < 2 ^ 40 ∧ ω2 p = some (.lst xs) ∧ xs[n]? = some d ∧ Q d (oset ω2 p (.lst (xs.eraseIdx n)))
/-- two lists of plain data, each owned or not -/
def dEqO (neg : Bool) : DO2 := fun x y ω Q => ∃ xs ys, lstOf ω x = some xs ∧ lstOf ω y = some ys ∧ eqD (.lst xs) (.lst ys) ∧ Q (.bl (if neg then !PyData.eqv (D.lst xs).py (D.lst ys).py else PyData.eqv (D.lst xs).py (D.lst ys).py)) ω
/-- {} that is owned -/
def dDic0O : TD := fun _ ω Q => ∀ p, ω p = none → Q (.raw (.ref p)) (oset ω p (.dK []))
/-- what a number leads to -/
def lookI : List (Key × D) → Int → Option D
  | [], _ => none
  | (k, d) :: kds, i => if k = .inl i then some d else lookI kds i
/-- d[i], d owned, keyed by numbers -/
def dDGet (Ta Te : TD) : TD := fun ρ ω Q => Ta ρ ω fun x ω1 => Te ρ ω1 fun y ω2 => ∃ (p : Addr) (i : Int) (kds : List (Key × D)) (d : D), x = .raw (.ref p) ∧ y = .int i ∧ ω2 p = some (.dK kds) ∧ lookI kds i = some d ∧ Q d ω2
/-- d[i] = v with a new key, d owned -/
def dDPut (Ta Te Tv : TD) : TSD := fun E ρ ω => Tv ρ ω fun v ω1 => Ta ρ ω1 fun x ω2 => Te ρ ω2 fun y ω3 => ∃ (p : Addr) (i : Int) (kds : List (Key × D)), x = .raw (.ref p) ∧ y = .int i ∧ ω3 p = some (.dK kds) ∧ lookI kds i = none ∧ kds.length < sizeLine ∧ E.nx ρ (oset ω3 p (.dK (kds ++ [(.inl i, v)])))
end
section
variable {K : PySem.W.Frag} {X : Cx} {h : Fp} {H : Hp} {ω : Om} {a b : Expr} {pos p tpos : Pos} {T : TAD} {elts : List Expr} {kk : Nat}
/-- the items of two tuples in pairs -/
def zipD : List D → List D → List D
  | x :: xs, y :: ys => .tup [x, y] :: zipD xs ys
  | _, _ => []
theorem zipD_get : ∀ {xs ys : List D} {i : Nat} {d : D}, (zipD xs ys)[i]? = some d → ∃ x y, xs[i]? = some x ∧ ys[i]? = some y ∧ d = .tup [x, y]
  | x :: xs, y :: ys, 0, d, e => by cases e; exact ⟨x, y, rfl, rfl, rfl⟩
  | x :: xs, y :: ys, i + 1, d, e => zipD_get (xs := xs) (ys := ys) e
  | [], _, i, d, e => by simp [zipD] at e
  | _ :: _, [], i, d, e => by simp [zipD] at e
theorem zipD_len : ∀ {xs ys : List D}, (zipD xs ys).length = min xs.length ys.length
  | [], _ => by simp [zipD]
  | _ :: _, [] => by simp [zipD]
  | _ :: xs, _ :: ys => by
    simp only [zipD, List.length_cons, zipD_len (xs := xs) (ys := ys)]
    omega
def dZip (T : TAD) : TID := fun ρ ω Q => T ρ ω fun ds ω1 => ∃ xs ys, ds = [.tup xs, .tup ys] ∧ Q (zipD xs ys) (fun _ => True) ω1
/-- a comprehension with two names -/
theorem gok_two [Amb] {i j : Nat} {vs : List Nat} (hi : i ∈ vs) (hj : j ∈ vs) : GOk K (gTup K 2 (gCons (gName i) (gCons (gName j) gNil))) (dgTup 2 (dgCons (dgName i) (dgCons (dgName j) dgNil))) vs := ⟨fun h σ ρ ω d v H R Q sl w r t k => by
  obtain ⟨xs, rfl, l, x, xs', rfl, y, ys', e2, e3, t⟩ := t
  cases e2
  cases e3
  cases r with
  | tup s ra =>
    obtain ⟨v1, v2, rfl, r1, r2⟩ := ra.two
    refine ⟨_, _, rfl, s.sq, rfl, _, _, rfl, _, _, rfl, rfl, ?_⟩
    refine k _ _ ?_ t ((sl.set r1 i).set r2 j)
    rw [wipe_set hj, wipe_set hi, wipe_wipe σ vs vs fun _ z => z]⟩
end
section
variable {ρ : Rho} {ω : Om} {Q : DQ} {Ta Te Tv : TD} {T : TAD} {xs ys : List D} {p : Addr} {QI : List D → (Om → Prop) → Om → Prop} {neg : Bool}
theorem st_lstRgO (h : T ρ ω fun xs ω1 => ∃ n, xs = [.int n] ∧ RgOk 0 n ∧ ∀ p, ω1 p = none → Q (.raw (.ref p)) (oset ω1 p (.lst (rngD 0 n.toNat)))) : dLstRgO T ρ ω Q := h
theorem st_pop (h : Ta ρ ω fun x ω1 => ∃ p, x = .raw (.ref p) ∧ (∃ xs, ω1 p = some (.lst xs)) ∧ Te ρ ω1 fun y ω2 => ∃ (n : Nat) (xs : List D) (d : D), y = .int n ∧ n < 2 ^ 40 ∧ ω2 p = some (.lst xs) ∧ xs[n]? = some d ∧ Q d (oset ω2 p (.lst (xs.eraseIdx n)))) : dPop Ta Te ρ ω Q := h
theorem st_dic0O (h : ∀ p, ω p = none → Q (.raw (.ref p)) (oset ω p (.dK []))) : dDic0O ρ ω Q := h
theorem st_dget (h : Ta ρ ω fun x ω1 => Te ρ ω1 fun y ω2 => ∃ (p : Addr) (i : Int) (kds : List (Key × D)) (d : D), x = .raw (.ref p) ∧ y = .int i ∧ ω2 p = some (.dK kds) ∧ lookI kds i = some d ∧ Q d ω2) : dDGet Ta Te ρ ω Q := h
theorem st_dput {E : DEnds} (h : Tv ρ ω fun v ω1 => Ta ρ ω1 fun x ω2 => Te ρ ω2 fun y ω3 => ∃ (p : Addr) (i : Int) (kds : List (Key × D)), x = .raw (.ref p) ∧ y = .int i ∧ ω3 p = some (.dK kds) ∧ lookI kds i = none ∧ kds.length < sizeLine ∧ E.nx ρ (oset ω3 p (.dK (kds ++ [(.inl i, v)])))) : dDPut Ta Te Tv E ρ ω := h
theorem st_zip (h : T ρ ω fun ds ω1 => ∃ xs ys, ds = [.tup xs, .tup ys] ∧ QI (zipD xs ys) (fun _ => True) ω1) : dZip T ρ ω QI := h
theorem st_zip' {Z : List D → List D → Prop} (h : Z xs ys) : ∃ xs' ys', [D.tup xs, D.tup ys] = [.tup xs', .tup ys'] ∧ Z xs' ys' := ⟨xs, ys, rfl, h⟩
end
end DL

/-! A list taken apart into names; list(..) that is owned; max and min of a list; the other deck. -/
namespace DL
open PySem PySem.Spec L2 PyProof.Rows
section
variable {X : Cx} {K : PySem.W.Frag} {h : Fp} {H : Hp} {ω : Om} {pos : Pos} {es : List Expr}
def dgLst (n : Nat) (t : TGsD) : TGD := fun x ρ ω Q => ∃ xs, lstOf ω x = some xs ∧ xs.length = n ∧ t xs ρ ω Q
def dLstOfO : DOn := fun xs ω Q => ∃ x ys, xs = [x] ∧ (x = .tup ys ∨ lstOf ω x = some ys) ∧ ∀ p, ω p = none → Q (.raw (.ref p)) (oset ω p (.lst ys))
def dMaxL : DOn := fun xs ω Q => ∃ (x : D) (ns : List Int), xs = [x] ∧ lstOf ω x = some (ns.map D.int) ∧ 0 < ns.length ∧ ∀ m, m ∈ ns → (∀ y, y ∈ ns → y ≤ m) → Q (.int m) ω
def dMinL : DOn := fun xs ω Q => ∃ (x : D) (ns : List Int), xs = [x] ∧ lstOf ω x = some (ns.map D.int) ∧ 0 < ns.length ∧ ∀ m, m ∈ ns → (∀ y, y ∈ ns → m ≤ y) → Q (.int m) ω
end
section
variable {ρ : Rho} {ω : Om} {Q : DQ} {xs : List D} {x : D} {n : Nat} {gs : TGsD} {QS : Rho → Om → Prop} {ns : List Int}
end
/-- what was owned besides two cells is as it was -/
def Ext2 (a p : Addr) (ω ω' : Om) : Prop := ∀ b, b ≠ a → b ≠ p → ω b ≠ none → ω' b = ω b
theorem Ext2.refl {a p : Addr} {ω : Om} : Ext2 a p ω ω := fun _ _ _ _ => rfl
theorem Ext2.trans {a p : Addr} {ω ω1 ω2 : Om} (x : Ext2 a p ω ω1) (y : Ext2 a p ω1 ω2) : Ext2 a p ω ω2 := fun b na np h => (y b na np (by rw [x b na np h]; exact h)).trans (x b na np h)
theorem Ext2.cell {a p b : Addr} {ω ω' : Om} {c : Cell} (x : Ext2 a p ω ω') (na : b ≠ a) (np : b ≠ p) (e : ω b = some c) : ω' b = some c := (x b na np (by rw [e]; exact fun z => nomatch z)).trans e
theorem Ext2.of {a p : Addr} {ω ω' : Om} (x : Ext ω ω') : Ext2 a p ω ω' := fun b _ _ h => x b h
/-- the other deck: cells, a count, what is left of the great ones -/
def Drawn0 (ω : Om) (a p : Addr) (N : Nat) : Prop := a ≠ p ∧ ∃ (cells rests : List Int) (n : Nat), ω a = some (.lst [.lst (cells.map D.int), .int n, .raw (.ref p)]) ∧ ω p = some (.lst (rests.map D.int)) ∧ n ≤ N ∧ 0 < cells.length ∧ cells.length ≤ 64 ∧ rests.length = cells.length
/-- the same, and all else that was owned at the start -/
def Drawn (ω0 ω : Om) (a p : Addr) (N : Nat) : Prop := Drawn0 ω a p N ∧ Ext2 a p ω0 ω
theorem Drawn0.le {ω : Om} {a p : Addr} {N M : Nat} (h : Drawn0 ω a p N) (l : N ≤ M) : Drawn0 ω a p M := by
  obtain ⟨ne, cs, rs, n, h1, h2, h3, h4⟩ := h
  exact ⟨ne, cs, rs, n, h1, h2, Nat.le_trans h3 l, h4⟩
theorem Drawn0.has {ω : Om} {a p b : Addr} {N : Nat} (h : Drawn0 ω a p N) (e : ω b = none) : b ≠ a ∧ b ≠ p := by
  obtain ⟨ne, cs, rs, n, h1, h2, _⟩ := h
  refine ⟨fun z => ?_, fun z => ?_⟩
  · rw [z, h1] at e
    cases e
  · rw [z, h2] at e
    cases e
theorem Drawn0.set {ω : Om} {a p b : Addr} {N : Nat} {c : Cell} (h : Drawn0 ω a p N) (na : b ≠ a) (np : b ≠ p) : Drawn0 (oset ω b c) a p N := by
  obtain ⟨ne, cs, rs, n, h1, h2, h3⟩ := h
  exact ⟨ne, cs, rs, n, by rw [oset_ne (Ne.symm na)]; exact h1, by rw [oset_ne (Ne.symm np)]; exact h2, h3⟩
theorem Drawn0.ext {ω ω' : Om} {a p : Addr} {N : Nat} (h : Drawn0 ω a p N) (x : Ext ω ω') : Drawn0 ω' a p N := by
  obtain ⟨ne, cs, rs, n, h1, h2, h3⟩ := h
  exact ⟨ne, cs, rs, n, x.cell h1, x.cell h2, h3⟩
theorem Drawn.le {ω0 ω : Om} {a p : Addr} {N M : Nat} (h : Drawn ω0 ω a p N) (l : N ≤ M) : Drawn ω0 ω a p M := ⟨h.1.le l, h.2⟩
theorem Drawn.has {ω0 ω : Om} {a p b : Addr} {N : Nat} (h : Drawn ω0 ω a p N) (e : ω b = none) : b ≠ a ∧ b ≠ p := h.1.has e
theorem Drawn.free {ω0 ω : Om} {a p b : Addr} {N : Nat} (h : Drawn ω0 ω a p N) (e : ω b = none) : ω0 b = none := by
  obtain ⟨na, np⟩ := h.has e
  cases z : ω0 b with
  | none => rfl
  | some c =>
    have y := h.2.cell na np z
    rw [e] at y
    cases y
theorem Drawn.set {ω0 ω : Om} {a p b : Addr} {N : Nat} {c : Cell} (h : Drawn ω0 ω a p N) (na : b ≠ a) (np : b ≠ p) (f : ω0 b = none) : Drawn ω0 (oset ω b c) a p N := ⟨h.1.set na np, fun x xa xp hx => by
  rw [oset_ne fun e => hx (by rw [e]; exact f)]
  exact h.2 x xa xp hx⟩
theorem Drawn.go {ω0 ω ω' : Om} {a p : Addr} {N M : Nat} (h : Drawn ω0 ω a p N) (h2 : Drawn ω ω' a p M) : Drawn ω0 ω' a p M := ⟨h2.1, h.2.trans h2.2⟩
theorem Drawn.start {ω : Om} {a p : Addr} {N : Nat} (h : Drawn0 ω a p N) : Drawn ω ω a p N := ⟨h, Ext2.refl⟩
/-- a number below k -/
def NextS : SpD := fun ds ω R => ∃ a p N, ∃ k : Int, ds = [.raw (.ref a), .int k] ∧ 0 < k ∧ k < 2 ^ 100 ∧ Drawn0 ω a p N ∧ N ≤ 2 ^ 20 ∧ ∀ (i : Int) ω', 0 ≤ i → i < k → Drawn0 ω' a p (N + 1) → (∀ b, b ≠ a → b ≠ p → ω' b = ω b) → R (.int i) ω'
end DL

/-! The mathematics of towers: groups, moves, who is stuck, stones. -/
namespace DL
open PySem PySem.Spec L2
theorem sum_nonneg : ∀ {l : List Int}, (∀ w ∈ l, 0 ≤ w) → 0 ≤ l.sum
  | [], _ => by simp
  | a :: l, h => by
    rw [List.sum_cons]
    have := h a (by simp)
    have := sum_nonneg fun w hw => h w (List.mem_cons_of_mem _ hw)
    omega
/-- what all lighter ones weigh -/
def lite (ws : List Int) (w : Int) : Int := (ws.filter fun v => decide (v < w)).sum
theorem filt_mapI (t : D → Bool) (t' : Int → Bool) (h : ∀ n, t (.int n) = t' n) : ∀ ns : List Int, ((ns.map D.int).filter t).map id = (ns.filter t').map D.int
  | [] => rfl
  | n :: ns => by
    have ih := filt_mapI t t' h ns
    rw [List.map_id] at ih ⊢
    rw [List.map_cons, List.filter_cons, List.filter_cons, h n, ih]
    cases t' n <;> rfl
/-- what the people weigh together -/
def wt (ws ns : List Int) : Int := (ns.map fun n => ws.getD n.toNat 0).sum
/-- a group as its numbers -/
def GrpI (n : Nat) (gs : List Int) : Prop := (∀ k ∈ gs, 0 ≤ k ∧ k < (n : Int)) ∧ gs.Pairwise (· < ·)
theorem grp_len {n : Nat} : ∀ (gs : List Int) (lo : Int), (∀ k ∈ gs, lo ≤ k ∧ k < (n : Int)) → gs.Pairwise (· < ·) → gs ≠ [] → (gs.length : Int) ≤ n - lo
  | [], _, _, _, h => absurd rfl h
  | g :: gs, lo, h, p, _ => by
    obtain ⟨p1, p2⟩ := List.pairwise_cons.mp p
    have hg := h g (by simp)
    rw [List.length_cons]
    by_cases e : gs = []
    · subst e
      simp
      omega
    · have := grp_len (n := n) gs (g + 1) (fun k hk => by have := p1 k hk; have := h k (List.mem_cons_of_mem _ hk); exact ⟨by omega, this.2⟩) p2 e
      omega
theorem GrpI.len {n : Nat} {gs : List Int} (h : GrpI n gs) : gs.length ≤ n := by
  by_cases e : gs = []
  · subst e
    exact Nat.zero_le _
  · have := grp_len gs 0 h.1 h.2 e
    omega
theorem lt_nodup {xs : List Int} (h : xs.Pairwise (· < ·)) : xs.Nodup := h.imp fun z => Int.ne_of_lt z
theorem wt_split (ws : List Int) (t : Int → Bool) : ∀ ns : List Int, wt ws ns = wt ws (ns.filter t) + wt ws (ns.filter fun n => !t n)
  | [] => rfl
  | n :: ns => by
    have ih := wt_split ws t ns
    unfold wt at ih ⊢
    rw [List.filter_cons, List.filter_cons]
    cases t n <;> simp only [List.map_cons, List.sum_cons, Bool.not_true, Bool.not_false, if_true, if_false, Bool.false_eq_true, ih] <;> omega
def ups (n : Nat) : List Int := (List.range n).map fun i : Nat => (i : Int)
theorem mem_ups {n : Nat} {k : Int} : k ∈ ups n ↔ 0 ≤ k ∧ k < n := by
  unfold ups
  rw [List.mem_map]
  constructor
  · rintro ⟨i, hi, rfl⟩
    rw [List.mem_range] at hi
    omega
  · rintro ⟨h0, h1⟩
    exact ⟨k.toNat, List.mem_range.mpr (by omega), by omega⟩
theorem ups_lt (n : Nat) : (ups n).Pairwise (· < ·) := List.pairwise_lt_range.map _ fun _ _ h => Int.ofNat_lt.mpr h
theorem ups_len {n : Nat} : (ups n).length = n := by
  unfold ups
  rw [List.length_map, List.length_range]
/-- each one is at most x more than all behind it -/
def Slow (x : Int) : List Int → Prop
  | [] => True
  | a :: l => a ≤ x + l.sum ∧ Slow x l
/-- whatever is less than all together is passed by at most x -/
theorem slow_dense {x : Int} : ∀ {l : List Int}, Slow x l → ∀ t : Int, 0 ≤ t → t < l.sum → ∃ s : List Int, s.Sublist l ∧ t < s.sum ∧ s.sum ≤ t + x
  | [], _, t, h0, h1 => by simp at h1; omega
  | a :: l, ⟨ha, hl⟩, t, h0, h1 => by
    rw [List.sum_cons] at h1
    by_cases c : t < l.sum
    · obtain ⟨s, s1, s2, s3⟩ := slow_dense hl t h0 c
      exact ⟨s, s1.cons a, s2, s3⟩
    · by_cases c2 : t < a
      · exact ⟨[a], (List.nil_sublist l).cons_cons a, by simpa using c2, by simp; omega⟩
      · obtain ⟨s, s1, s2, s3⟩ := slow_dense hl (t - a) (by omega) (by omega)
        refine ⟨a :: s, s1.cons_cons a, ?_, ?_⟩ <;> rw [List.sum_cons] <;> omega
theorem sum_filter {t : Int → Bool} : ∀ {l : List Int}, (∀ w ∈ l, 0 ≤ w) → (l.filter t).sum ≤ l.sum
  | [], _ => by simp
  | a :: l, h => by
    have ih := sum_filter (t := t) fun w hw => h w (List.mem_cons_of_mem _ hw)
    have := h a (by simp)
    rw [List.filter_cons]
    cases t a
    · rw [if_neg (by decide), List.sum_cons]
      omega
    · rw [if_pos rfl, List.sum_cons, List.sum_cons]
      omega
theorem sum_perm {as bs : List Int} (h : as.Perm bs) : as.sum = bs.sum := by
  induction h with
  | nil => rfl
  | cons a _ ih => rw [List.sum_cons, List.sum_cons, ih]
  | swap a b l =>
    simp only [List.sum_cons]
    omega
  | trans _ _ h1 h2 => exact h1.trans h2
/-- nobody is stuck -/
def Free (x : Int) (ws : List Int) : Prop := ∀ w ∈ ws, w ≤ x + lite ws w
theorem slow_desc {x : Int} {ws : List Int} (h1 : ∀ w ∈ ws, 1 ≤ w) (hf : Free x ws) : ∀ {l pre : List Int}, (pre ++ l).Perm ws → (pre ++ l).Pairwise (fun a b => b ≤ a) → Slow x l
  | [], _, _, _ => trivial
  | a :: l, pre, hp, hs => by
    have e : pre ++ a :: l = (pre ++ [a]) ++ l := by simp
    refine ⟨?_, slow_desc h1 hf (pre := pre ++ [a]) (e ▸ hp) (e ▸ hs)⟩
    have ma : a ∈ ws := hp.mem_iff.mp (by simp)
    have fa := hf a ma
    have lt : lite ws a = ((pre ++ a :: l).filter fun v => decide (v < a)).sum := by
      unfold lite
      exact sum_perm (hp.symm.filter _)
    have pn : (pre.filter fun v => decide (v < a)) = [] := List.filter_eq_nil_iff.mpr fun v hv => by
      have := (List.pairwise_append.mp hs).2.2 v hv a (by simp)
      simpa using this
    have an : ((a :: l).filter fun v => decide (v < a)) = l.filter fun v => decide (v < a) := by
      rw [List.filter_cons, if_neg (by simp)]
    rw [List.filter_append, pn, List.nil_append, an] at lt
    have : (l.filter fun v => decide (v < a)).sum ≤ l.sum := sum_filter fun w hw => by
      have := h1 w (hp.mem_iff.mp (by simp [hw]))
      omega
    omega
/-- the same, of the weights in any order -/
theorem free_dense {x : Int} {ws : List Int} (h1 : ∀ w ∈ ws, 1 ≤ w) (hf : Free x ws) (t : Int) (t0 : 0 ≤ t) (t1 : t < ws.sum) : ∃ s : List Int, s.Sublist ws ∧ t < s.sum ∧ s.sum ≤ t + x := by
  have hp : (ws.mergeSort fun a b => decide (b ≤ a)).Perm ws := List.mergeSort_perm ws _
  have hs : (ws.mergeSort fun a b => decide (b ≤ a)).Pairwise (fun a b => b ≤ a) := by
    have h := List.pairwise_mergeSort (le := fun a b : Int => decide (b ≤ a)) (fun a b c h1 h2 => decide_eq_true (Int.le_trans (of_decide_eq_true h2) (of_decide_eq_true h1))) (fun a b => by
      rcases Int.le_total b a with z | z
      · rw [decide_eq_true z]
        rfl
      · rw [decide_eq_true z, Bool.or_true]) ws
    exact h.imp fun z => of_decide_eq_true z
  obtain ⟨s, s1, s2, s3⟩ := slow_dense (slow_desc h1 hf (pre := []) hp hs) t t0 (by rw [sum_perm hp]; exact t1)
  obtain ⟨s', p', l'⟩ := List.exists_perm_sublist s1 hp
  exact ⟨s', l', by rw [sum_perm p']; exact s2, by rw [sum_perm p']; exact s3⟩
/-- a part of the weights is a group's -/
theorem sub_grp : ∀ {s ws : List Int}, s.Sublist ws → ∀ j : Nat, ∃ ns : List Int, (∀ k ∈ ns, (j : Int) ≤ k ∧ k < (j + ws.length : Nat)) ∧ ns.Pairwise (· < ·) ∧ ns.map (fun k : Int => ws.getD (k - (j : Int)).toNat 0) = s
  | _, _, .slnil, j => ⟨[], fun _ h => (nomatch h), .nil, rfl⟩
  | s, _ :: ws, .cons a h, j => by
    obtain ⟨ns, h1, h2, h3⟩ := sub_grp h (j + 1)
    refine ⟨ns, fun k hk => ?_, h2, ?_⟩
    · have := h1 k hk
      rw [List.length_cons]
      omega
    · rw [← h3]
      refine List.map_congr_left fun k hk => ?_
      have := h1 k hk
      rw [show (k - (j : Int)).toNat = (k - ((j + 1 : Nat) : Int)).toNat + 1 by omega]
      rfl
  | _ :: s, a :: ws, .cons_cons _ h, j => by
    obtain ⟨ns, h1, h2, h3⟩ := sub_grp h (j + 1)
    refine ⟨(j : Int) :: ns, fun k hk => ?_, List.pairwise_cons.mpr ⟨fun k hk => by have := h1 k hk; omega, h2⟩, ?_⟩
    · rw [List.length_cons]
      rcases List.mem_cons.mp hk with z | z
      · omega
      · have := h1 k z
        omega
    · rw [List.map_cons, ← h3]
      refine congr (congrArg _ ?_) (List.map_congr_left fun k hk => ?_)
      · rw [show ((j : Int) - (j : Int)).toNat = 0 by omega]
        rfl
      · have := h1 k hk
        rw [show (k - (j : Int)).toNat = (k - ((j + 1 : Nat) : Int)).toNat + 1 by omega]
        rfl
theorem next_grp {x : Int} {ws : List Int} (h1 : ∀ w ∈ ws, 1 ≤ w) (hf : Free x ws) (t : Int) (t0 : 0 ≤ t) (t1 : t < ws.sum) : ∃ ns, GrpI ws.length ns ∧ t < wt ws ns ∧ wt ws ns ≤ t + x := by
  obtain ⟨s, s1, s2, s3⟩ := free_dense h1 hf t t0 t1
  obtain ⟨ns, n1, n2, n3⟩ := sub_grp s1 0
  have e : wt ws ns = s.sum := by
    rw [← n3]
    unfold wt
    refine congrArg List.sum (List.map_congr_left fun k _ => ?_)
    rw [show (k - ((0 : Nat) : Int)).toNat = k.toNat by omega]
  exact ⟨ns, ⟨fun k hk => by have := n1 k hk; omega, n2⟩, by rw [e]; exact s2, by rw [e]; exact s3⟩
theorem wt_ups (ws : List Int) : wt ws (ups ws.length) = ws.sum := by
  unfold wt ups
  rw [List.map_map]
  refine congrArg List.sum (List.ext_getElem? fun j => ?_)
  rw [List.getElem?_map]
  by_cases c : j < ws.length
  · rw [List.getElem?_range c, List.getElem?_eq_getElem c]
    show some (ws.getD (j : Int).toNat 0) = _
    rw [Int.toNat_natCast, List.getD_eq_getElem?_getD, List.getElem?_eq_getElem c]
    rfl
  · rw [List.getElem?_eq_none (by rw [List.length_range]; omega), List.getElem?_eq_none (by omega)]
    rfl
theorem wt_pos {ws ns : List Int} (h1 : ∀ w ∈ ws, 1 ≤ w) (hn : ∀ k ∈ ns, 0 ≤ k ∧ k < (ws.length : Int)) : (ns.length : Int) ≤ wt ws ns := by
  induction ns with
  | nil => exact Int.le_refl _
  | cons n ns ih =>
    have ih := ih fun k hk => hn k (List.mem_cons_of_mem _ hk)
    have hb := hn n (by simp)
    unfold wt at ih ⊢
    rw [List.map_cons, List.sum_cons, List.length_cons]
    have : 1 ≤ ws.getD n.toNat 0 := by
      rw [List.getD_eq_getElem?_getD, List.getElem?_eq_getElem (show n.toNat < ws.length by omega)]
      exact h1 _ (List.getElem_mem _)
    omega
theorem whole_only {ws ns : List Int} (h1 : ∀ w ∈ ws, 1 ≤ w) (hg : GrpI ws.length ns) (e : wt ws ns = ws.sum) : ns = ups ws.length := by
  refine sorted_eq hg.2 (ups_lt _) fun k => ⟨fun hk => mem_ups.mpr (hg.1 k hk), fun hk => ?_⟩
  have sp := wt_split ws (fun k => decide (k ∈ ns)) (ups ws.length)
  have ein : ((ups ws.length).filter fun k => decide (k ∈ ns)) = ns := sorted_eq ((ups_lt _).filter _) hg.2 fun k => by
    rw [List.mem_filter, decide_eq_true_eq, mem_ups]
    exact ⟨fun h => h.2, fun h => ⟨hg.1 k h, h⟩⟩
  rw [ein, wt_ups] at sp
  have po := wt_pos (ns := (ups ws.length).filter fun n => !decide (n ∈ ns)) h1 fun k hk => mem_ups.mp (List.mem_filter.mp hk).1
  have ln : ((ups ws.length).filter fun n => !decide (n ∈ ns)).length = 0 := by omega
  have nn := List.eq_nil_of_length_eq_zero ln
  by_cases c : k ∈ ns
  · exact c
  · have : k ∈ (ups ws.length).filter fun n => !decide (n ∈ ns) := List.mem_filter.mpr ⟨hk, by rw [decide_eq_false c]; rfl⟩
    rw [nn] at this
    cases this
/-- what is closed under moves and has nobody has all, if nobody is stuck -/
theorem whole_in {x : Int} {ws : List Int} (h1 : ∀ w ∈ ws, 1 ≤ w) (hf : Free x ws) {S : List Int → Prop} (s0 : S []) (sg : ∀ g, S g → GrpI ws.length g) (cl : ∀ g g', S g → GrpI ws.length g' → 1 ≤ wt ws g' - wt ws g → wt ws g' - wt ws g ≤ x → S g') : S (ups ws.length) := by
  have go : ∀ n : Nat, ∀ g, S g → (ws.sum - wt ws g).toNat ≤ n → S (ups ws.length) := by
    intro n
    induction n with
    | zero =>
      intro g hg hn
      by_cases c : wt ws g < ws.sum
      · omega
      · have sp := wt_split ws (fun k => decide (k ∈ g)) (ups ws.length)
        have ein : ((ups ws.length).filter fun k => decide (k ∈ g)) = g := sorted_eq ((ups_lt _).filter _) (sg g hg).2 fun k => by
          rw [List.mem_filter, decide_eq_true_eq, mem_ups]
          exact ⟨fun h => h.2, fun h => ⟨(sg g hg).1 k h, h⟩⟩
        rw [ein, wt_ups] at sp
        have po := wt_pos (ns := (ups ws.length).filter fun n => !decide (n ∈ g)) h1 fun k hk => mem_ups.mp (List.mem_filter.mp hk).1
        rw [← whole_only h1 (sg g hg) (by omega)]
        exact hg
    | succ n ih =>
      intro g hg hn
      by_cases c : wt ws g < ws.sum
      · have p0 := wt_pos h1 (sg g hg).1
        obtain ⟨g', g1, g2, g3⟩ := next_grp h1 hf (wt ws g) (by omega) c
        exact ih g' (cl g g' hg g1 (by omega) (by omega)) (by omega)
      · exact ih g hg (by omega)
  exact go _ [] s0 (Nat.le_refl _)
/-- a person of a group weighs no more than the group -/
theorem wt_mem {ws : List Int} {k : Int} : ∀ {ns : List Int}, (∀ w ∈ ws, 1 ≤ w) → (∀ k ∈ ns, 0 ≤ k ∧ k < (ws.length : Int)) → k ∈ ns → ws.getD k.toNat 0 ≤ wt ws ns
  | [], _, _, h => nomatch h
  | n :: ns, h1, hn, h => by
    have hb := hn n (by simp)
    have hr := wt_pos h1 fun k hk => hn k (List.mem_cons_of_mem _ hk)
    have e : wt ws (n :: ns) = ws.getD n.toNat 0 + wt ws ns := by
      unfold wt
      rw [List.map_cons, List.sum_cons]
    have : 1 ≤ ws.getD n.toNat 0 := by
      rw [List.getD_eq_getElem?_getD, List.getElem?_eq_getElem (show n.toNat < ws.length by omega)]
      exact h1 _ (List.getElem_mem _)
    rcases List.mem_cons.mp h with z | z
    · subst z
      omega
    · have := wt_mem h1 (fun k hk => hn k (List.mem_cons_of_mem _ hk)) z
      omega
theorem wt_lite {ws ns : List Int} {w : Int} (h1 : ∀ w ∈ ws, 1 ≤ w) (hg : GrpI ws.length ns) (hl : ∀ k ∈ ns, ws.getD k.toNat 0 < w) : wt ws ns ≤ lite ws w := by
  have a : wt ws ns ≤ wt ws ((ups ws.length).filter fun k => decide (ws.getD k.toNat 0 < w)) := by
    have sp := wt_split ws (fun k => decide (k ∈ ns)) ((ups ws.length).filter fun k => decide (ws.getD k.toNat 0 < w))
    have ein : (((ups ws.length).filter fun k => decide (ws.getD k.toNat 0 < w)).filter fun k => decide (k ∈ ns)) = ns := sorted_eq (((ups_lt _).filter _).filter _) hg.2 fun k => by
      rw [List.mem_filter, List.mem_filter, decide_eq_true_eq, decide_eq_true_eq, mem_ups]
      exact ⟨fun h => h.2, fun h => ⟨⟨hg.1 k h, hl k h⟩, h⟩⟩
    rw [ein] at sp
    have po := wt_pos (ns := ((ups ws.length).filter fun k => decide (ws.getD k.toNat 0 < w)).filter fun n => !decide (n ∈ ns)) h1 fun k hk => mem_ups.mp (List.mem_filter.mp (List.mem_filter.mp hk).1).1
    omega
  have b : wt ws ((ups ws.length).filter fun k => decide (ws.getD k.toNat 0 < w)) = lite ws w := by
    unfold lite wt
    have e : ws = (ups ws.length).map fun k => ws.getD k.toNat 0 := by
      refine List.ext_getElem? fun j => ?_
      unfold ups
      rw [List.map_map, List.getElem?_map]
      by_cases c : j < ws.length
      · rw [List.getElem?_range c, List.getElem?_eq_getElem c]
        show _ = some (ws.getD (j : Int).toNat 0)
        rw [Int.toNat_natCast, List.getD_eq_getElem?_getD, List.getElem?_eq_getElem c]
        rfl
      · rw [List.getElem?_eq_none (by omega), List.getElem?_eq_none (by rw [List.length_range]; omega)]
        rfl
    have f : ws.filter (fun v => decide (v < w)) = ((ups ws.length).map fun k => ws.getD k.toNat 0).filter (fun v => decide (v < w)) := congrArg (List.filter _) e
    rw [f, List.filter_map]
    rfl
  omega
/-- what moves lead to stays below whoever is stuck -/
theorem whole_out {x : Int} {ws : List Int} (h1 : ∀ w ∈ ws, 1 ≤ w) {w : Int} (hw : w ∈ ws) (st : x + lite ws w < w) (x0 : 0 ≤ x) : (∀ g g', GrpI ws.length g' → wt ws g ≤ lite ws w → wt ws g' - wt ws g ≤ x → wt ws g' ≤ lite ws w) ∧ lite ws w < wt ws (ups ws.length) := by
  refine ⟨fun g g' hg hl hx => wt_lite h1 hg fun k hk => ?_, ?_⟩
  · have := wt_mem h1 hg.1 hk
    omega
  · rw [wt_ups]
    obtain ⟨j, hj, ej⟩ := List.mem_iff_getElem.mp hw
    have m := wt_mem (k := (j : Int)) (ns := ups ws.length) h1 (fun k hk => mem_ups.mp hk) (mem_ups.mpr ⟨by omega, by omega⟩)
    rw [wt_ups, Int.toNat_natCast, List.getD_eq_getElem?_getD, List.getElem?_eq_getElem hj, ej] at m
    have : w ≤ ws.sum := m
    omega
/-- all groups of the first people, as they are listed -/
def allG : Nat → List (List Int)
  | 0 => [[]]
  | n + 1 => allG n ++ (allG n).map fun g => g ++ [(n : Int)]
theorem allG_len : ∀ n, (allG n).length = 2 ^ n
  | 0 => rfl
  | n + 1 => by
    rw [allG, List.length_append, List.length_map, allG_len n, Nat.pow_succ]
    omega
theorem allG_grp : ∀ {n : Nat} {g : List Int}, g ∈ allG n → GrpI n g
  | 0, g, h => by
    have e : g = [] := by simpa [allG] using h
    subst e
    exact ⟨fun _ h => (nomatch h), .nil⟩
  | n + 1, g, h => by
    rcases List.mem_append.mp h with z | z
    · have := allG_grp z
      exact ⟨fun k hk => by have := this.1 k hk; omega, this.2⟩
    · obtain ⟨g0, h0, rfl⟩ := List.mem_map.mp z
      have g1 := allG_grp h0
      refine ⟨fun k hk => ?_, List.pairwise_append.mpr ⟨g1.2, List.pairwise_singleton _ _, fun x hx y hy => ?_⟩⟩
      · rcases List.mem_append.mp hk with y | y
        · have := g1.1 k y
          omega
        · rw [List.mem_singleton] at y
          omega
      · rw [List.mem_singleton] at hy
        have := g1.1 x hx
        omega
theorem grp_allG : ∀ {n : Nat} {g : List Int}, GrpI n g → g ∈ allG n
  | 0, g, h => by
    have e : g = [] := by
      match g, h with
      | [], _ => rfl
      | k :: _, h =>
        have := h.1 k (by simp)
        omega
    subst e
    exact List.mem_singleton.mpr rfl
  | n + 1, g, h => by
    rw [allG]
    by_cases c : (n : Int) ∈ g
    · refine List.mem_append.mpr (.inr (List.mem_map.mpr ⟨g.filter fun k => decide (k < (n : Int)), grp_allG ⟨fun k hk => ?_, h.2.filter _⟩, ?_⟩))
      · obtain ⟨h1, h2⟩ := List.mem_filter.mp hk
        have := h.1 k h1
        have := of_decide_eq_true h2
        omega
      · have p2 : (g.filter (fun k => decide (k < (n : Int))) ++ [(n : Int)]).Pairwise (· < ·) := List.pairwise_append.mpr ⟨h.2.filter _, List.pairwise_singleton _ _, fun x hx y hy => by
          rw [List.mem_singleton] at hy
          have := of_decide_eq_true (List.mem_filter.mp hx).2
          omega⟩
        refine sorted_eq p2 h.2 fun k => ?_
        rw [List.mem_append, List.mem_filter, List.mem_singleton, decide_eq_true_eq]
        constructor
        · rintro (z | z)
          · exact z.1
          · rw [z]
            exact c
        · intro hk
          have := h.1 k hk
          by_cases e : k = (n : Int)
          · exact .inr e
          · exact .inl ⟨hk, by omega⟩
    · refine List.mem_append.mpr (.inl (grp_allG ⟨fun k hk => ?_, h.2⟩))
      have := h.1 k hk
      have ne : k ≠ (n : Int) := fun e => c (e ▸ hk)
      omega
def tupI (g : List Int) : D := .tup (g.map D.int)
theorem lite_perm {as bs : List Int} (h : as.Perm bs) (w : Int) : lite as w = lite bs w := sum_perm (h.filter _)
theorem sum_snoc (l : List Int) (x : Int) : (l ++ [x]).sum = l.sum + x := by
  rw [List.sum_append_int]
  simp
theorem lite_snoc (l : List Int) (x w : Int) : lite (l ++ [x]) w = lite l w + if x < w then x else 0 := by
  unfold lite
  rw [List.filter_append, List.sum_append_int]
  by_cases c : x < w
  · rw [if_pos c, List.filter_cons, if_pos (decide_eq_true c)]
    simp
  · rw [if_neg c, List.filter_cons, if_neg (by simpa using c)]
    simp
theorem lite_all {l : List Int} {w : Int} (h : ∀ v ∈ l, v < w) : lite l w = l.sum := by
  unfold lite
  rw [List.filter_eq_self.mpr fun v hv => decide_eq_true (h v hv)]
theorem perm_sorted {as bs : List Int} (p : as.Perm bs) (ha : as.Pairwise (· ≤ ·)) (hb : bs.Pairwise (· ≤ ·)) : as = bs :=
  List.Perm.eq_of_pairwise (le := fun a b : Int => a ≤ b) (fun a b _ _ h1 h2 => Int.le_antisymm h1 h2) ha hb p
/-- the weights from the lightest on -/
def srt (ws : List Int) : List Int := ws.mergeSort fun a b => decide (a ≤ b)
theorem srt_perm (ws : List Int) : (srt ws).Perm ws := List.mergeSort_perm ws _
theorem srt_le (ws : List Int) : (srt ws).Pairwise (· ≤ ·) := by
  have h := List.pairwise_mergeSort (le := fun a b : Int => decide (a ≤ b)) (fun a b c h1 h2 => decide_eq_true (Int.le_trans (of_decide_eq_true h1) (of_decide_eq_true h2))) (fun a b => by
    rcases Int.le_total a b with z | z
    · rw [decide_eq_true z]
      rfl
    · rw [decide_eq_true z, Bool.or_true]) ws
  exact h.imp fun z => of_decide_eq_true z
theorem srt_eq {as ws : List Int} (p : as.Perm ws) (h : as.Pairwise (· ≤ ·)) : as = srt ws := perm_sorted (p.trans (srt_perm ws).symm) h (srt_le ws)
/-- stones ahead of a weight: all before it, and the stones -/
def stB (e w : Int) : Nat → List Int × List Int → List Int × List Int
  | 0, z => z
  | n + 1, z => if e + z.1.sum < w then stB e w n (z.1 ++ [e + z.1.sum], z.2 ++ [e + z.1.sum]) else z
def stW (e : Int) (z : List Int × List Int) (w : Int) : List Int × List Int := ((stB e w 21 z).1 ++ [w], (stB e w 21 z).2)
def stonesZ (e : Int) (l : List Int) : List Int × List Int := l.foldl (stW e) ([], [])
/-- the stones for the weights in ascending order -/
def stonesOf (e : Int) (l : List Int) : List Int := (stonesZ e l).2
structure Good (e : Int) (dn : List Int) (z : List Int × List Int) : Prop where
  e1 : 1 ≤ e
  pos : ∀ v ∈ z.1, 1 ≤ v
  lt : ∀ v ∈ z.1, v < e + z.1.sum
  fr : ∀ v ∈ z.1, v ≤ e + lite z.1 v
  asc : z.2.Pairwise (· < ·)
  pm : z.1.Perm (dn ++ z.2)
  pw : (2 ^ z.2.length : Int) ≤ e + z.1.sum
  le : z.2.length ≤ 20
  bd : ∀ v ∈ z.2, v ≤ 1000000
theorem Good.start {e : Int} (h : 1 ≤ e) : Good e [] ([], []) := ⟨h, fun _ h => (nomatch h), fun _ h => (nomatch h), fun _ h => (nomatch h), .nil, .nil, by simpa using h, by decide, fun _ h => (nomatch h)⟩
theorem Good.sm {e : Int} {dn : List Int} {z : List Int × List Int} (h : Good e dn z) : 0 ≤ z.1.sum := sum_nonneg fun v hv => by have := h.pos v hv; omega
theorem Good.sml {e w : Int} {dn : List Int} {z : List Int × List Int} (h : Good e dn z) (hw : w ≤ 1000000) (lt : e + z.1.sum < w) : z.2.length < 20 := by
  have p := h.pw
  by_cases c : z.2.length < 20
  · exact c
  · have : (2 ^ 20 : Int) ≤ 2 ^ z.2.length := by
      have := Nat.pow_le_pow_right (n := 2) (by decide) (show 20 ≤ z.2.length by omega)
      exact_mod_cast this
    omega
theorem Good.stone {e w : Int} {dn : List Int} {z : List Int × List Int} (h : Good e dn z) (hw : w ≤ 1000000) (lt : e + z.1.sum < w) : Good e dn (z.1 ++ [e + z.1.sum], z.2 ++ [e + z.1.sum]) := by
  have s0 := h.sm
  have e1 := h.e1
  have hl := h.sml hw lt
  refine ⟨e1, fun v hv => ?_, fun v hv => ?_, fun v hv => ?_, ?_, ?_, ?_, ?_, fun v hv => ?_⟩
  · rcases List.mem_append.mp hv with y | y
    · exact h.pos v y
    · rw [List.mem_singleton] at y
      omega
  · show v < e + (z.1 ++ [e + z.1.sum]).sum
    rw [sum_snoc]
    rcases List.mem_append.mp hv with y | y
    · have := h.lt v y
      omega
    · rw [List.mem_singleton] at y
      omega
  · show v ≤ e + lite (z.1 ++ [e + z.1.sum]) v
    rw [lite_snoc]
    rcases List.mem_append.mp hv with y | y
    · have := h.fr v y
      split <;> omega
    · rw [List.mem_singleton] at y
      subst y
      rw [lite_all h.lt, if_neg (by omega)]
      omega
  · refine List.pairwise_append.mpr ⟨h.asc, List.pairwise_singleton _ _, fun x hx y hy => ?_⟩
    rw [List.mem_singleton] at hy
    subst hy
    exact h.lt x (h.pm.mem_iff.mpr (List.mem_append.mpr (.inr hx)))
  · show (z.1 ++ [e + z.1.sum]).Perm (dn ++ (z.2 ++ [e + z.1.sum]))
    rw [← List.append_assoc]
    exact h.pm.append_right _
  · show (2 ^ (z.2 ++ [e + z.1.sum]).length : Int) ≤ e + (z.1 ++ [e + z.1.sum]).sum
    rw [List.length_append, sum_snoc]
    have p := h.pw
    show (2 ^ (z.2.length + 1) : Int) ≤ _
    rw [Int.pow_succ]
    omega
  · show (z.2 ++ [e + z.1.sum]).length ≤ 20
    rw [List.length_append]
    show z.2.length + 1 ≤ 20
    omega
  · rcases List.mem_append.mp hv with y | y
    · exact h.bd v y
    · rw [List.mem_singleton] at y
      omega
theorem Good.weight {e w : Int} {dn : List Int} {z : List Int × List Int} (h : Good e dn z) (hw : 1 ≤ w) (hs : ∀ v ∈ z.1, v ≤ w) (le : w ≤ e + z.1.sum) : Good e (dn ++ [w]) (z.1 ++ [w], z.2) := by
  have s0 := h.sm
  have e1 := h.e1
  refine ⟨e1, fun v hv => ?_, fun v hv => ?_, fun v hv => ?_, h.asc, ?_, ?_, h.le, h.bd⟩
  · rcases List.mem_append.mp hv with y | y
    · exact h.pos v y
    · rw [List.mem_singleton] at y
      omega
  · show v < e + (z.1 ++ [w]).sum
    rw [sum_snoc]
    rcases List.mem_append.mp hv with y | y
    · have := h.lt v y
      omega
    · rw [List.mem_singleton] at y
      omega
  · show v ≤ e + lite (z.1 ++ [w]) v
    rw [lite_snoc]
    have old : ∀ v ∈ z.1, v ≤ e + (lite z.1 v + if w < v then w else 0) := fun v y => by
      have := h.fr v y
      split <;> omega
    rcases List.mem_append.mp hv with y | y
    · exact old v y
    · rw [List.mem_singleton] at y
      subst y
      by_cases c : v ∈ z.1
      · exact old v c
      · have al : ∀ u ∈ z.1, u < v := fun u hu => by
          have := hs u hu
          have ne : u ≠ v := fun q => c (q ▸ hu)
          omega
        rw [lite_all al, if_neg (by omega)]
        omega
  · show (z.1 ++ [w]).Perm (dn ++ [w] ++ z.2)
    have p := h.pm.append_right [w]
    rw [List.append_assoc] at p ⊢
    exact p.trans (List.Perm.append_left dn List.perm_append_comm)
  · show (2 ^ z.2.length : Int) ≤ e + (z.1 ++ [w]).sum
    rw [sum_snoc]
    have := h.pw
    omega
theorem good_stB {e w : Int} {dn : List Int} (hw : w ≤ 1000000) : ∀ (n : Nat) (z : List Int × List Int), Good e dn z → (∀ v ∈ z.1, v ≤ w) → 20 < n + z.2.length → Good e dn (stB e w n z) ∧ (∀ v ∈ (stB e w n z).1, v ≤ w) ∧ w ≤ e + (stB e w n z).1.sum
  | 0, z, h, hs, l => by
    have := h.le
    omega
  | n + 1, z, h, hs, l => by
    rw [stB]
    by_cases c : e + z.1.sum < w
    · rw [if_pos c]
      refine good_stB hw n _ (h.stone hw c) (fun v hv => ?_) (by show 20 < n + (z.2 ++ [_]).length; rw [List.length_append]; show 20 < n + (z.2.length + 1); omega)
      rcases List.mem_append.mp hv with y | y
      · exact hs v y
      · rw [List.mem_singleton] at y
        omega
    · rw [if_neg c]
      exact ⟨h, hs, by omega⟩
theorem good_from {e : Int} : ∀ (l dn : List Int) (z : List Int × List Int), Good e dn z → (∀ w ∈ l, 1 ≤ w ∧ w ≤ 1000000) → l.Pairwise (· ≤ ·) → (∀ v ∈ z.1, ∀ w ∈ l, v ≤ w) → Good e (dn ++ l) (l.foldl (stW e) z)
  | [], dn, z, h, _, _, _ => by rw [List.append_nil]; exact h
  | w :: l, dn, z, h, hl, hp, hs => by
    obtain ⟨p1, p2⟩ := List.pairwise_cons.mp hp
    have bw := hl w (by simp)
    obtain ⟨g, gs, gw⟩ := good_stB bw.2 21 z h (fun v hv => hs v hv w (by simp)) (by omega)
    have g2 := g.weight bw.1 gs gw
    have := good_from l (dn ++ [w]) _ g2 (fun v hv => hl v (List.mem_cons_of_mem _ hv)) p2 fun v hv u hu => by
      rcases List.mem_append.mp hv with y | y
      · have := gs v y
        have := p1 u hu
        omega
      · rw [List.mem_singleton] at y
        rw [y]
        exact p1 u hu
    rw [List.append_assoc] at this
    exact this
theorem stones_good {e : Int} {ws : List Int} (e1 : 1 ≤ e) (hw : ∀ w ∈ ws, 1 ≤ w ∧ w ≤ 1000000) : Good e (srt ws) (stonesZ e (srt ws)) := by
  have := good_from (srt ws) [] ([], []) (Good.start e1) (fun w h => hw w ((srt_perm ws).mem_iff.mp h)) (srt_le ws) fun _ h => nomatch h
  exact this
/-- with the stones nobody is stuck -/
theorem stones_free {e : Int} {ws : List Int} (e1 : 1 ≤ e) (hw : ∀ w ∈ ws, 1 ≤ w ∧ w ≤ 1000000) : Free e (ws ++ stonesOf e (srt ws)) := by
  have g := stones_good e1 hw
  have p : (stonesZ e (srt ws)).1.Perm (ws ++ stonesOf e (srt ws)) := g.pm.trans ((srt_perm ws).append_right _)
  intro w h
  rw [← lite_perm p]
  exact g.fr w (p.mem_iff.mpr h)
/-- the stones so far, going through the first i weights -/
theorem st_turn (e : Int) (l : List Int) {i : Nat} {w : Int} (h : l[i]? = some w) : stonesZ e (l.take (i + 1)) = stW e (stonesZ e (l.take i)) w := by
  unfold stonesZ
  rw [List.take_succ, h, List.foldl_append]
  rfl
/-- how far the weights have been gone through -/
structure Gone [Amb] (e : Int) (l : List Int) (i : Nat) (z : List Int × List Int) : Prop where
  hi : i ≤ l.length
  ez : z = stonesZ e (l.take i)
  gd : Good e (l.take i) z
  up : ∀ v ∈ z.1, ∀ w ∈ l.drop i, v ≤ w
theorem sum_bound {m : Int} : ∀ {l : List Int}, (∀ w ∈ l, 1 ≤ w ∧ w ≤ m) → 0 ≤ l.sum ∧ l.sum ≤ l.length * m
  | [], _ => by simp
  | a :: l, h => by
    have ih := sum_bound fun w hw => h w (List.mem_cons_of_mem _ hw)
    have := h a (by simp)
    rw [List.sum_cons, List.length_cons]
    have e : ((l.length + 1 : Nat) : Int) * m = l.length * m + m := by
      rw [Int.natCast_add, Int.add_mul]
      simp
    omega
end DL

/-! Texts over plain data: f-strings, join, constants. -/
namespace DL
open PySem PySem.Spec L2
section
variable {K : PySem.W.Frag} {X : Cx} {f h : Fp} {H H' : Hp} {ω ω' : Om} {a b c e : Expr} {pos p p2 : Pos} {Ta Tb Te : TD} {T : TAD} {es : List Expr}
def dFmt (Ta : TD) : TD := fun ρ ω Q => Ta ρ ω fun x ω1 => (∃ y : Str, x = .str y ∧ y.length ≤ sizeLine ∧ Q (.str y) ω1) ∨ ∃ i : Int, x = .int i ∧ i.natAbs.log2 < 1920 ∧ Q (.str (toString i)) ω1
theorem de_fmt [Amb] (ha : DE X a Ta) : DE X (.FormattedValue a (-1) none pos) (dFmt Ta) := by
  refine PE.weak (pe_fmt ha) fun σ H Q ⟨h, ρ, ω, R, sl, w, t, k⟩ => ?_
  refine ⟨h, ρ, ω, _, sl, w, t, fun x ω1 v H1 t1 f1 w1 r => ?_⟩
  rcases t1 with ⟨y, rfl, l, q⟩ | ⟨i, rfl, l, q⟩
  · cases r
    exact .inl ⟨y, rfl, l, (k.go f1).self w1 q (.str _)⟩
  · cases r
    exact .inr ⟨i, rfl, l, (k.go f1).self w1 q (.str _)⟩
inductive DJ [Amb] (X : Cx) : List Expr → List TD → Prop where
  | nil : DJ X [] []
  | cons {e : Expr} {t : TD} {es : List Expr} {ts : List TD} (h : DE X e t) (r : DJ X es ts) : DJ X (e :: es) (t :: ts)
theorem DJ.pj [Amb] {es : List Expr} {ts : List TD} (h : DJ X es ts) : PJ X es (ts.map (up X.K)) := by
  induction h with
  | nil => exact .nil
  | cons h _ ih => exact .cons h ih
def dJs : List TD → Str → Rho → Om → (Str → Om → Prop) → Prop
  | [], acc, _, ω, Q => Q acc ω
  | t :: ts, acc, ρ, ω, Q => t ρ ω fun x ω1 => ∃ y : Str, x = .str y ∧ (acc ++ y).length ≤ sizeLine ∧ dJs ts (acc ++ y) ρ ω1 Q
theorem up_js [Amb] {σ : L2.St} {ρ : Rho} {R : Str → Om → Prop} {Q : Str → Hp → Prop} : ∀ (ts : List TD) (acc : Str) (H : Hp) (ω : Om), Sl K (fre ω h) H σ ρ → Wd K h H ω → dJs ts acc ρ ω R → (∀ out ω' H', R out ω' → Fr H ω H' ω' → Wd K h H' ω' → Q out H') → tJs (ts.map (up K)) acc σ H Q
  | [], acc, H, ω, sl, w, t, k => k acc ω H t Fr.refl w
  | t :: ts, acc, H, ω, sl, w, tt, k => by
    refine ⟨h, ρ, ω, _, sl, w, tt, fun x ω1 v H1 t1 f1 w1 r => ?_⟩
    obtain ⟨y, rfl, l, q⟩ := t1
    cases r
    exact ⟨y, rfl, l, up_js ts (acc ++ y) H1 ω1 (sl.keep f1.kp) w1 q fun out ω' H' r2 f2 w2 => k out ω' H' r2 (f1.trans f2) w2⟩
def dJoined (ts : List TD) : TD := fun ρ ω Q => dJs ts Str.empty ρ ω fun out ω1 => Q (.str out) ω1
theorem de_joined [Amb] {v1 v2 : Expr} {rest : List Expr} {ts : List TD} (h : DJ X (v1 :: v2 :: rest) ts) : DE X (.JoinedStr (v1 :: v2 :: rest) pos) (dJoined ts) := by
  refine PE.weak (pe_joined h.pj) fun σ H Q ⟨h, ρ, ω, R, sl, w, t, k⟩ => ?_
  exact up_js ts Str.empty H ω sl w t fun out ω' H' r f1 w1 => (k.go f1).self w1 r (.str _)
def dJoin (Ta Te : TD) : TD := fun ρ ω Q => Ta ρ ω fun x ω1 => ∃ a, x = .str a ∧ Te ρ ω1 fun y ω2 => ∃ ys : List Str, (lstOf ω2 y = some (ys.map D.str) ∨ y = .tup (ys.map D.str)) ∧ (ys.map (·.length)).sum + ys.length * a.length ≤ 16777216 ∧ Q (.str (Str.join a ys)) ω2
/-- the items of two lists in pairs, each owned or not -/
theorem itok_zipL [Amb] {a b : Addr} {x y : D} {xs ys : List D} (rx : Rp K (fre ω h) H x (.ref a)) (ry : Rp K (fre ω h) H y (.ref b)) : ItOk K h (Itz K a b) (zipD xs ys) (fun ω => lstOf ω x = some xs ∧ lstOf ω y = some ys) H ω := by
  intro h2 i H2 ω2 ⟨p1, p2⟩ f w
  obtain ⟨a', vs, ea, sx, ra⟩ := lstOf_sq w p1 (rx.keep f)
  obtain ⟨b', us, eb, sy, rb⟩ := lstOf_sq w p2 (ry.keep f)
  cases ea
  cases eb
  refine ⟨fun l => ⟨vs, us, sx, sy, ?_⟩, fun d e => ?_⟩
  · rw [zipD_len] at l
    rw [← ra.len, ← rb.len]
    omega
  obtain ⟨x', y', ex, ey, rfl⟩ := zipD_get e
  obtain ⟨v, ev, rv⟩ := ra.get ex
  obtain ⟨u, eu, ru⟩ := rb.get ey
  refine ⟨⟨vs, us, v, u, sx, sy, ev, eu⟩, fun z H3 ⟨q, v', u', e1, hn, e2, e3, e4⟩ => ?_⟩
  subst e1 e2
  have z1 := e3 vs sx
  have z2 := e4 us sy
  rw [ev] at z1
  rw [eu] at z2
  cases z1
  cases z2
  exact ⟨Fr.new hn, w.new hn, Rp.new_tup w hn (.cons rv (.cons ru .nil))⟩
def dZipL (T : TAD) : TID := fun ρ ω Q => T ρ ω fun ds ω1 => ∃ x y xs ys, ds = [x, y] ∧ lstOf ω1 x = some xs ∧ lstOf ω1 y = some ys ∧ Q (zipD xs ys) (fun ω => lstOf ω x = some xs ∧ lstOf ω y = some ys) ω1
/-- xs[::-1], a list -/
def dRevL (Ta : TD) : TD := fun ρ ω Q => Ta ρ ω fun x ω1 => ∃ xs, lstOf ω1 x = some xs ∧ Q (.lst xs.reverse) ω1
end
section
variable {ρ : Rho} {ω : Om} {Q : DQ} {Ta Te : TD} {t : TD} {ts : List TD} {acc y a : Str} {ys : List Str} {i : Int} {QO : Str → Om → Prop}
theorem st_joined (h : dJs ts Str.empty ρ ω fun out ω1 => Q (.str out) ω1) : dJoined ts ρ ω Q := h
theorem st_jnil (h : QO acc ω) : dJs [] acc ρ ω QO := h
theorem st_jcons (h : t ρ ω fun x ω1 => ∃ y : Str, x = .str y ∧ (acc ++ y).length ≤ sizeLine ∧ dJs ts (acc ++ y) ρ ω1 QO) : dJs (t :: ts) acc ρ ω QO := h
theorem st_jpart {Z : Str → Prop} (l : (acc ++ y).length ≤ sizeLine) (h : Z y) : ∃ y', D.str y = .str y' ∧ (acc ++ y').length ≤ sizeLine ∧ Z y' := ⟨y, rfl, l, h⟩
theorem st_fmt (h : Ta ρ ω fun x ω1 => (∃ y : Str, x = .str y ∧ y.length ≤ sizeLine ∧ Q (.str y) ω1) ∨ ∃ i : Int, x = .int i ∧ i.natAbs.log2 < 1920 ∧ Q (.str (toString i)) ω1) : dFmt Ta ρ ω Q := h
theorem st_fmtI {Y : Prop} {Z : Int → Prop} (l : i.natAbs.log2 < 1920) (h : Z i) : Y ∨ ∃ i' : Int, D.int i = .int i' ∧ i'.natAbs.log2 < 1920 ∧ Z i' := .inr ⟨i, rfl, l, h⟩
theorem st_join (h : Ta ρ ω fun x ω1 => ∃ a, x = .str a ∧ Te ρ ω1 fun y ω2 => ∃ ys : List Str, (lstOf ω2 y = some (ys.map D.str) ∨ y = .tup (ys.map D.str)) ∧ (ys.map (·.length)).sum + ys.length * a.length ≤ 16777216 ∧ Q (.str (Str.join a ys)) ω2) : dJoin Ta Te ρ ω Q := h
theorem st_zipL {QI : List D → (Om → Prop) → Om → Prop} {T : TAD} (h : T ρ ω fun ds ω1 => ∃ x y xs ys, ds = [x, y] ∧ lstOf ω1 x = some xs ∧ lstOf ω1 y = some ys ∧ QI (zipD xs ys) (fun ω => lstOf ω x = some xs ∧ lstOf ω y = some ys) ω1) : dZipL T ρ ω QI := h
theorem st_revL (h : Ta ρ ω fun x ω1 => ∃ xs, lstOf ω1 x = some xs ∧ Q (.lst xs.reverse) ω1) : dRevL Ta ρ ω Q := h
theorem st_join' {Z : Str → Prop} (h : Z a) : ∃ a', D.str a = .str a' ∧ Z a' := ⟨a, rfl, h⟩
end
end DL

/-! sorted(range(n), key=..) by a small function made on the spot. -/
namespace LK
open PySem PySem.Spec PyProof.Rows PySem.W L2
section
variable {prog : Program} {w : World} {A : Around} {E : Value → Shared → Prop} {s : Shared}
def upN (n : Nat) : List Int := (List.range n).map fun i : Nat => (i : Int)
/-- sorted of a range by the key of each number -/
theorem sorted_range_key {r f : Addr} {n : Nat} {t u v : Tok} {k : Int → PyData} {Q : Value → Shared → Prop}
    (hh : A.handled = none) (hr : IsRange s.heap r 0 (n : Int) 1 t u v) (hn : n ≤ 1000)
    (hal : AllAlike ((upN n).map k)) (hk : Sortable ((upN n).map k)) (hu : ∀ x ∈ upN n, A.units + 2 + (k x).depth < cLine)
    (turn : ∀ (i : Int) (ti : Tok), 0 ≤ i → i < n → ∀ (h : Heap) (tk : Nat), (∀ b o, s.heap.get? b = some o → h.get? b = some o) →
      wpAny (model prog w) A.in1.in1 (call (.ref f) [.int i ti]) (KeyPure (k i) { s with heap := h, toks := tk }) (fun _ _ => False) { s with heap := h, toks := tk })
    (h : ∀ (out : List Value) (c : Nat) (h1 h' : Heap) (tk : Nat), (∀ b o, s.heap.get? b = some o → h1.get? b = some o) → (∀ b o, h1.get? b = some o → h'.get? b = some o) → h'.get? h1.objs.size = some (seqObj "list" (List.toArray out) c) →
      EachIs (fun (x : Value) (i : Int) => ∃ t, x = .int i t) out ((upN n).mergeSort (dataLe false k)) → Q (.ref h1.objs.size) { s with heap := h', toks := tk }) :
    wpAny (model prog w) A (call (.builtin "sorted") [.ref r] [(Str.ofString "key", .ref f)]) Q E s := by
  refine call_function_entry_kw kind_sorted plain_sorted entry_sorted (ksk_s1 _ _) ?_
  unfold Builtin.«sorted»
  refine wpAny_bind (m := checkCount "sorted" 1 1 _) (wpAny_pure ?_)
  have b24 : n ≤ 2 ^ 24 := Nat.le_trans hn (by decide)
  have szl : n ≤ sizeLine := Nat.le_trans hn (by decide)
  refine wpAny_bind (collect_range (n := n) (by simpa using hh) hr (small_one (by decide) (by decide) (by omega) (by omega)) (by rw [rangeSize_nat]; omega) b24 fun h1 tk1 acc kp1 hacc => ?_)
  have lacc : acc.toList.length = n := by rw [Array.length_toList]; exact hacc.1
  refine wpAny_bind (wpAny_newList ?_ (by rw [lacc]; exact szl))
  have hoL : (h1.push { cls := .type "list", data := .seq acc.toList.toArray }).get? h1.objs.size = some (seqObj "list" acc.toList.toArray 0) := Heap.get?_push_size _ rfl
  have each : EachIs (fun (x : Value) (i : Int) => ∃ t, x = .int i t) acc.toList (upN n) := by
    have gen : ∀ (l : List Value) (j : Nat), (∀ i v, l[i]? = some v → ∃ t, v = Value.int ((i + j : Nat) : Int) t) → EachIs (fun (x : Value) (i : Int) => ∃ t, x = .int i t) l ((List.range' j l.length).map fun i : Nat => (i : Int)) := by
      intro l
      induction l with
      | nil => intro j _; exact EachIs.nil
      | cons x l ih =>
        intro j hl
        rw [List.length_cons, List.range'_succ, List.map_cons]
        refine EachIs.cons (by have := hl 0 x rfl; simpa using this) (ih (j + 1) fun i v e => ?_)
        have := hl (i + 1) v (by simpa using e)
        rw [show i + (j + 1) = i + 1 + j by omega]
        exact this
    have z := gen acc.toList 0 fun i v e => by
      obtain ⟨t, e2⟩ := hacc.2 i v (by rw [← Array.getElem?_toList]; exact e)
      exact ⟨t, by rw [e2]; simp⟩
    rw [lacc] at z
    unfold upN
    rw [List.range_eq_range']
    exact z
  refine wpAny_bind (wpAny_holding (wpAny_call_entry_kw slot_list_sort ⟨_, hoL, rfl⟩ entry_list_sort ?_ (ksk_l1 _ _)))
  rw [ksk_t1]
  have up : ∀ {g : Heap}, KeepsBut h1.objs.size (h1.push { cls := .type "list", data := .seq acc.toList.toArray }) g → ∀ b o, h1.get? b = some o → g.get? b = some o := fun {g} kp b o q =>
    kp b o (Nat.ne_of_lt (Heap.lt_size q)) (Heap.get?_push_of_some _ q)
  refine keyH_tree (kz := (upN n).map k) (s := { s with heap := h1.push { cls := .type "list", data := .seq acc.toList.toArray }, toks := tk1 }) hoL (by rw [List.length_map, lacc]; unfold upN; rw [List.length_map, List.length_range]) (by rw [lacc]; exact szl) hal hk (fun d hd => ?_)
    (keyH_turns each fun x i hR hx h tk kp => ?_) fun h' tk out c kp hD ko => ⟨_, rfl, wpAny_pure ⟨_, rfl, ?_⟩⟩
  · obtain ⟨x, hx, rfl⟩ := List.mem_map.mp hd
    have := hu x hx
    exact this
  · obtain ⟨ti, rfl⟩ := hR
    unfold upN at hx
    obtain ⟨j, hj, rfl⟩ := List.mem_map.mp hx
    rw [List.mem_range] at hj
    exact turn (j : Int) ti (by omega) (by omega) h tk fun b o q => up kp b o (kp1 b o q)
  · exact h out c h1 h' tk kp1 (up kp) hD (keyedOut_each k ko each)
abbrev sW : Str := "weights"
abbrev sP : Str := "person"
/-- the small function's call: (weights[person], person) -/
theorem key_call {f c' cw wa : Addr} {qual : Str} {params : Arguments} {p1 p2 p3 p4 p5 : Pos} {k5 : Nat} {scope : Scope} {cl : List (Str × Addr)} {pm ctv : Value} {items : Array Value} {j : Nat} {wv : Int} {ti tw : Tok}
    (hf : s.heap.get? f = some (kla_obj "<lambda>" qual params (.Tuple [.Subscript (.Name sW p1) (.Name sP p2) p3, .Name sP p4] k5 p5) scope cl pm c' ctv))
    (hc : s.heap.CodeRec (.ref c') qual) (hcl : cl.lookup sW = some cw) (hcw : s.heap.IsCell cw (some (.ref wa))) (ht : IsTup s.heap wa items) (hi : items[j]? = some (.int wv tw)) (hj : items.size ≤ 1000)
    (lim : s.heap.NoLimit) (room : A.depth < recursionLimit) (k1 : scope.kind = .function) (k2 : scope.isCoroutine = false) (k3 : scope.isGenerator = false) (kn : scope.names = [(sP, NameKind.local), (sW, NameKind.free)] ∨ scope.names = [(sW, NameKind.free), (sP, NameKind.local)])
    (hb : ∀ v : Value, bindArgs (kla_fn "<lambda>" qual params (.Tuple [.Subscript (.Name sW p1) (.Name sP p2) p3, .Name sP p4] k5 p5) scope cl pm (.ref c') ctv) ⟨[v], []⟩ = pure [(sP, v)]) :
    wpAny (model prog w) A (call (.ref f) [.int (j : Int) ti]) (KeyPure (.tuple [.int wv, .int (j : Int)]) s) (fun _ _ => False) s := by
  have lp : scope.names.lookup sP = some .local := by rcases kn with e | e <;> rw [e] <;> decide
  have lw : scope.names.lookup sW = some .free := by rcases kn with e | e <;> rw [e] <;> decide
  refine wpAny_call (kla_callFunE room hf rfl k2 k3 rfl hc ?_)
  rw [hb]
  refine wpAny_pure (wpAny_newFunctionEnv (fun y hy => by rcases kn with e | e <;> rw [e] at hy <;> simp at hy <;> rcases hy with z | z <;> rw [z] <;> decide) (fun y hy => by simp at hy; rw [hy]; exact lp) (fun h₁ hns hsb => ⟨lim.fresh _ hsb, ?_⟩) k1)
  have kp : ∀ b o, s.heap.get? b = some o → h₁.get? b = some o := fun b o e => hsb.extBut b o (Nat.ne_of_lt (Heap.lt_size e)) (Heap.get?_push_of_some _ e)
  refine kla_codeExpr (wpAny_Tuple_spliced ?_)
  have hn : ∀ {x1 : Heap} {E' : Value → Shared → Prop} {Q' : Value → Shared → Prop} {pq : Pos} {tk : Nat}, (∀ b o, h₁.get? b = some o → x1.get? b = some o) → Q' (.int (j : Int) ti) { s with heap := x1, toks := tk } →
      wpAny (model prog w) (A.deeper (envX qual scope s.heap.objs.size f (.ref c') cl)) (eval (.Name sP pq) (envX qual scope s.heap.objs.size f (.ref c') cl)) Q' E' { s with heap := x1, toks := tk } := fun {x1 E' Q' pq tk} kx q => by
    refine wpAny_Name (wpAny_loadName_local k1 lp (hns.keeps kx) ?_ q) (by decide)
    simp [List.lookup]
  refine args_cons (Subscript_ (wpAny_Name (wpAny_loadName_free k1 lw hcl (show h₁.IsCell cw (some (.ref wa)) from ?_) (hn (fun _ _ q => q) ?_) (by decide)) (by decide)))
  · obtain ⟨o, h1, h2⟩ := hcw
    exact ⟨o, kp _ _ h1, h2⟩
  have lj : j < items.size := by
    have := (Array.getElem?_eq_some_iff.mp hi).1
    exact this
  have ht1 : IsTup h₁ wa items := by
    obtain ⟨o, a1, a2, a3⟩ := ht
    exact ⟨o, kp _ _ a1, a2, a3⟩
  refine subscriptTail_builtinR (x := .int wv tw) ht1.typeIs slot_tuple_getitem.lookup (getItem_tuple (j := j) ht1 (by omega) (by omega) (ixN_seq (show ixN items.size (j : Int) = some j from by rw [DL.ixN_nat (by omega) (by omega), Int.toNat_natCast])).1 hi ⟨rfl, ?_⟩) (by rfl)
  refine args_cons (hn (fun _ _ q => q) (args_nil ⟨by show 2 ≤ sizeLine; decide, ?_⟩))
  show KeyPure (.tuple [.int wv, .int (j : Int)]) s _ _
  refine ⟨_, _, rfl, fun b o e => Heap.get?_push_of_some _ (kp b o e), ?_⟩
  exact .tuple (Heap.get?_push_size _ rfl) rfl rfl (.cons (.int _ _) (.cons (.int _ _) .nil))
end

/-! ### the small function is made -/
open LamX
/-- how the heap goes on where a small function is made: its code object is new, or was there -/
def LamTo (P : Addr) (q : Str) (H H2 : Hp) : Prop := TabS H2 P q ∧ (H2 = H ∨ ∃ ps c', H c' = none ∧ (∃ ps0, H P = some (.tbl ps0) ∧ ∀ p cv, codeAmong p ps.toList = some cv → codeAmong p ps0.toList = some cv ∨ cv = .ref c') ∧ H2 = upd (upd H P (.tbl ps)) c' (CodeO c' q))
theorem lam_new {X : Cx} {pins : List (Addr × Obj)} {σ : L2.St} {H : Hp} {s : Shared} {c P : Addr} {params : Arguments} {body : Expr} {scope : Scope} {pos : Pos} {E : Value → Shared → Prop} {Q : Value → Shared → Prop}
    (I : Inv X pins σ H s) (TB : TabB X.base X.mg c P) (hcode : X.env.code = .ref c) (hT : TabS H P (X.env.qual ++ "<lambda>"))
    (hdef : defaultsOf params X.env = ([], [])) (hfree : ∀ y ∈ scope.names, y.2 = .free → ∃ d, X.env.cells.lookup y.1 = some d)
    (h : ∀ (f c' : Addr) (pm ctv : Value) (H2 : Hp) (s' : Shared), Inv X pins σ H2 s' → LamTo P (X.env.qual ++ "<lambda>") H H2 → H2 c' = some (CodeO c' (X.env.qual ++ "<lambda>")) →
      s'.heap.get? f = some (kla_obj "<lambda>" (X.env.qual ++ "<lambda>") params body scope (cloFrom X.env.cells scope.names []) pm c' ctv) → (∀ b o, b ≠ P → s.heap.get? b = some o → s'.heap.get? b = some o) → H2 f = none → f ∉ frs X.stack → Q (.ref f) s') :
    wpAny (model X.prog X.w) X.A (eval (.Lambda params body scope pos) X.env) Q E s := by
  have away : ∀ {y : Addr}, s.heap.objs.size ≤ y → y ∉ frs X.stack := fun {y} hy m => (List.mem_cons.mp (I.stkSub _ m)).elim (fun e => Nat.not_lt.mpr hy (e ▸ I.lt)) fun e => I.nofs hy e
  obtain ⟨tb, tP, tOk, tAll⟩ := hT
  have atP : s.heap.get? P = some { cls := .none, data := .fields tb } := I.hok P _ tP
  have kb := TB.bm.keeps I.bk
  have kg := I.mod.glob.keeps I.bk
  have kc := TB.code.keeps I.bk
  have clos := closure_ok hfree
  refine kla_eval hdef ?_
  by_cases hit : ∃ cv, codeAmong pos tb.toList = some cv
  · obtain ⟨cv, hcv⟩ := hit
    obtain ⟨c', rfl, hc'⟩ := tAll pos cv hcv
    refine kla_makeFunctionHit (c := c) (mg := X.mg) (ps := tb) (P := P) clos I.ok.glob kg hcode kc atP tOk hcv kb fun ct g tk up sz => ?_
    have kk : ∀ b o, s.heap.get? b = some o → (g.push (kla_obj "<lambda>" (X.env.qual ++ "<lambda>") params body scope (cloFrom X.env.cells scope.names []) ((X.mg "__name__").getD .none) c' ct)).get? b = some o := fun b o z => Heap.get?_push_of_some _ (up b o z)
    exact h g.objs.size c' _ ct H _ (I.kept (t' := tk) kk) ⟨⟨tb, tP, tOk, tAll⟩, .inl rfl⟩ hc' (Heap.get?_push_size _ rfl) (fun b o _ z => kk b o z) (I.hok.fresh sz) (away sz)
  · have miss : codeAmong pos tb.toList = none := by
      cases z : codeAmong pos tb.toList with
      | none => rfl
      | some cv => exact absurd ⟨cv, z⟩ hit
    refine kla_makeFunction (c := c) (mg := X.mg) (ps := tb) (P := P) clos I.ok.glob kg hcode kc atP tOk miss TB.gP kb fun c' ct g tk up big small rec' tab' => ?_
    obtain ⟨d, od, vd, td, ed, hod, hdd, hnm⟩ := rec'
    cases ed
    have nc : H c' = none := I.hok.fresh big
    have kk : ∀ b o, b ≠ P → s.heap.get? b = some o → (g.push (kla_obj "<lambda>" (X.env.qual ++ "<lambda>") params body scope (cloFrom X.env.cells scope.names []) ((X.mg "__name__").getD .none) c' ct)).get? b = some o := fun b o nb z => Heap.get?_push_of_some _ (up b o nb z)
    have J := inv_table (more := #[rawInt pos.line, rawInt pos.col, .ref c']) (t' := tk) (h' := g.push (kla_obj "<lambda>" (X.env.qual ++ "<lambda>") params body scope (cloFrom X.env.cells scope.names []) ((X.mg "__name__").getD .none) c' ct)) I tP kk (Heap.get?_push_of_some _ tab') big
      ⟨od, vd, td, Heap.get?_push_of_some _ hod, hdd, hnm⟩
    have neP : P ≠ c' := fun z => by
      rw [z, nc] at tP
      cases tP
    have tl : (tb ++ #[rawInt pos.line, rawInt pos.col, .ref c']).toList = tb.toList ++ [rawInt pos.line, rawInt pos.col, .ref c'] := by simp
    refine h g.objs.size c' _ ct _ _ J ⟨⟨_, by rw [upd_ne neP, upd_same], by rw [tl]; exact PySem.TriplesOk_snoc _ _ _ _ tOk, fun p' cv hcv => ?_⟩, .inr ⟨_, c', nc, ⟨tb, tP, fun p cv hcv => by rw [tl] at hcv; exact among_app _ tOk hcv⟩, rfl⟩⟩ upd_same (Heap.get?_push_size _ rfl) kk (by rw [upd_ne (Nat.ne_of_gt small), upd_ne (show g.objs.size ≠ P from fun z => Nat.not_lt.mpr (Nat.le_of_lt (Nat.lt_of_le_of_lt big small)) (by rw [z]; exact Heap.lt_size atP))]; exact I.hok.fresh (Nat.le_of_lt (Nat.lt_of_le_of_lt big small))) (away (Nat.le_of_lt (Nat.lt_of_le_of_lt big small)))
    rw [tl] at hcv
    rcases among_app _ tOk hcv with z | z
    · obtain ⟨d, ed, hd⟩ := tAll p' cv z
      refine ⟨d, ed, ?_⟩
      have n1 : d ≠ c' := fun y => by
        rw [y, nc] at hd
        cases hd
      have n2 : d ≠ P := fun y => by
        rw [y, tP] at hd
        exact codeO_ne tb (Option.some.inj hd).symm
      rw [upd_ne n1, upd_ne n2]
      exact hd
    · exact ⟨c', z, upd_same⟩
/-- the numbers below the length, by weight, of equal ones the smaller first -/
def byW (ws : List Int) : List Int := (upN ws.length).mergeSort fun p q => decide (ws.getD p.toNat 0 < ws.getD q.toNat 0 ∨ (ws.getD p.toNat 0 = ws.getD q.toNat 0 ∧ p ≤ q))
def tSortKey (K : PySem.W.Frag) (P : Addr) (q : Str) (i : Nat) (te : L2.St → Hp → (Int → Int → Hp → Prop) → Prop) : TE := fun σ H Q => te σ H fun a b H1 => ∃ (wa : Addr) (ws : List Int), a = 0 ∧ b = ws.length ∧ ws.length ≤ 1000 ∧ TabS H1 P q ∧ σ[i]? = some (some (.ref wa)) ∧ SqT K H1 wa (ws.map V.int) ∧
  ∀ H2 l, LamTo P q H1 H2 → H1 l = none → H2 l = none → Q (.ref l) (upd H2 l (.lst ((byW ws).map V.int)))
theorem upN_len {n : Nat} : (upN n).length = n := by unfold upN; rw [List.length_map, List.length_range]
theorem each_ints : ∀ {vs : List Value} {ns : List Int}, EachIs (fun (x : Value) (i : Int) => ∃ t, x = .int i t) vs ns → Vals (ns.map V.int) vs
  | _, _, .nil => .nil
  | _, _, .cons h t => .cons h (each_ints t)
theorem pe_sortKey {X : Cx} {k i : Nat} {c P : Addr} {te : L2.St → Hp → (Int → Int → Hp → Prop) → Prop} {e : Expr} {p p1 p2 p3 p4 p5 lpos kpos pos : Pos} {k5 : Nat} {params : Arguments} {scope : Scope}
    (hr : Room (k + 1) X.A) (hc : X.calm = true) (hg : Gl X "sorted") (hm : X.mg "sorted" = none) (he : PRg X e te) (TB : TabB X.base X.mg c P) (hcode : X.env.code = .ref c)
    (hN : X.N[i]? = some sW) (hcell : X.env.scope.names.lookup sW = some .cell)
    (k1 : scope.kind = .function) (k2 : scope.isCoroutine = false) (k3 : scope.isGenerator = false) (kn : scope.names = [(sP, NameKind.local), (sW, NameKind.free)])
    (hdef : defaultsOf params X.env = ([], []))
    (hb : ∀ (qual : Str) (cl : List (Str × Addr)) (pm cdv ct v : Value), bindArgs (kla_fn "<lambda>" qual params (.Tuple [.Subscript (.Name sW p1) (.Name sP p2) p3, .Name sP p4] k5 p5) scope cl pm cdv ct) ⟨[v], []⟩ = pure [(sP, v)])
    (n0 : starEach [e] X.env = (false, eval e X.env) :: starEach [] X.env := by rfl) (na : backTo pos (starEach [e] X.env) = (false, eval e X.env) :: backTo pos (starEach [] X.env) := by rfl) (npl : (backTo pos (starEach [e] X.env)).any (·.1) = false := by rfl) :
    PE X (.Call (.Name "sorted" p) [e] [⟨some "key", .Lambda params (.Tuple [.Subscript (.Name sW p1) (.Name sP p2) p3, .Name sP p4] k5 p5) scope lpos, kpos⟩] pos) (tSortKey X.K P (X.env.qual ++ "<lambda>") i te) := by
  refine ⟨fun pins s σ H Q I h => ?_⟩
  refine wpAny_Call_Name_kw (ld_blt (u := .builtin "sorted") I hg hm (by decide +kernel) ?_ (by decide) (by decide))
  refine PyProof.Rows.callWith_kw ?_ na npl rfl rfl
  refine args_cons (thn (he pins s σ H _ I h) fun rv s1 ⟨r, a, b, t, u, v, H1, er, hrg, I1, wa, ws, ea, eb, hl, hT, hs, hq, q⟩ => args_nil ?_) n0
  subst er ea eb
  show wpAny _ _ (evalAll [(do let v ← eval (.Lambda params (.Tuple [.Subscript (.Name sW p1) (.Name sP p2) p3, .Name sP p4] k5 p5) scope lpos) X.env; standAt pos; pure v)]) _ _ s1
  have hfree : ∀ y ∈ scope.names, y.2 = .free → ∃ d, X.env.cells.lookup y.1 = some d := fun y hy e => by
    rw [kn] at hy
    simp at hy
    rcases hy with z | z
    · rw [z] at e
      cases e
    · rw [z]
      exact I1.ok.has _ (.inl hcell)
  refine wpAny_evalAll_cons (wpAny_bind (lam_new I1 TB hcode hT hdef hfree fun f c' pm ctv H2 s2 I2 lt hco hf kp _ _ => wpAny_bind (wpAny_standAt (wpAny_pure (wpAny_evalAll_nil ?_)))))
  show wpAny _ _ (call (.builtin "sorted") [.ref r] [(Str.ofString "key", .ref f)]) _ _ s2
  -- what the function sees
  obtain ⟨m, hn, hloc⟩ := I2.loc
  obtain ⟨uw, ruw, lw⟩ := hloc i sW (.ref wa) hN hs (.inr (.inl hcell))
  obtain rfl : uw = .ref wa := ruw
  have hcel : ∃ cw, X.env.cells.lookup sW = some cw ∧ s2.heap.IsCell cw (some (.ref wa)) := by
    rcases lw with ⟨z, _⟩ | ⟨_, cw, z1, z2⟩
    · have z : X.env.scope.names.lookup sW = some .local := z
      rw [hcell] at z
      cases z
    · exact ⟨cw, z1, z2⟩
  obtain ⟨cw, hcw, icw⟩ := hcel
  have hcl : (cloFrom X.env.cells scope.names []).lookup sW = some cw := by
    have hy : (sW, NameKind.free) ∈ scope.names := by rw [kn]; simp
    obtain ⟨c1, h1⟩ := mem_lookup (cloFrom_has (cells := X.env.cells) (acc := []) hy)
    have h2 : c1 = cw := by
      rcases cloFrom_mem (PySem.mem_of_lookup h1) with z | ⟨_, z⟩
      · cases z
      · rw [z, hcw]
        rfl
    rw [h1, h2]
  have hq2 : SqT X.K H2 wa (ws.map V.int) := by
    obtain ⟨_, rfl | ⟨ps, cc, ncc, ⟨ps0, hP0, _⟩, rfl⟩⟩ := lt
    · exact hq
    · rcases hq with (z | ⟨o, z⟩) | z
      · refine .inl (.inl ?_)
        rw [upd_ne (ne_of_none z ncc), upd_ne (fun y => by rw [y, hP0] at z; cases z)]
        exact z
      · refine .inl (.inr ⟨o, ?_⟩)
        rw [upd_ne (ne_of_none z ncc), upd_ne (fun y => by rw [y, hP0] at z; cases z)]
        exact z
      · exact .inr z
  obtain ⟨its, rv2, tp, _⟩ := I2.tuple hq2
  have lits : its.length = ws.length := by
    have := rv2.length
    rw [List.length_map] at this
    exact this.symm
  have tP : ∃ tb, H1 P = some (.tbl tb) := by
    obtain ⟨tb, z, _⟩ := hT
    exact ⟨tb, z⟩
  have hrg2 : IsRange s2.heap r 0 (ws.length : Int) 1 t u v := by
    refine kp r _ (fun z => ?_) hrg
    obtain ⟨tb, z2⟩ := tP
    have y : s1.heap.get? P = some { cls := .none, data := .fields tb } := I1.hok P _ z2
    have hrg' := hrg
    unfold IsRange at hrg'
    rw [z, y] at hrg'
    cases hrg'
  have crec : s2.heap.CodeRec (.ref c') (X.env.qual ++ "<lambda>") := by
    obtain ⟨⟨oc, vs, tt, z1, z2, z3⟩, _, _⟩ := I2.hok c' _ hco
    exact ⟨c', oc, vs, tt, rfl, z1, z2, z3⟩
  let key : Int → PyData := fun j => .tuple [.int (ws.getD j.toNat 0), .int j]
  refine sorted_range_key (k := key) (n := ws.length) (I2.ok.hd hc) hrg2 hl (AllAlike.of fun b b' => by simp [key, alike, alikeAll]) (Sortable.tuples fun b => ⟨_, _, rfl⟩) (fun x _ => ?_) (fun j tj j0 j1 g tk kg => ?_) fun out cc h1 h' tk k1' k2' hout heach => ?_
  · have := hr.un
    show X.A.units + 2 + (PyData.tuple [.int (ws.getD x.toNat 0), .int x]).depth < cLine
    have e : (PyData.tuple [.int (ws.getD x.toNat 0), .int x]).depth = 1 := by simp [PyData.depth, PyData.depthAll]
    rw [e]
    omega
  · obtain ⟨jn, rfl⟩ : ∃ n : Nat, j = (n : Int) := ⟨j.toNat, by omega⟩
    have jl : jn < ws.length := by omega
    obtain ⟨itv, hit, rit⟩ := rv2.get (i := jn) (x := V.int ws[jn]) (by rw [List.getElem?_map, List.getElem?_eq_getElem jl]; rfl)
    obtain ⟨tw, rfl⟩ := rit
    have ek : key (jn : Int) = .tuple [.int ws[jn], .int (jn : Int)] := by
      show PyData.tuple [.int (ws.getD (jn : Int).toNat 0), .int (jn : Int)] = _
      rw [Int.toNat_natCast, List.getD_eq_getElem?_getD, List.getElem?_eq_getElem jl]
      rfl
    rw [ek]
    have itup : IsTup g wa its.toArray := by
      obtain ⟨o, z1, z2, z3⟩ := tp
      exact ⟨o, kg _ _ z1, z2, z3⟩
    refine key_call (s := { s2 with heap := g, toks := tk }) (kg _ _ hf) ?_ hcl ?_ itup (by simpa using hit) (by rw [List.size_toArray]; omega) ((I2.nolimit).keeps kg) ?_ k1 k2 k3 (.inl kn) (fun v => hb _ _ _ _ _ v)
    · obtain ⟨d, o, vs, tt, z0, z1, z2, z3⟩ := crec
      exact ⟨d, o, vs, tt, z0, kg _ _ z1, z2, z3⟩
    · obtain ⟨o, z1, z2⟩ := icw
      exact ⟨o, kg _ _ z1, z2⟩
    · exact hr.depth
  · have I3 : Inv X pins σ H2 { s2 with heap := h1, toks := tk } := I2.kept k1'
    have ln : (byW ws).length = ws.length := by
      unfold byW
      rw [List.length_mergeSort, upN_len]
    have eb : (upN ws.length).mergeSort (dataLe false key) = byW ws := by
      unfold byW
      rw [show dataLe false key = _ from dataLe_ii (fun j : Int => ws.getD j.toNat 0) (fun j => j)]
    rw [eb] at heach
    refine ⟨.ref h1.objs.size, upd H2 h1.objs.size (.lst ((byW ws).map V.int)), I3.laid (t' := tk) k2' (Nat.le_refl _) (show ObjOk X.prog X.w _ _ _ (.lst ((byW ws).map V.int)) from ⟨by rw [List.length_map, ln]; exact Nat.le_trans hl (by decide), out, cc, each_ints heach, hout⟩), rfl, ?_⟩
    have n2 : H2 h1.objs.size = none := I3.hok.fresh (Nat.le_refl _)
    refine q H2 _ lt ?_ n2
    obtain ⟨_, rfl | ⟨ps, cc2, ncc, _, rfl⟩⟩ := lt
    · exact n2
    · by_cases z : h1.objs.size = cc2
      · rw [z]; exact ncc
      · rw [upd_ne z] at n2
        by_cases z2 : h1.objs.size = P
        · rw [z2, upd_same] at n2; cases n2
        · rw [upd_ne z2] at n2; exact n2
end LK

/-! LL: sorted by a small function over plain data; the tables of code objects; the law's end with tables. -/
namespace DL
open PySem PySem.Spec L2 PyProof.Rows PySem.W LamX LK
/-- where the tables of the defs lie that make small functions -/
class Tbl where
  P : Str → Addr
def lamQ (x : Str) : Str := (x ++ ".<locals>.") ++ "<lambda>"
def TabOn [Tbl] (x : Str) (ω : Om) : Prop := ω (Tbl.P x) = some (.tab (lamQ x))
section
variable {X : Cx} {K : PySem.W.Frag} {h : Fp} {H H2 : Hp} {ω : Om} {P : Addr} {q : Str}
theorem lamTo_tab [Amb] (w : Wd K h H ω) (hP : ω P = some (.tab q)) (lt : LamTo P q H H2) : Fr H ω H2 ω ∧ Wd K h H2 ω := by
  obtain ⟨⟨ps2, t1, t2, t3⟩, rfl | ⟨ps, cc, ncc, ⟨ps0, hP0, old⟩, rfl⟩⟩ := lt
  · exact ⟨Fr.refl, w⟩
  have nP : P ≠ cc := fun z => by
    rw [z, ncc] at hP0
    cases hP0
  have fr : Fr H ω (upd (upd H P (.tbl ps)) cc (CodeO cc q)) ω := fun b o x y => by
    have n1 : b ≠ cc := ne_of_none y ncc
    have n2 : b ≠ P := fun z => by
      rw [z, hP] at x
      cases x
    exact ⟨by rw [upd_ne n1, upd_ne n2]; exact y, x⟩
  refine ⟨fr, ⟨fun a c x => ?_, fun b x => ?_, fun b vs n x => ?_, Amb.mono w.amb fr⟩⟩
  · by_cases ha : a = P
    · subst ha
      rw [hP] at x
      cases x
      rw [upd_ne nP, upd_same] at t1
      cases t1
      refine ⟨_, by rw [upd_ne nP, upd_same], t2, fun p cv hcv => ?_⟩
      obtain ⟨c, e, hc⟩ := t3 p cv hcv
      refine ⟨c, e, ?_, hc⟩
      rcases old p cv hcv with z | z
      · obtain ⟨ps1, y1, y2, y3⟩ := w.cell a _ hP
        rw [hP0] at y1
        cases y1
        obtain ⟨c1, e1, f1, _⟩ := y3 p cv z
        rw [e] at e1
        cases e1
        exact f1
      · rw [e] at z
        cases z
        exact w.fre_new ncc
    · have n1 : a ≠ cc := fun z => (w.cell a c x).has (by rw [z]; exact ncc)
      exact (w.cell a c x).keep (by rw [upd_ne n1, upd_ne ha]) fr.kp
  · by_cases n1 : b = cc
    · rw [n1, upd_same] at x; cases x
    · rw [upd_ne n1] at x
      by_cases n2 : b = P
      · rw [n2, upd_same] at x; cases x
      · rw [upd_ne n2] at x; exact w.open_ b x
  · by_cases n1 : b = cc
    · rw [n1, upd_same] at x; cases x
    · rw [upd_ne n1] at x
      by_cases n2 : b = P
      · rw [n2, upd_same] at x; cases x
      · rw [upd_ne n2] at x; exact w.tup_ b vs n x
theorem tab_tabS [Amb] (w : Wd K h H ω) (hP : ω P = some (.tab q)) : TabS H P q := by
  obtain ⟨ps, a, b, c⟩ := w.cell P _ hP
  exact ⟨ps, a, b, fun p cv hc => let ⟨d, e, _, g⟩ := c p cv hc; ⟨d, e, g⟩⟩
def dSortKey (P : Addr) (q : Str) (i : Nat) (Ta : TD) : TD := fun ρ ω Q => Ta ρ ω fun x ω1 => ∃ ws : List Int, x = .int ws.length ∧ ws.length ≤ 1000 ∧ ω1 P = some (.tab q) ∧ ρ[i]? = some (some (.tup (ws.map D.int))) ∧ Q (.lst ((byW ws).map D.int)) ω1
theorem de_sortKey [Amb] {k i : Nat} {c P : Addr} {q : Str} {Ta : TD} {a : Expr} {p pr1 pr2 p1 p2 p3 p4 p5 lpos kpos pos : Pos} {k5 : Nat} {params : Arguments} {scope : Scope}
    (hr : Room (k + 1) X.A) (hc : X.calm = true) (hg : Gl X "sorted") (hm : X.mg "sorted" = none) (hg2 : Gl X "range") (hm2 : X.mg "range" = none) (ha : DE X a Ta) (TB : TabB X.base X.mg c P) (hcode : X.env.code = .ref c) (hq : X.env.qual ++ "<lambda>" = q)
    (hN : X.N[i]? = some sW) (hcell : X.env.scope.names.lookup sW = some .cell)
    (k1 : scope.kind = .function) (k2 : scope.isCoroutine = false) (k3 : scope.isGenerator = false) (kn : scope.names = [(sP, NameKind.local), (sW, NameKind.free)])
    (hdef : defaultsOf params X.env = ([], []))
    (hb : ∀ (qual : Str) (cl : List (Str × Addr)) (pm cdv ct v : Value), bindArgs (kla_fn "<lambda>" qual params (.Tuple [.Subscript (.Name sW p1) (.Name sP p2) p3, .Name sP p4] k5 p5) scope cl pm cdv ct) ⟨[v], []⟩ = pure [(sP, v)])
    (na : starEach [a] X.env = (false, eval a X.env) :: starEach [] X.env := by rfl)
    (n0 : starEach [.Call (.Name "range" pr1) [a] [] pr2] X.env = (false, eval (.Call (.Name "range" pr1) [a] [] pr2) X.env) :: starEach [] X.env := by rfl)
    (nb : backTo pos (starEach [.Call (.Name "range" pr1) [a] [] pr2] X.env) = (false, eval (.Call (.Name "range" pr1) [a] [] pr2) X.env) :: backTo pos (starEach [] X.env) := by rfl)
    (npl : (backTo pos (starEach [.Call (.Name "range" pr1) [a] [] pr2] X.env)).any (·.1) = false := by rfl) :
    DE X (.Call (.Name "sorted" p) [.Call (.Name "range" pr1) [a] [] pr2] [⟨some "key", .Lambda params (.Tuple [.Subscript (.Name sW p1) (.Name sP p2) p3, .Name sP p4] k5 p5) scope lpos, kpos⟩] pos) (dSortKey P q i Ta) := by
  subst hq
  refine PE.weak (pe_sortKey hr hc hg hm (prg_1 hg2 hm2 ha na) TB hcode hN hcell k1 k2 k3 kn hdef hb n0 nb npl) fun σ H Q ⟨h, ρ, ω, R, sl, w, t, k⟩ => ?_
  refine ⟨h, ρ, ω, _, sl, w, t, fun x ω1 v H1 t1 f1 w1 r1 => ?_⟩
  obtain ⟨ws, rfl, hl, hP, hi, hq⟩ := t1
  cases r1
  obtain ⟨vw, e1, rw1⟩ := (sl.keep f1.kp).at_ i _ hi
  cases rw1 with
  | @tup wa vs _ st ra =>
    have ev := ra.ints
    subst ev
    refine ⟨_, rfl, wa, ws, rfl, rfl, hl, tab_tabS w1 hP, e1, st.sq, fun H2 l lt n1 n2 => ?_⟩
    obtain ⟨f2, w2⟩ := lamTo_tab w1 hP lt
    have f3 : Fr H2 ω1 (upd H2 l (.lst ((byW ws).map V.int))) ω1 := Fr.new n2
    exact k _ _ _ _ hq (f1.trans (f2.trans f3)) (w2.new n2) (.lst (.inl ⟨w2.fre_new n2, .inl upd_same⟩) (RpAll.ofInts _))
end

/-! ### a def with a known code object -/
theorem FnG.ofDC {P : Program} {w : World} {K : PySem.W.Frag} {mg : Str → Option Value} {base : Heap} {k : Nat} {x qual : Str} {st : Stmt} {f c : Addr} {fd : FuncData} {N ps : List Str} {S : SpD} {T : TSD}
    (F : Fun K x qual st f fd) (hc : fd.code = .ref c) (sc : FnScope N ps (defScope st)) (ar : ∀ ds ω R, S ds ω R → ds.length = ps.length)
    (b : ∀ (A : Around) (fs : List Env) (s : Shared) (hp : Hp) (e : XK), Room k (A.deeper (PyProof.Rows.envOfC qual (defScope st) s.heap.objs.size f (.ref c))) → A.guards = some [] →
      DSs (cxOf CX0 P w K mg base N qual (defScope st) f (.ref c) A fs s hp e).nox (defBody st) T)
    (rd : ∀ ds ω R, S ds ω R → T { nx := fun _ ω' => R .non ω', rt := R } (startD N ds) ω) : FnG P w K mg base CX0 (k + 1) f fd ps (spU K S) := by
  obtain ⟨oc, od, kV, doc, pm, an, cdv, ct, osl, rfl, lk, hcd⟩ := F.ex
  have ec : cdv = .ref c := hc
  subst ec
  refine ⟨fun vs H Q e ⟨h, ds, ω, R, r, _, s, _⟩ => by rw [← r.len]; exact ar ds ω R s, fun A fs s hp args us vs q e room gd en hb rv ⟨h, ds, ω, R, r, wd, sp, k⟩ => ?_⟩
  have la : vs.length = ps.length := by rw [← r.len]; exact ar ds ω R sp
  have inn : K.In s.heap := en.mod.kin.keeps fun b o z => (en.bs b o z).1
  have kinds : ∀ y ∈ ps.zip us, (defScope st).names.lookup y.1 = some .local ∨ ((defScope st).names.lookup y.1 = some .cell ∧ ((cellsFrom (s.heap.objs.size + 1) (defScope st).names []).lookup y.1).isSome = true) := fun y hy => by
    cases sc.par y.1 (List.of_mem_zip hy).1 with
    | inl z => exact .inl z
    | inr z => exact .inr ⟨z, PySem.W.cellsFrom_some _ _ _ (.inl z)⟩
  refine codeAny_call_function room.depth (inn _ _ lk) rfl sc.co sc.gen rfl (PySem.W.codeRec_of inn hcd) (hb _ _ _ _ (wpAny_newFunctionEnv_cells sc.kind kinds fun en1 he t1 x1 => ?_))
  subst he
  refine ⟨(en.mod.nolimit.keeps fun b o z => (en.bs b o z).1).keeps x1.toInCall.keep, codeAny_func ?_⟩
  have ht := (b A fs s hp e (room.deeper _) gd).nox
  have J : Inv (cxOf CX0 P w K mg base N qual (defScope st) f (.ref c) A fs s hp e) [] (start N vs) hp t1 := inv_start sc room.hd en la rv x1
  refine wpAny_mono (ht.run [] t1 (start N vs) hp { nx := fun _ hp' => q .non hp', rt := q } J ⟨h, startD N ds, ω, _, Sl.start r, wd, rd ds ω R sp, fun ρ' ω' σ' H' z f' w' _ => k .non ω' .non H' z f' w' .non, k, fun _ _ _ _ z => z.elim, fun _ _ _ _ z => z.elim⟩) (fun fl s' z => ?_) fun _ _ z => z
  cases fl with
  | ret u => obtain ⟨v, σ', hp', J', rv', z'⟩ := z; exact ⟨v, hp', J'.os, J'.bare, J'.base, J'.hok, rv', z'⟩
  | next => obtain ⟨σ', hp', J', z'⟩ := z; exact ⟨.non, hp', J'.os, J'.bare, J'.base, J'.hok, rfl, z'⟩
  | brk => obtain ⟨_, _, _, z'⟩ := z; exact z'.elim
  | cont => obtain ⟨_, _, _, z'⟩ := z; exact z'.elim
def DefAtC (K : PySem.W.Frag) (mg : Str → Option Value) (x : Str) (st : Stmt) (c : Addr) : Prop := ∃ f fd, mg x = some (.ref f) ∧ Fun K x x st f fd ∧ fd.code = .ref c
theorem DefAtC.mk {K : PySem.W.Frag} {h : Heap} {mg : Str → Option Value} (X : K.In h) (G : h.Ns mainGlobals mg) {x : Str} {st : Stmt} {f c : Addr} {oc : Value} {od an : Option Addr} {osl : Array (Option Value)} {kV doc pm ct : Value}
    (a : PySem.W.nsIn K mainGlobals x = some (some (.ref f))) (l : K.lookup f = some ⟨oc, od, .func (PySem.W.fnOf x x (defArgs st) (defBody st) (defScope st) .none kV doc pm an (.ref c) ct), osl⟩)
    (cc : PySem.W.codeIn K (.ref c) x = true) (k : PySem.W.keepIn K (.ref f) = true) : DefAtC K mg x st c := ⟨f, _, PySem.W.mg_of X G a, fun_mk l cc k, rfl⟩
theorem CalD.mkC {P : Program} {w : World} {K : PySem.W.Frag} {mg : Str → Option Value} {base : Heap} {k : Nat} {x : Str} {st : Stmt} {c : Addr} {N ps : List Str} {S : SpD} {T : TSD} (D : DefAtC K mg x st c) (sc : FnScope N ps (defScope st))
    (bi : ∀ (kV doc pm : Value) (an : Option Addr) (cdv ct : Value) (us : List Value), us.length = ps.length → bindArgs (PySem.W.fnOf x x (defArgs st) (defBody st) (defScope st) .none kV doc pm an cdv ct) ⟨us, []⟩ = pure (ps.zip us))
    (ar : ∀ ds ω R, S ds ω R → ds.length = ps.length)
    (b : ∀ (f : Addr) (A : Around) (fs : List Env) (s : Shared) (hp : Hp) (e : XK), Room k (A.deeper (PyProof.Rows.envOfC x (defScope st) s.heap.objs.size f (.ref c))) → A.guards = some [] →
      DSs (cxOf CX0 P w K mg base N x (defScope st) f (.ref c) A fs s hp e).nox (defBody st) T)
    (rd : ∀ ds ω R, S ds ω R → T { nx := fun _ ω' => R .non ω', rt := R } (startD N ds) ω) : CalD P w K mg base (k + 1) x ps S := by
  obtain ⟨f, fd, hm, F, hc⟩ := D
  refine ⟨f, fd, FnG.ofDC F hc sc ar (b f) rd, hm, F.kp, F.binds bi, ?_⟩
  obtain ⟨oc, od, kV, doc, pm, an, cdv, ct, osl, e, lk, _⟩ := F.ex
  exact ⟨oc, od, osl, lk⟩
/-! ### the law's end -/
/-- the world at the law's start: the tables, and nothing else -/
def tabOm (l : List (Addr × Str)) : Om := fun b => (l.lookup b).map Cell.tab
def spLawT (Z : Om → Prop) : SpD := fun ds ω R => ∃ ns : List Int, ds = [.lst (ns.map D.int)] ∧ ns.length ≤ 63 ∧ Z ω ∧ ∀ ω', R (.bl true) ω'
theorem lookup_mem {β : Type} {b : Addr} {q : β} : ∀ {l : List (Addr × β)}, l.lookup b = some q → (b, q) ∈ l
  | [], e => nomatch e
  | (a, x) :: l, e => by
    rw [List.lookup_cons] at e
    cases y : b == a with
    | true => rw [y] at e; cases e; rw [beq_iff_eq.mp y]; exact List.mem_cons_self
    | false => rw [y] at e; exact List.mem_cons_of_mem _ (lookup_mem e)
theorem law_spT {K : PySem.W.Frag} {Z : Om → Prop} {l : List (Addr × Str)} (hp : Hp) (a : Addr) (ns : List Int) (hl : ns.length ≤ 63) (aT : ∀ p ∈ l, p.1 ≠ a) (hT : ∀ p ∈ l, hp p.1 = some (.tbl #[])) (z : Z (tabOm l)) (hS : SqL K hp a (ns.map V.int)) : spU K (spLawT Z) [.ref a] hp (fun v _ => v = .bl true) fun _ _ _ => False := by
  have tz : ∀ b c, tabOm l b = some c → ∃ q, (b, q) ∈ l ∧ c = .tab q := fun b c e => by
    unfold tabOm at e
    cases y : l.lookup b with
    | none => rw [y] at e; cases e
    | some q => rw [y] at e; cases e; exact ⟨q, lookup_mem y, rfl⟩
  have fa : fre (tabOm l) (fun _ => True) a := ⟨by
    cases y : tabOm l a with
    | none => rfl
    | some c => obtain ⟨q, m, _⟩ := tz a c y; exact (aT _ m rfl).elim, trivial⟩
  refine ⟨fun _ => True, [.lst (ns.map D.int)], tabOm l, fun d _ => d = .bl true, ?_, ⟨fun b c e => ?_, fun _ _ => trivial, fun _ _ _ _ => trivial, trivial⟩, ⟨ns, rfl, hl, z, fun _ => rfl⟩, fun d ω' v H' e _ _ r => ?_⟩
  · refine .cons (.lst ?_ (RpAll.ofInts ns)) .nil
    rcases hS with r | r
    · exact .inl ⟨fa, r⟩
    · exact .inr (.inr r)
  · obtain ⟨q, m, rfl⟩ := tz b c e
    exact ⟨#[], hT _ m, trivial, fun p cv hc => (nomatch hc)⟩
  · subst e
    cases r
    rfl
/-- the law's own call where tables of code objects are known, by a promise that may lean on the guards -/
theorem law_callGT {P : Program} {w : World} {K : PySem.W.Frag} {mg mb : Str → Option Value} {k : Nat} {fa a : Addr} {ts : List (Addr × Addr)} {fd : FuncData} {x : Str} {sp : Sp} {s1 : Shared} {vs : List Value} {ns : List Int}
    (inn : K.In s1.heap) (gns : s1.heap.Ns mainGlobals mg) (bns : s1.heap.Ns builtinsNs mb) (bb : ∀ x : Str, x ≠ "__name__" → mb x = bootBuiltins x) (nol : s1.heap.NoLimit) (ng : s1.gens = #[])
    (tz : ∀ p ∈ ts, s1.heap.get? p.2 = some { cls := .none, data := .fields #[] }) (tn : ∀ p ∈ ts, K.lookup p.2 = none) (tc : ∀ p ∈ ts, PySem.W.CodeHd s1.heap p.1 p.2)
    (bm : ∃ (m : Addr) (o : Obj), mg "__builtins__" = some (.ref m) ∧ m ≠ builtinsNs ∧ s1.heap.get? m = some o ∧ o.cls = .type "module" ∧ o.dict = some builtinsNs ∧ o.data = .plain)
    (at_a : s1.heap.get? a = some { cls := .type "list", data := .seq vs.toArray }) (ia : IntsAre vs ns) (sz : ns.length ≤ sizeLine) (room : Room k callerA)
    (F : ∀ base : Heap, K.In base → base.Ns mainGlobals mg → (∀ p ∈ ts, TabB base mg p.1 p.2) → FnG P w K mg base CX0 k fa fd [x] sp) (bnd : ∀ (s : Shared) (u : Value), BindsTo s fd ⟨[u], []⟩ [(x, u)])
    (hs : ∀ hp : Hp, (∀ p ∈ ts, hp p.2 = some (.tbl #[])) → (∀ p ∈ ts, p.2 ≠ a) → SqL K hp a (ns.map V.int) → sp [.ref a] hp (fun v _ => v = .bl true) fun _ _ _ => False) :
    codeAny (model P w) callerA (.call (.ref fa) ⟨[.ref a], []⟩)
      (fun r s' => r = .ok (.ret (.bool true)) ∧ OldK s1.heap s'.heap ∧ s'.os = s1.os ∧ AllBare s'.gens) s1 := by
  have rv := vals_ints ia
  have lv := ia.length
  -- the script and the tables lie apart
  have apart : ∀ p ∈ ts, p.2 ≠ a := fun p hp z => by
    have e := tz p hp
    rw [z, at_a] at e
    exact (nomatch (congrArg Obj.data (Option.some.inj e)))
  let isT : Addr → Prop := fun b => ∃ p ∈ ts, p.2 = b
  let so : HO := .frz { cls := .type "list", data := .seq vs.toArray } (.lst (ns.map V.int))
  open Classical in
  let hp : Hp := fun b => if isT b then some (.tbl #[]) else if b = a ∧ K.lookup a = none then some so else none
  have hT : ∀ b, isT b → hp b = some (.tbl #[]) := fun b z => if_pos z
  have hA : K.lookup a = none → hp a = some so := fun z => (if_neg (fun ⟨p, m, e⟩ => apart p m e)).trans (if_pos ⟨rfl, z⟩)
  have hN : ∀ b, ¬ isT b → ¬ (b = a ∧ K.lookup a = none) → hp b = none := fun b z1 z2 => (if_neg z1).trans (if_neg z2)
  have cases_ : ∀ b u, hp b = some u → (isT b ∧ u = .tbl #[]) ∨ (b = a ∧ K.lookup a = none ∧ u = so) := fun b u e => by
    by_cases z1 : isT b
    · rw [hT b z1] at e
      exact .inl ⟨z1, (Option.some.inj e).symm⟩
    · by_cases z2 : b = a ∧ K.lookup a = none
      · obtain ⟨rfl, y⟩ := z2
        rw [hA y] at e
        exact .inr ⟨rfl, y, (Option.some.inj e).symm⟩
      · rw [hN b z1 z2] at e
        cases e
  have tobj : ∀ b, isT b → s1.heap.get? b = some { cls := .none, data := .fields #[] } := fun b ⟨p, m, e⟩ => e ▸ tz p m
  -- what is neither stays in sight
  have sees : ∀ {b : Addr} {o : Obj}, s1.heap.get? b = some o → ({ cls := .none, data := .fields #[] } : Obj) ≠ o → ({ cls := .type "list", data := .seq vs.toArray } : Obj) ≠ o → (hidT s1.heap hp).get? b = some o := fun {b o} e n1 n2 => by
    refine hidT_get e ?_
    cases z : hp b with
    | none => rfl
    | some u =>
      rcases cases_ b u z with ⟨y, _⟩ | ⟨rfl, _, _⟩
      · rw [tobj b y] at e
        exact (n1 (Option.some.inj e)).elim
      · rw [at_a] at e
        exact (n2 (Option.some.inj e)).elim
  have keepNs : ∀ {b : Addr} {m : Str → Option Value}, s1.heap.Ns b m → (hidT s1.heap hp).Ns b m := fun {b m} ⟨o, es, ep, e, d, r⟩ =>
    ⟨o, es, ep, sees e (fun z => by rw [← z] at d; exact (nomatch d)) (fun z => by rw [← z] at d; exact (nomatch d)), d, r⟩
  have inb : K.In (hidT s1.heap hp) := fun b o e => by
    refine hidT_get (inn b o e) ?_
    cases z : hp b with
    | none => rfl
    | some u =>
      rcases cases_ b u z with ⟨⟨p, m, y⟩, _⟩ | ⟨rfl, y, _⟩
      · rw [← y, tn p m] at e
        cases e
      · rw [y] at e
        cases e
  have tb : ∀ p ∈ ts, TabB (hidT s1.heap hp) mg p.1 p.2 := fun p m => by
    obtain ⟨o, us, fi, tf, fl, tg, iF, tx, tt, e, c1, c2, c3, c4, c5, c6, c7, c8, ne⟩ := tc p m
    obtain ⟨mm, om, b1, b2, b3, b4, b5, b6⟩ := bm
    refine ⟨⟨o, us, fi, tf, fl, tg, iF, tx, tt, sees e (fun z => ?_) (fun z => ?_), c1, c2, c3, c4, c5, c6, c7, c8, ne⟩, ⟨mm, om, b1, b2, fun z => ?_, fun z => ?_, sees b3 (fun z => ?_) (fun z => ?_), b4, b5, b6⟩, fun z => ?_⟩
    · rw [← z] at c2
      cases c2
      simp at c3
    · rw [← z] at c2
      exact (nomatch c2)
    · obtain ⟨o2, es, ep, e2, d, _⟩ := gns
      rw [← z, b3] at e2
      cases e2
      rw [b6] at d
      exact (nomatch d)
    · rw [z, tz p m] at b3
      cases b3
      exact (nomatch b6)
    · rw [← z] at b6
      exact (nomatch b6)
    · rw [← z] at b6
      exact (nomatch b6)
    · obtain ⟨o2, es, ep, e2, d, _⟩ := gns
      rw [z, tz p m] at e2
      cases e2
      exact (nomatch d)
  have ok : HOk P w hp s1.heap := fun b u e => by
    rcases cases_ b u e with ⟨y, rfl⟩ | ⟨rfl, _, rfl⟩
    · exact tobj b y
    · exact ⟨at_a, by rw [List.length_map]; exact sz, vs, _, rv, at_a⟩
  have sq : SqL K hp a (ns.map V.int) := by
    cases y : K.lookup a with
    | none => exact .inl (.inr ⟨_, hA y⟩)
    | some o =>
      have e := inn a o y
      rw [at_a] at e
      cases e
      exact .inr ⟨_, vs.toArray, _, y, rfl, rfl, rfl, by rw [List.size_toArray, lv]; exact sz, by simpa using rv⟩
  have md : Mod K mg (hidT s1.heap hp) := ⟨inb, keepNs gns, ⟨mb, keepNs bns, bb⟩, nol.elim fun mc h => ⟨mc, keepNs h.1, h.2⟩⟩
  have en : Env0 P w K mg (hidT s1.heap hp) callerA [] s1 hp :=
    { frames := rfl, mod := md, bs := fun b o e => of_hidT e, bsz := Nat.le_of_eq (hidT_size _ _), funs := trivial, frf := (fun b z => absurd (show b ∈ ([] : List Addr) from z) (by simp)), hok := ok, bare := .of_eq ng }
  refine codeAny_mono ((F _ inb (keepNs gns) tb).goes callerA [] s1 hp ⟨[.ref a], []⟩ [.ref a] [.ref a] _ _ room rfl en (bnd s1 (.ref a)) (.cons rfl .nil) (hs hp (fun p m => hT _ ⟨p, m, rfl⟩) apart sq)) fun r s' z => ?_
  match r, z with
  | .error e, z => exact z.elim
  | .ok (.ret u), ⟨v, hp', os, bare, un, ok', rr, (q : v = .bl true)⟩ =>
    subst q
    obtain rfl : u = Value.bool true := rr
    have more : ∀ b, isT b → ∃ xs : Array Value, s'.heap.get? b = some { cls := .none, data := .fields xs } := fun b y => by
      obtain ⟨xs, e⟩ := un.tbls b #[] (hT b y)
      exact ⟨_, ok' b _ e⟩
    have same : ∀ b o, ¬ isT b → s1.heap.get? b = some o → s'.heap.get? b = some o := fun b o y e => by
      by_cases z2 : b = a ∧ K.lookup a = none
      · obtain ⟨rfl, y2⟩ := z2
        have e1 := (ok b _ (hA y2)).1
        have e2 := (ok' b _ (un.frzs b _ _ (hA y2))).1
        rw [e] at e1
        cases e1
        exact e2
      · exact un.keep b o e (hN b y z2) (fun y => absurd (show b ∈ ([] : List Addr) from y) (by simp)) (by simp)
    refine ⟨rfl, ⟨fun b o e => ?_, fun b o e => ?_⟩, os, bare⟩
    · by_cases y : isT b
      · obtain ⟨xs, e2⟩ := more b y
        rw [tobj b y] at e
        cases e
        obtain ⟨p, m, rfl⟩ := y
        exact .inr (.inl ⟨((tc p m).tab (tz p m)).isCodeTable, rfl, #[], xs, rfl, by rw [Array.empty_append]; exact e2⟩)
      · exact .inl (same b o y e)
    · by_cases y : isT b
      · obtain ⟨xs, e2⟩ := more b y
        exact ⟨_, e2⟩
      · exact ⟨o, same b o y e⟩
theorem walk_GT {l : PySem.W.OpenLaw} {n k : Nat} {q : Program} {loose : List Str} {XP : (Str → Option Value) → Heap → Prop} {YP : World → Heap → Prop} {d : DefRec} {K : Params → PySem.W.Frag} {sp : PySem.W.Frag → Sp} {x : Str} {ts : List (Addr × Addr)}
    (mo : l.most = some n) (n2 : n ≤ sizeLine) (df : d.params.defaults = []) (room : Room k callerA) (hK : ∀ (w : World) (h : Heap), YP w h → (K w.params).In h) (hT : ∀ (w : World) (h : Heap), YP w h → ∀ p ∈ ts, h.get? p.2 = some { cls := .none, data := .fields #[] }) (hC : ∀ (w : World) (h : Heap), (K w.params).In h → ∀ p ∈ ts, PySem.W.CodeHd h p.1 p.2) (hN : ∀ w : World, ∀ p ∈ ts, (K w.params).lookup p.2 = none)
    (F : ∀ (w : World) (mg : Str → Option Value) (fa : Addr) (h : Heap), (K w.params).In h → h.Ns mainGlobals mg → mg d.name = some (.ref fa) →
      ∃ fd : FuncData, (∀ (s : Shared) (u : Value), BindsTo s fd ⟨[u], []⟩ [(x, u)]) ∧
        ∀ base : Heap, (K w.params).In base → base.Ns mainGlobals mg → (∀ p ∈ ts, TabB base mg p.1 p.2) → FnG l.prog w (K w.params) mg base CX0 k fa fd [x] (sp (K w.params)))
    (hs : ∀ (K : PySem.W.Frag) (hp : Hp) (a : Addr) (ns : List Int), ns.length ≤ n → (∀ p ∈ ts, hp p.2 = some (.tbl #[])) → (∀ p ∈ ts, p.2 ≠ a) → SqL K hp a (ns.map V.int) → sp K [.ref a] hp (fun v _ => v = .bl true) fun _ _ _ => False) :
    PySem.W.WalkO q loose XP YP l.row.toRowW d [] (fun f vs => PySem.call f vs) := by
  refine Att.attach_call mo df ?_
  intro w s0 s1 mg mb fa o pm cd doc a vs ns G Y ho hd hcd hmg hobj hints hlen ng
  have y1 := hK w _ Y
  have y2 := hT w _ Y
  have y3 := hC w _ y1
  have y4 := hN w
  obtain ⟨fd, hb, hF⟩ := F w mg fa _ y1 G.T.g hmg
  exact law_callGT y1 G.T.g G.T.b G.T.builtins G.T.nolimit ng y2 y4 y3 G.T.bmain hobj hints (Nat.le_trans hlen n2) room hF hb fun hp hz na sq => hs _ hp a ns hlen hz na sq
/-- the law's def, by what lies at its address -/
theorem law_fdT {P : Program} {w : World} {K : PySem.W.Frag} {mg : Str → Option Value} {fa : Addr} {k : Nat} {S : SpD} {I : Heap → Prop} {oc : Value} {od : Option Addr} {fd : FuncData} {osl : Array (Option Value)} (lk : K.lookup fa = some ⟨oc, od, .func fd, osl⟩) (hm : mg "law" = some (.ref fa))
    (C : ∀ base, I base → CalD P w K mg base k "law" ["script"] S) : ∀ base : Heap, I base → FnG P w K mg base CX0 k fa fd ["script"] (spU K S) := fun base hb => by
  obtain ⟨f, fd2, F2, e2, _, _, oc2, od2, osl2, lk2⟩ := C base hb
  have z := hm.symm.trans e2
  cases z
  rw [lk] at lk2
  cases lk2
  exact F2
end DL

/-! XD: what an error class over LookupError has behind it (XG), told ahead for a head that stands first. -/
namespace DL
open PySem PySem.Spec
abbrev leTail : List Value := [.type "LookupError", .type "Exception", .type "BaseException", .type "object"]
def refsLE : List Value → Bool
  | [] => false
  | v :: r => (match v with | .ref _ => refsLE r | _ => false) || (v :: r) == leTail
end DL

namespace K52
open PySem PySem.Spec L2 DL PySem.W PyProof.Rows
def topH (i : Nat) : Stmt := PySem.Challenge.pw_basketrope_k52_whole_promised_and_plain.main.body.getD i (.Pass ⟨0, 0, 0, 0⟩)
def membH (s : Stmt) (j : Nat) : Stmt := match s with | .ClassDef _ _ _ body _ _ _ _ _ _ _ => body.getD j (.Pass ⟨0, 0, 0, 0⟩) | _ => .Pass ⟨0, 0, 0, 0⟩
local macro_rules | `(tactic| refine $e) => do
  match e with
  | `($f:ident $args*) =>
    let b := args.back!.raw
    if (f.getId.eraseMacroScopes.toString.splitOn "holds_open").length > 1 && b.isOfKind `Lean.Parser.Term.syntheticHole && (b[1].getId.eraseMacroScopes == `hc) then do
      let t ← `(by
          k_fill
          refine DL.walk_GT (l := PySem.Challenge.rw_basketrope_k52_whole_promised_and_plain) (n := 63) (k := 14) (x := "script") (sp := $(Lean.mkIdent `sp)) (ts := [(?cc, 321)]) rfl (by decide) rfl ⟨rfl, by decide, by decide⟩ (fun w h Y => PySem.W.km_in_of Y) ?hT ?hC ?hN ?F ?hs
          case F =>
            intro w mg fa h KX G hmg
            refine' $(Lean.mkIdent `FIN) KX G hmg ?a0 ?l0 ?c0 ?k0 ?a1 ?l1 ?c1 ?k1 ?a2 ?l2 ?c2 ?k2 ?a3 ?l3 ?c3 ?k3 ?a4 ?l4 ?c4 ?k4 ?a5 ?l5 ?c5 ?k5 ?a6 ?l6 ?c6 ?k6 ?a7 ?l7 ?c7 ?k7 ?a8 ?l8 ?c8 ?k8 ?a9 ?l9 ?c9 ?k9 ?a10 ?l10 ?c10 ?k10 ?a11 ?l11 ?c11 ?k11 ?a12 ?l12 ?c12 ?k12 ?a13 ?l13 ?c13 ?k13 ?a14 ?l14 ?c14 ?k14 ?a15 ?l15 ?c15 ?k15 ?a16 ?l16 ?c16 ?k16 ?a17 ?l17 ?c17 ?k17 ?a18 ?l18 ?c18 ?k18 ?a19 ?l19 ?c19 ?k19 ?a20 ?l20 ?c20 ?k20 ?a21 ?l21 ?c21 ?k21 ?l22 ?c22 ?k22 ?v22 ?w22 ?l23 ?c23 ?k23 ?v23 ?w23 ?l24 ?c24 ?k24 ?v24 ?w24 ?l25 ?c25 ?k25 ?v25 ?w25 ?l26 ?c26 ?k26 ?v26 ?w26 ?l27 ?c27 ?k27 ?v27 ?w27 ?l28 ?c28 ?k28 ?v28 ?w28 ?l29 ?c29 ?k29 ?v29 ?w29 ?l30 ?c30 ?k30 ?v30 ?w30 ?l31 ?c31 ?k31 ?v31 ?w31 ?l32 ?c32 ?k32 ?v32 ?w32 ?l33 ?c33 ?k33 ?v33 ?w33 ?l34 ?c34 ?k34 ?v34 ?w34 ?l35 ?c35 ?k35 ?v35 ?w35 ?l36 ?c36 ?k36 ?v36 ?w36 ?l37 ?c37 ?k37 ?v37 ?w37 ?l38 ?c38 ?k38 ?v38 ?w38 ?l39 ?c39 ?k39 ?v39 ?w39 ?l40 ?c40 ?k40 ?v40 ?w40 ?l44 ?n44 ?c44 ?k44 ?v44 ?l45 ?n45 ?c45 ?k45 ?v45 ?m0 ?m1 ?m2 ?m3 ?m4 ?z0 ?z1 ?z2 ?z3 ?z4 ?z5 ?z6 ?z7 ?z8 ?z9 ?z10 ?z11 ?z12 ?z13 ?z14 ?kc_BadNumber ?kc_Hoist ?kc_NoVersion ?kc_Promise ?kc_PromisedHoist ?kc_TooLow ?xl_BadNumber ?xr_BadNumber ?xs_BadNumber ?xb_BadNumber ?xt_BadNumber ?xk_BadNumber ?xn_BadNumber ?xi_BadNumber ?xf_BadNumber ?xm_BadNumber ?xo_BadNumber ?xp_BadNumber ?xl_NoVersion ?xr_NoVersion ?xs_NoVersion ?xb_NoVersion ?xt_NoVersion ?xk_NoVersion ?xn_NoVersion ?xi_NoVersion ?xf_NoVersion ?xm_NoVersion ?xo_NoVersion ?xp_NoVersion ?xl_TooLow ?xr_TooLow ?xs_TooLow ?xb_TooLow ?xt_TooLow ?xk_TooLow ?xn_TooLow ?xi_TooLow ?xf_TooLow ?xm_TooLow ?xo_TooLow ?xp_TooLow ?e1_TooLow ?e2_TooLow ?e3_TooLow ?e4_TooLow ?e5_TooLow ?e6_TooLow ?e7_TooLow ?e8_TooLow ?e9_TooLow ?nnumber_TooLow ?y1_TooLow ?y2_TooLow ?y3_TooLow ?sf_TooLow ?px0 ?u1_PromisedHoist ?u2_PromisedHoist ?u3_PromisedHoist ?u4_PromisedHoist ?u1_Hoist ?u2_Hoist ?u3_Hoist ?u4_Hoist ?cr1_Hoist ?cr2_Hoist ?cfi_Hoist___init__ ?cfv_Hoist___init__ ?cr1_Promise ?cr2_Promise ?cfi_Promise___init__ ?cfv_Promise___init__ ?eq1_Hoist ?eq1_PromisedHoist ?kp_PromisedHoist_Hoist ?kp_Hoist_PromisedHoist ?q1_Promise_least_PromisedHoist ?q2_Promise_least ?q3_Promise_least ?q4_Promise_least ?q5_Promise_least ?q6_Promise_least ?un_PromisedHoist__least ?u5_Hoist ?u6_ ?u7_ ?u8_Hoist ?u9_Hoist ?u10_Hoist ?u5_PromisedHoist ?u8_PromisedHoist ?u9_PromisedHoist ?u10_PromisedHoist ?ks_PromisedHoist ?ks_Hoist ?um_Hoist ?uk_Hoist ?um_PromisedHoist ?uk_PromisedHoist ?un_Hoist__edits ?un_PromisedHoist__edits ?un_Hoist__towers ?un_PromisedHoist__towers ?un_Hoist__watched ?un_PromisedHoist__watched ?a22_Hoist ?a23_Hoist ?a23_PromisedHoist ?a24_Hoist ?a24_PromisedHoist ?a25_Hoist ?a25_PromisedHoist ?a26_Hoist ?a26_PromisedHoist ?a27_Hoist ?a27_PromisedHoist ?a28_Hoist ?a28_PromisedHoist ?a29_Hoist ?a29_PromisedHoist ?a30_Hoist ?a31_Hoist ?a31_PromisedHoist ?a32_Promise ?a33_PromisedHoist ?a34_PromisedHoist ?a35_PromisedHoist ?a36_Hoist ?a36_PromisedHoist ?a37_Hoist ?a37_PromisedHoist ?a38_Hoist ?a38_PromisedHoist ?a39_Hoist ?a39_PromisedHoist ?a40_Hoist ?a40_PromisedHoist ?a41_Hoist ?a41_PromisedHoist ?p141 ?p241 ?p341 ?l41 ?c41 ?k41 ?a42_Hoist ?a42_PromisedHoist ?p142 ?p242 ?p342 ?l42 ?c42 ?k42 ?a43_Hoist ?a43_PromisedHoist ?p143 ?p243 ?p343 ?l43 ?c43 ?k43 ?a44_Hoist ?a44_PromisedHoist ?a45_Hoist ?a45_PromisedHoist
            (case kc_BadNumber => as_aux_lemma => k_is)
            (case kc_Hoist => as_aux_lemma => k_is)
            (case kc_NoVersion => as_aux_lemma => k_is)
            (case kc_Promise => as_aux_lemma => k_is)
            (case kc_PromisedHoist => as_aux_lemma => k_is)
            (case kc_TooLow => as_aux_lemma => k_is)
            (case a22_Hoist => as_aux_lemma => k_is)
            (case a23_Hoist => as_aux_lemma => k_is)
            (case a23_PromisedHoist => as_aux_lemma => k_is)
            (case a24_Hoist => as_aux_lemma => k_is)
            (case a24_PromisedHoist => as_aux_lemma => k_is)
            (case a25_Hoist => as_aux_lemma => k_is)
            (case a25_PromisedHoist => as_aux_lemma => k_is)
            (case a26_Hoist => as_aux_lemma => k_is)
            (case a26_PromisedHoist => as_aux_lemma => k_is)
            (case a27_Hoist => as_aux_lemma => k_is)
            (case a27_PromisedHoist => as_aux_lemma => k_is)
            (case a28_Hoist => as_aux_lemma => k_is)
            (case a28_PromisedHoist => as_aux_lemma => k_is)
            (case a29_Hoist => as_aux_lemma => k_is)
            (case a29_PromisedHoist => as_aux_lemma => k_is)
            (case a30_Hoist => as_aux_lemma => k_is)
            (case a31_Hoist => as_aux_lemma => k_is)
            (case a31_PromisedHoist => as_aux_lemma => k_is)
            (case a32_Promise => as_aux_lemma => k_is)
            (case a33_PromisedHoist => as_aux_lemma => k_is)
            (case a34_PromisedHoist => as_aux_lemma => k_is)
            (case a35_PromisedHoist => as_aux_lemma => k_is)
            (case a36_Hoist => as_aux_lemma => k_is)
            (case a36_PromisedHoist => as_aux_lemma => k_is)
            (case a37_Hoist => as_aux_lemma => k_is)
            (case a37_PromisedHoist => as_aux_lemma => k_is)
            (case a38_Hoist => as_aux_lemma => k_is)
            (case a38_PromisedHoist => as_aux_lemma => k_is)
            (case a39_Hoist => as_aux_lemma => k_is)
            (case a39_PromisedHoist => as_aux_lemma => k_is)
            (case a40_Hoist => as_aux_lemma => k_is)
            (case a40_PromisedHoist => as_aux_lemma => k_is)
            (case a41_Hoist => as_aux_lemma => k_is)
            (case a41_PromisedHoist => as_aux_lemma => k_is)
            (case p141 => as_aux_lemma => k_is)
            (case p241 => as_aux_lemma => k_is)
            (case p341 => as_aux_lemma => k_is)
            (case l41 => as_aux_lemma => k_is)
            (case c41 => as_aux_lemma => k_is)
            (case k41 => as_aux_lemma => k_is)
            (case a42_Hoist => as_aux_lemma => k_is)
            (case a42_PromisedHoist => as_aux_lemma => k_is)
            (case p142 => as_aux_lemma => k_is)
            (case p242 => as_aux_lemma => k_is)
            (case p342 => as_aux_lemma => k_is)
            (case l42 => as_aux_lemma => k_is)
            (case c42 => as_aux_lemma => k_is)
            (case k42 => as_aux_lemma => k_is)
            (case a43_Hoist => as_aux_lemma => k_is)
            (case a43_PromisedHoist => as_aux_lemma => k_is)
            (case p143 => as_aux_lemma => k_is)
            (case p243 => as_aux_lemma => k_is)
            (case p343 => as_aux_lemma => k_is)
            (case l43 => as_aux_lemma => k_is)
            (case c43 => as_aux_lemma => k_is)
            (case k43 => as_aux_lemma => k_is)
            (case a44_Hoist => as_aux_lemma => k_is)
            (case a44_PromisedHoist => as_aux_lemma => k_is)
            (case a45_Hoist => as_aux_lemma => k_is)
            (case a45_PromisedHoist => as_aux_lemma => k_is)
            (case a0 => as_aux_lemma => k_is)
            (case l0 => as_aux_lemma => k_is)
            (case c0 => as_aux_lemma => k_is)
            (case k0 => as_aux_lemma => k_is)
            (case a1 => as_aux_lemma => k_is)
            (case l1 => as_aux_lemma => k_is)
            (case c1 => as_aux_lemma => k_is)
            (case k1 => as_aux_lemma => k_is)
            (case a2 => as_aux_lemma => k_is)
            (case l2 => as_aux_lemma => k_is)
            (case c2 => as_aux_lemma => k_is)
            (case k2 => as_aux_lemma => k_is)
            (case a3 => as_aux_lemma => k_is)
            (case l3 => as_aux_lemma => k_is)
            (case c3 => as_aux_lemma => k_is)
            (case k3 => as_aux_lemma => k_is)
            (case a4 => as_aux_lemma => k_is)
            (case l4 => as_aux_lemma => k_is)
            (case c4 => as_aux_lemma => k_is)
            (case k4 => as_aux_lemma => k_is)
            (case a5 => as_aux_lemma => k_is)
            (case l5 => as_aux_lemma => k_is)
            (case c5 => as_aux_lemma => k_is)
            (case k5 => as_aux_lemma => k_is)
            (case a6 => as_aux_lemma => k_is)
            (case l6 => as_aux_lemma => k_is)
            (case c6 => as_aux_lemma => k_is)
            (case k6 => as_aux_lemma => k_is)
            (case a7 => as_aux_lemma => k_is)
            (case l7 => as_aux_lemma => k_is)
            (case c7 => as_aux_lemma => k_is)
            (case k7 => as_aux_lemma => k_is)
            (case a8 => as_aux_lemma => k_is)
            (case l8 => as_aux_lemma => k_is)
            (case c8 => as_aux_lemma => k_is)
            (case k8 => as_aux_lemma => k_is)
            (case a9 => as_aux_lemma => k_is)
            (case l9 => as_aux_lemma => k_is)
            (case c9 => as_aux_lemma => k_is)
            (case k9 => as_aux_lemma => k_is)
            (case a10 => as_aux_lemma => k_is)
            (case l10 => as_aux_lemma => k_is)
            (case c10 => as_aux_lemma => k_is)
            (case k10 => as_aux_lemma => k_is)
            (case a11 => as_aux_lemma => k_is)
            (case l11 => as_aux_lemma => k_is)
            (case c11 => as_aux_lemma => k_is)
            (case k11 => as_aux_lemma => k_is)
            (case a12 => as_aux_lemma => k_is)
            (case l12 => as_aux_lemma => k_is)
            (case c12 => as_aux_lemma => k_is)
            (case k12 => as_aux_lemma => k_is)
            (case a13 => as_aux_lemma => k_is)
            (case l13 => as_aux_lemma => k_is)
            (case c13 => as_aux_lemma => k_is)
            (case k13 => as_aux_lemma => k_is)
            (case a14 => as_aux_lemma => k_is)
            (case l14 => as_aux_lemma => k_is)
            (case c14 => as_aux_lemma => k_is)
            (case k14 => as_aux_lemma => k_is)
            (case a15 => as_aux_lemma => k_is)
            (case l15 => as_aux_lemma => k_is)
            (case c15 => as_aux_lemma => k_is)
            (case k15 => as_aux_lemma => k_is)
            (case a16 => as_aux_lemma => k_is)
            (case l16 => as_aux_lemma => k_is)
            (case c16 => as_aux_lemma => k_is)
            (case k16 => as_aux_lemma => k_is)
            (case a17 => as_aux_lemma => k_is)
            (case l17 => as_aux_lemma => k_is)
            (case c17 => as_aux_lemma => k_is)
            (case k17 => as_aux_lemma => k_is)
            (case a18 => as_aux_lemma => k_is)
            (case l18 => as_aux_lemma => k_is)
            (case c18 => as_aux_lemma => k_is)
            (case k18 => as_aux_lemma => k_is)
            (case a19 => as_aux_lemma => k_is)
            (case l19 => as_aux_lemma => k_is)
            (case c19 => as_aux_lemma => k_is)
            (case k19 => as_aux_lemma => k_is)
            (case a20 => as_aux_lemma => k_is)
            (case l20 => as_aux_lemma => k_is)
            (case c20 => as_aux_lemma => k_is)
            (case k20 => as_aux_lemma => k_is)
            (case a21 => as_aux_lemma => k_is)
            (case l21 => as_aux_lemma => k_is)
            (case c21 => as_aux_lemma => k_is)
            (case k21 => as_aux_lemma => k_is)
            (case l22 => as_aux_lemma => k_is)
            (case c22 => as_aux_lemma => k_is)
            (case k22 => as_aux_lemma => k_is)
            (case v22 => as_aux_lemma => k_is)
            (case w22 => as_aux_lemma => k_is)
            (case l23 => as_aux_lemma => k_is)
            (case c23 => as_aux_lemma => k_is)
            (case k23 => as_aux_lemma => k_is)
            (case v23 => as_aux_lemma => k_is)
            (case w23 => as_aux_lemma => k_is)
            (case l24 => as_aux_lemma => k_is)
            (case c24 => as_aux_lemma => k_is)
            (case k24 => as_aux_lemma => k_is)
            (case v24 => as_aux_lemma => k_is)
            (case w24 => as_aux_lemma => k_is)
            (case l25 => as_aux_lemma => k_is)
            (case c25 => as_aux_lemma => k_is)
            (case k25 => as_aux_lemma => k_is)
            (case v25 => as_aux_lemma => k_is)
            (case w25 => as_aux_lemma => k_is)
            (case l26 => as_aux_lemma => k_is)
            (case c26 => as_aux_lemma => k_is)
            (case k26 => as_aux_lemma => k_is)
            (case v26 => as_aux_lemma => k_is)
            (case w26 => as_aux_lemma => k_is)
            (case l27 => as_aux_lemma => k_is)
            (case c27 => as_aux_lemma => k_is)
            (case k27 => as_aux_lemma => k_is)
            (case v27 => as_aux_lemma => k_is)
            (case w27 => as_aux_lemma => k_is)
            (case l28 => as_aux_lemma => k_is)
            (case c28 => as_aux_lemma => k_is)
            (case k28 => as_aux_lemma => k_is)
            (case v28 => as_aux_lemma => k_is)
            (case w28 => as_aux_lemma => k_is)
            (case l29 => as_aux_lemma => k_is)
            (case c29 => as_aux_lemma => k_is)
            (case k29 => as_aux_lemma => k_is)
            (case v29 => as_aux_lemma => k_is)
            (case w29 => as_aux_lemma => k_is)
            (case l30 => as_aux_lemma => k_is)
            (case c30 => as_aux_lemma => k_is)
            (case k30 => as_aux_lemma => k_is)
            (case v30 => as_aux_lemma => k_is)
            (case w30 => as_aux_lemma => k_is)
            (case l31 => as_aux_lemma => k_is)
            (case c31 => as_aux_lemma => k_is)
            (case k31 => as_aux_lemma => k_is)
            (case v31 => as_aux_lemma => k_is)
            (case w31 => as_aux_lemma => k_is)
            (case l32 => as_aux_lemma => k_is)
            (case c32 => as_aux_lemma => k_is)
            (case k32 => as_aux_lemma => k_is)
            (case v32 => as_aux_lemma => k_is)
            (case w32 => as_aux_lemma => k_is)
            (case l33 => as_aux_lemma => k_is)
            (case c33 => as_aux_lemma => k_is)
            (case k33 => as_aux_lemma => k_is)
            (case v33 => as_aux_lemma => k_is)
            (case w33 => as_aux_lemma => k_is)
            (case l34 => as_aux_lemma => k_is)
            (case c34 => as_aux_lemma => k_is)
            (case k34 => as_aux_lemma => k_is)
            (case v34 => as_aux_lemma => k_is)
            (case w34 => as_aux_lemma => k_is)
            (case l35 => as_aux_lemma => k_is)
            (case c35 => as_aux_lemma => k_is)
            (case k35 => as_aux_lemma => k_is)
            (case v35 => as_aux_lemma => k_is)
            (case w35 => as_aux_lemma => k_is)
            (case l36 => as_aux_lemma => k_is)
            (case c36 => as_aux_lemma => k_is)
            (case k36 => as_aux_lemma => k_is)
            (case v36 => as_aux_lemma => k_is)
            (case w36 => as_aux_lemma => k_is)
            (case l37 => as_aux_lemma => k_is)
            (case c37 => as_aux_lemma => k_is)
            (case k37 => as_aux_lemma => k_is)
            (case v37 => as_aux_lemma => k_is)
            (case w37 => as_aux_lemma => k_is)
            (case l38 => as_aux_lemma => k_is)
            (case c38 => as_aux_lemma => k_is)
            (case k38 => as_aux_lemma => k_is)
            (case v38 => as_aux_lemma => k_is)
            (case w38 => as_aux_lemma => k_is)
            (case l39 => as_aux_lemma => k_is)
            (case c39 => as_aux_lemma => k_is)
            (case k39 => as_aux_lemma => k_is)
            (case v39 => as_aux_lemma => k_is)
            (case w39 => as_aux_lemma => k_is)
            (case l40 => as_aux_lemma => k_is)
            (case c40 => as_aux_lemma => k_is)
            (case k40 => as_aux_lemma => k_is)
            (case v40 => as_aux_lemma => k_is)
            (case w40 => as_aux_lemma => k_is)
            (case l44 => as_aux_lemma => k_is)
            (case n44 => as_aux_lemma => k_is)
            (case c44 => as_aux_lemma => k_is)
            (case k44 => as_aux_lemma => k_is)
            (case v44 => as_aux_lemma => k_is)
            (case l45 => as_aux_lemma => k_is)
            (case n45 => as_aux_lemma => k_is)
            (case c45 => as_aux_lemma => k_is)
            (case k45 => as_aux_lemma => k_is)
            (case v45 => as_aux_lemma => k_is)
            (case m0 => as_aux_lemma => k_is)
            (case m1 => as_aux_lemma => k_is)
            (case m2 => as_aux_lemma => k_is)
            (case m3 => as_aux_lemma => k_is)
            (case m4 => as_aux_lemma => k_is)
            (case z0 => as_aux_lemma => k_is)
            (case z1 => as_aux_lemma => k_is)
            (case z2 => as_aux_lemma => k_is)
            (case z3 => as_aux_lemma => k_is)
            (case z4 => as_aux_lemma => k_is)
            (case z5 => as_aux_lemma => k_is)
            (case z6 => as_aux_lemma => k_is)
            (case z7 => as_aux_lemma => k_is)
            (case z8 => as_aux_lemma => k_is)
            (case z9 => as_aux_lemma => k_is)
            (case z10 => as_aux_lemma => k_is)
            (case z11 => as_aux_lemma => k_is)
            (case z12 => as_aux_lemma => k_is)
            (case z13 => as_aux_lemma => k_is)
            (case z14 => as_aux_lemma => k_is)
            (case xl_BadNumber => as_aux_lemma => k_is)
            (case xr_BadNumber => decide +kernel)
            (case xs_BadNumber => as_aux_lemma => k_is)
            (case xb_BadNumber => as_aux_lemma => k_is)
            (case xt_BadNumber => as_aux_lemma => k_is)
            (case xk_BadNumber => as_aux_lemma => k_is)
            (case xn_BadNumber => as_aux_lemma => k_is)
            (case xi_BadNumber => as_aux_lemma => k_is)
            (case xf_BadNumber => as_aux_lemma => k_is)
            (case xm_BadNumber => as_aux_lemma => k_is)
            (case xo_BadNumber => as_aux_lemma => k_is)
            (case xp_BadNumber => as_aux_lemma => k_is)
            (case xl_NoVersion => as_aux_lemma => k_is)
            (case xr_NoVersion => decide +kernel)
            (case xs_NoVersion => as_aux_lemma => k_is)
            (case xb_NoVersion => as_aux_lemma => k_is)
            (case xt_NoVersion => as_aux_lemma => k_is)
            (case xk_NoVersion => as_aux_lemma => k_is)
            (case xn_NoVersion => as_aux_lemma => k_is)
            (case xi_NoVersion => as_aux_lemma => k_is)
            (case xf_NoVersion => as_aux_lemma => k_is)
            (case xm_NoVersion => as_aux_lemma => k_is)
            (case xo_NoVersion => as_aux_lemma => k_is)
            (case xp_NoVersion => as_aux_lemma => k_is)
            (case xl_TooLow => as_aux_lemma => k_is)
            (case xr_TooLow => decide +kernel)
            (case xs_TooLow => as_aux_lemma => k_is)
            (case xb_TooLow => as_aux_lemma => k_is)
            (case xt_TooLow => as_aux_lemma => k_is)
            (case xk_TooLow => as_aux_lemma => k_is)
            (case xn_TooLow => as_aux_lemma => k_is)
            (case xi_TooLow => as_aux_lemma => k_is)
            (case xf_TooLow => as_aux_lemma => k_is)
            (case xm_TooLow => as_aux_lemma => k_is)
            (case xo_TooLow => as_aux_lemma => k_is)
            (case xp_TooLow => as_aux_lemma => k_is)
            (case e1_TooLow => as_aux_lemma => k_is)
            (case e2_TooLow => as_aux_lemma => k_is)
            (case e3_TooLow => as_aux_lemma => k_is)
            (case e4_TooLow => as_aux_lemma => k_is)
            (case e5_TooLow => as_aux_lemma => k_is)
            (case e6_TooLow => as_aux_lemma => k_is)
            (case e7_TooLow => as_aux_lemma => k_is)
            (case e8_TooLow => as_aux_lemma => k_is)
            (case e9_TooLow => as_aux_lemma => k_is)
            (case nnumber_TooLow => as_aux_lemma => k_is)
            (case y1_TooLow => as_aux_lemma => k_is)
            (case y2_TooLow => as_aux_lemma => k_is)
            (case y3_TooLow => as_aux_lemma => k_is)
            (case sf_TooLow => first | rfl | k_is)
            (case px0 => first | k_is | rfl)
            (case u1_PromisedHoist => as_aux_lemma => k_is)
            (case u2_PromisedHoist => as_aux_lemma => k_is)
            (case u3_PromisedHoist => as_aux_lemma => k_is)
            (case u4_PromisedHoist => as_aux_lemma => k_is)
            (case u1_Hoist => as_aux_lemma => k_is)
            (case u2_Hoist => as_aux_lemma => k_is)
            (case u3_Hoist => as_aux_lemma => k_is)
            (case u4_Hoist => as_aux_lemma => k_is)
            (case cr1_Hoist => as_aux_lemma => k_is)
            (case cr2_Hoist => as_aux_lemma => k_is)
            (case cfi_Hoist___init__ => as_aux_lemma => k_is)
            (case cfv_Hoist___init__ => as_aux_lemma => k_is)
            (case cr1_Promise => as_aux_lemma => k_is)
            (case cr2_Promise => as_aux_lemma => k_is)
            (case cfi_Promise___init__ => as_aux_lemma => k_is)
            (case cfv_Promise___init__ => as_aux_lemma => k_is)
            (case eq1_Hoist => as_aux_lemma => k_is)
            (case eq1_PromisedHoist => as_aux_lemma => k_is)
            (case kp_PromisedHoist_Hoist => as_aux_lemma => k_is)
            (case kp_Hoist_PromisedHoist => as_aux_lemma => k_is)
            (case q1_Promise_least_PromisedHoist => as_aux_lemma => k_is)
            (case q2_Promise_least => as_aux_lemma => k_is)
            (case q3_Promise_least => as_aux_lemma => k_is)
            (case q4_Promise_least => as_aux_lemma => k_is)
            (case q5_Promise_least => as_aux_lemma => k_is)
            (case q6_Promise_least => as_aux_lemma => k_is)
            (case un_PromisedHoist__least => as_aux_lemma => k_is)
            (case u5_Hoist => as_aux_lemma => k_is)
            (case u6_ => as_aux_lemma => k_is)
            (case u7_ => as_aux_lemma => k_is)
            (case u8_Hoist => as_aux_lemma => k_is)
            (case u9_Hoist => as_aux_lemma => k_is)
            (case u10_Hoist => as_aux_lemma => k_is)
            (case u5_PromisedHoist => as_aux_lemma => k_is)
            (case u8_PromisedHoist => as_aux_lemma => k_is)
            (case u9_PromisedHoist => as_aux_lemma => k_is)
            (case u10_PromisedHoist => as_aux_lemma => k_is)
            (case ks_PromisedHoist => as_aux_lemma => k_is)
            (case ks_Hoist => as_aux_lemma => k_is)
            (case um_Hoist => as_aux_lemma => k_is)
            (case uk_Hoist => as_aux_lemma => k_is)
            (case um_PromisedHoist => as_aux_lemma => k_is)
            (case uk_PromisedHoist => as_aux_lemma => k_is)
            (case un_Hoist__edits => as_aux_lemma => k_is)
            (case un_PromisedHoist__edits => as_aux_lemma => k_is)
            (case un_Hoist__towers => as_aux_lemma => k_is)
            (case un_PromisedHoist__towers => as_aux_lemma => k_is)
            (case un_Hoist__watched => as_aux_lemma => k_is)
            (case un_PromisedHoist__watched => as_aux_lemma => k_is)
          case hT =>
            intro w h Y p hp
            cases hp with
            | head => exact PySem.W.km_tabs_of Y _ (by k_mem)
            | tail _ z => cases z
          case hC =>
            intro w h Y p hp
            cases hp with
            | head => exact PySem.W.codeHd_of_K Y (by kernel_rfl)
            | tail _ z => cases z
          case hN =>
            intro w p hp
            cases hp with
            | head => kernel_rfl
            | tail _ z => cases z
          case hs => exact $(Lean.mkIdent `hs) _)
      let as := args.pop.push ⟨t.raw⟩
      `(tactic| refine $f $as*)
    else Lean.Macro.throwUnsupported
  | _ => Lean.Macro.throwUnsupported
def _root_.PySem.W.Fast.tw4951705809873348113 : Nat := 0
def _root_.PySem.W.Fast.tw3271084140934104268 : Nat := 0
def _root_.PySem.W.Fast.tw9001743852736552572 : Nat := 0
def _root_.PySem.W.Fast.tw13981435917713222448 : Nat := 0
def _root_.PySem.W.Fast.tw16455892515413669417 : Nat := 0
def _root_.PySem.W.Fast.tw15660977407679271507 : Nat := 0
def _root_.PySem.W.Fast.tw3890906463220844797 : Nat := 0
def _root_.PySem.W.Fast.tw18438600708519424105 : Nat := 0
def _root_.PySem.W.Fast.tw362783152803985796 : Nat := 0
def _root_.PySem.W.Fast.tw14038832887688032404 : Nat := 0
def _root_.PySem.W.Fast.tw8548295737371921586 : Nat := 0
def _root_.PySem.W.Fast.tw3847090386176761062 : Nat := 0
def _root_.PySem.W.Fast.tw5498132597584186375 : Nat := 0
def _root_.PySem.W.Fast.tw1978845589133853159 : Nat := 0
set_option maxHeartbeats 0 in
theorem head (sp : PySem.W.Frag → Sp)
    (FIN : ∀ {P : Program} {w : World} {K : PySem.W.Frag} {h : Heap} {mg : Str → Option Value} {fa : Addr} (KX : K.In h) (G : h.Ns mainGlobals mg) (hfa : mg "law" = some (.ref fa))
    {f0 : Addr} {od0 an0 : Option Addr} {sl0 : Array (Option Value)} {oc0 kV0 dc0 pm0 cd0 ct0 : Value} (a0 : PySem.W.nsIn K mainGlobals "is_number_between" = some (some (.ref f0))) (l0 : K.lookup f0 = some ⟨oc0, od0, .func (PySem.W.fnOf "is_number_between" "is_number_between" (defArgs (topH 21)) (defBody (topH 21)) (defScope (topH 21)) .none kV0 dc0 pm0 an0 cd0 ct0), sl0⟩) (c0 : PySem.W.codeIn K cd0 "is_number_between" = true) (k0 : PySem.W.keepIn K (.ref f0) = true)
    {f1 : Addr} {od1 an1 : Option Addr} {sl1 : Array (Option Value)} {oc1 kV1 dc1 pm1 cd1 ct1 : Value} (a1 : PySem.W.nsIn K mainGlobals "is_excess" = some (some (.ref f1))) (l1 : K.lookup f1 = some ⟨oc1, od1, .func (PySem.W.fnOf "is_excess" "is_excess" (defArgs (topH 23)) (defBody (topH 23)) (defScope (topH 23)) .none kV1 dc1 pm1 an1 cd1 ct1), sl1⟩) (c1 : PySem.W.codeIn K cd1 "is_excess" = true) (k1 : PySem.W.keepIn K (.ref f1) = true)
    {f2 : Addr} {od2 an2 : Option Addr} {sl2 : Array (Option Value)} {oc2 kV2 dc2 pm2 cd2 ct2 : Value} (a2 : PySem.W.nsIn K mainGlobals "is_weight" = some (some (.ref f2))) (l2 : K.lookup f2 = some ⟨oc2, od2, .func (PySem.W.fnOf "is_weight" "is_weight" (defArgs (topH 24)) (defBody (topH 24)) (defScope (topH 24)) .none kV2 dc2 pm2 an2 cd2 ct2), sl2⟩) (c2 : PySem.W.codeIn K cd2 "is_weight" = true) (k2 : PySem.W.keepIn K (.ref f2) = true)
    {f3 : Addr} {od3 an3 : Option Addr} {sl3 : Array (Option Value)} {oc3 kV3 dc3 pm3 cd3 ct3 : Value} (a3 : PySem.W.nsIn K mainGlobals "tower_error" = some (some (.ref f3))) (l3 : K.lookup f3 = some ⟨oc3, od3, .func (PySem.W.fnOf "tower_error" "tower_error" (defArgs (topH 25)) (defBody (topH 25)) (defScope (topH 25)) .none kV3 dc3 pm3 an3 cd3 ct3), sl3⟩) (c3 : PySem.W.codeIn K cd3 "tower_error" = true) (k3 : PySem.W.keepIn K (.ref f3) = true)
    {f4 : Addr} {od4 an4 : Option Addr} {sl4 : Array (Option Value)} {oc4 kV4 dc4 pm4 cd4 ct4 : Value} (a4 : PySem.W.nsIn K mainGlobals "check_number" = some (some (.ref f4))) (l4 : K.lookup f4 = some ⟨oc4, od4, .func (PySem.W.fnOf "check_number" "check_number" (defArgs (topH 27)) (defBody (topH 27)) (defScope (topH 27)) .none kV4 dc4 pm4 an4 cd4 ct4), sl4⟩) (c4 : PySem.W.codeIn K cd4 "check_number" = true) (k4 : PySem.W.keepIn K (.ref f4) = true)
    {f5 : Addr} {od5 an5 : Option Addr} {sl5 : Array (Option Value)} {oc5 kV5 dc5 pm5 cd5 ct5 : Value} (a5 : PySem.W.nsIn K mainGlobals "lighter_weight" = some (some (.ref f5))) (l5 : K.lookup f5 = some ⟨oc5, od5, .func (PySem.W.fnOf "lighter_weight" "lighter_weight" (defArgs (topH 30)) (defBody (topH 30)) (defScope (topH 30)) .none kV5 dc5 pm5 an5 cd5 ct5), sl5⟩) (c5 : PySem.W.codeIn K cd5 "lighter_weight" = true) (k5 : PySem.W.keepIn K (.ref f5) = true)
    {f6 : Addr} {od6 an6 : Option Addr} {sl6 : Array (Option Value)} {oc6 kV6 dc6 pm6 cd6 ct6 : Value} (a6 : PySem.W.nsIn K mainGlobals "room_of" = some (some (.ref f6))) (l6 : K.lookup f6 = some ⟨oc6, od6, .func (PySem.W.fnOf "room_of" "room_of" (defArgs (topH 31)) (defBody (topH 31)) (defScope (topH 31)) .none kV6 dc6 pm6 an6 cd6 ct6), sl6⟩) (c6 : PySem.W.codeIn K cd6 "room_of" = true) (k6 : PySem.W.keepIn K (.ref f6) = true)
    {f7 : Addr} {od7 an7 : Option Addr} {sl7 : Array (Option Value)} {oc7 kV7 dc7 pm7 ct7 : Value} {cc7 : Addr} (a7 : PySem.W.nsIn K mainGlobals "people_by_weight" = some (some (.ref f7))) (l7 : K.lookup f7 = some ⟨oc7, od7, .func (PySem.W.fnOf "people_by_weight" "people_by_weight" (defArgs (topH 32)) (defBody (topH 32)) (defScope (topH 32)) .none kV7 dc7 pm7 an7 (.ref cc7) ct7), sl7⟩) (c7 : PySem.W.codeIn K (.ref cc7) "people_by_weight" = true) (k7 : PySem.W.keepIn K (.ref f7) = true)
    {f8 : Addr} {od8 an8 : Option Addr} {sl8 : Array (Option Value)} {oc8 kV8 dc8 pm8 cd8 ct8 : Value} (a8 : PySem.W.nsIn K mainGlobals "stuck_person" = some (some (.ref f8))) (l8 : K.lookup f8 = some ⟨oc8, od8, .func (PySem.W.fnOf "stuck_person" "stuck_person" (defArgs (topH 33)) (defBody (topH 33)) (defScope (topH 33)) .none kV8 dc8 pm8 an8 cd8 ct8), sl8⟩) (c8 : PySem.W.codeIn K cd8 "stuck_person" = true) (k8 : PySem.W.keepIn K (.ref f8) = true)
    {f9 : Addr} {od9 an9 : Option Addr} {sl9 : Array (Option Value)} {oc9 kV9 dc9 pm9 cd9 ct9 : Value} (a9 : PySem.W.nsIn K mainGlobals "reach_weight" = some (some (.ref f9))) (l9 : K.lookup f9 = some ⟨oc9, od9, .func (PySem.W.fnOf "reach_weight" "reach_weight" (defArgs (topH 34)) (defBody (topH 34)) (defScope (topH 34)) .none kV9 dc9 pm9 an9 cd9 ct9), sl9⟩) (c9 : PySem.W.codeIn K cd9 "reach_weight" = true) (k9 : PySem.W.keepIn K (.ref f9) = true)
    {f10 : Addr} {od10 an10 : Option Addr} {sl10 : Array (Option Value)} {oc10 kV10 dc10 pm10 cd10 ct10 : Value} (a10 : PySem.W.nsIn K mainGlobals "likeness" = some (some (.ref f10))) (l10 : K.lookup f10 = some ⟨oc10, od10, .func (PySem.W.fnOf "likeness" "likeness" (defArgs (topH 44)) (defBody (topH 44)) (defScope (topH 44)) .none kV10 dc10 pm10 an10 cd10 ct10), sl10⟩) (c10 : PySem.W.codeIn K cd10 "likeness" = true) (k10 : PySem.W.keepIn K (.ref f10) = true)
    {f11 : Addr} {od11 an11 : Option Addr} {sl11 : Array (Option Value)} {oc11 kV11 dc11 pm11 cd11 ct11 : Value} (a11 : PySem.W.nsIn K mainGlobals "_law_deck" = some (some (.ref f11))) (l11 : K.lookup f11 = some ⟨oc11, od11, .func (PySem.W.fnOf "_law_deck" "_law_deck" (defArgs (topH 46)) (defBody (topH 46)) (defScope (topH 46)) .none kV11 dc11 pm11 an11 cd11 ct11), sl11⟩) (c11 : PySem.W.codeIn K cd11 "_law_deck" = true) (k11 : PySem.W.keepIn K (.ref f11) = true)
    {f12 : Addr} {od12 an12 : Option Addr} {sl12 : Array (Option Value)} {oc12 kV12 dc12 pm12 cd12 ct12 : Value} (a12 : PySem.W.nsIn K mainGlobals "_law_draw" = some (some (.ref f12))) (l12 : K.lookup f12 = some ⟨oc12, od12, .func (PySem.W.fnOf "_law_draw" "_law_draw" (defArgs (topH 47)) (defBody (topH 47)) (defScope (topH 47)) .none kV12 dc12 pm12 an12 cd12 ct12), sl12⟩) (c12 : PySem.W.codeIn K cd12 "_law_draw" = true) (k12 : PySem.W.keepIn K (.ref f12) = true)
    {f13 : Addr} {od13 an13 : Option Addr} {sl13 : Array (Option Value)} {oc13 kV13 dc13 pm13 cd13 ct13 : Value} (a13 : PySem.W.nsIn K mainGlobals "_law_weight" = some (some (.ref f13))) (l13 : K.lookup f13 = some ⟨oc13, od13, .func (PySem.W.fnOf "_law_weight" "_law_weight" (defArgs (topH 48)) (defBody (topH 48)) (defScope (topH 48)) .none kV13 dc13 pm13 an13 cd13 ct13), sl13⟩) (c13 : PySem.W.codeIn K cd13 "_law_weight" = true) (k13 : PySem.W.keepIn K (.ref f13) = true)
    {f14 : Addr} {od14 an14 : Option Addr} {sl14 : Array (Option Value)} {oc14 kV14 dc14 pm14 cd14 ct14 : Value} (a14 : PySem.W.nsIn K mainGlobals "_law_tower" = some (some (.ref f14))) (l14 : K.lookup f14 = some ⟨oc14, od14, .func (PySem.W.fnOf "_law_tower" "_law_tower" (defArgs (topH 49)) (defBody (topH 49)) (defScope (topH 49)) .none kV14 dc14 pm14 an14 cd14 ct14), sl14⟩) (c14 : PySem.W.codeIn K cd14 "_law_tower" = true) (k14 : PySem.W.keepIn K (.ref f14) = true)
    {f15 : Addr} {od15 an15 : Option Addr} {sl15 : Array (Option Value)} {oc15 kV15 dc15 pm15 cd15 ct15 : Value} (a15 : PySem.W.nsIn K mainGlobals "_law_after" = some (some (.ref f15))) (l15 : K.lookup f15 = some ⟨oc15, od15, .func (PySem.W.fnOf "_law_after" "_law_after" (defArgs (topH 50)) (defBody (topH 50)) (defScope (topH 50)) .none kV15 dc15 pm15 an15 cd15 ct15), sl15⟩) (c15 : PySem.W.codeIn K cd15 "_law_after" = true) (k15 : PySem.W.keepIn K (.ref f15) = true)
    {f16 : Addr} {od16 an16 : Option Addr} {sl16 : Array (Option Value)} {oc16 kV16 dc16 pm16 cd16 ct16 : Value} (a16 : PySem.W.nsIn K mainGlobals "_law_edit" = some (some (.ref f16))) (l16 : K.lookup f16 = some ⟨oc16, od16, .func (PySem.W.fnOf "_law_edit" "_law_edit" (defArgs (topH 51)) (defBody (topH 51)) (defScope (topH 51)) .none kV16 dc16 pm16 an16 cd16 ct16), sl16⟩) (c16 : PySem.W.codeIn K cd16 "_law_edit" = true) (k16 : PySem.W.keepIn K (.ref f16) = true)
    {f17 : Addr} {od17 an17 : Option Addr} {sl17 : Array (Option Value)} {oc17 kV17 dc17 pm17 cd17 ct17 : Value} (a17 : PySem.W.nsIn K mainGlobals "_law_do" = some (some (.ref f17))) (l17 : K.lookup f17 = some ⟨oc17, od17, .func (PySem.W.fnOf "_law_do" "_law_do" (defArgs (topH 52)) (defBody (topH 52)) (defScope (topH 52)) .none kV17 dc17 pm17 an17 cd17 ct17), sl17⟩) (c17 : PySem.W.codeIn K cd17 "_law_do" = true) (k17 : PySem.W.keepIn K (.ref f17) = true)
    {f18 : Addr} {od18 an18 : Option Addr} {sl18 : Array (Option Value)} {oc18 kV18 dc18 pm18 cd18 ct18 : Value} (a18 : PySem.W.nsIn K mainGlobals "_law_done" = some (some (.ref f18))) (l18 : K.lookup f18 = some ⟨oc18, od18, .func (PySem.W.fnOf "_law_done" "_law_done" (defArgs (topH 53)) (defBody (topH 53)) (defScope (topH 53)) .none kV18 dc18 pm18 an18 cd18 ct18), sl18⟩) (c18 : PySem.W.codeIn K cd18 "_law_done" = true) (k18 : PySem.W.keepIn K (.ref f18) = true)
    {f19 : Addr} {od19 an19 : Option Addr} {sl19 : Array (Option Value)} {oc19 kV19 dc19 pm19 cd19 ct19 : Value} (a19 : PySem.W.nsIn K mainGlobals "_law_refused" = some (some (.ref f19))) (l19 : K.lookup f19 = some ⟨oc19, od19, .func (PySem.W.fnOf "_law_refused" "_law_refused" (defArgs (topH 54)) (defBody (topH 54)) (defScope (topH 54)) .none kV19 dc19 pm19 an19 cd19 ct19), sl19⟩) (c19 : PySem.W.codeIn K cd19 "_law_refused" = true) (k19 : PySem.W.keepIn K (.ref f19) = true)
    {f20 : Addr} {od20 an20 : Option Addr} {sl20 : Array (Option Value)} {oc20 kV20 dc20 pm20 cd20 ct20 : Value} (a20 : PySem.W.nsIn K mainGlobals "_law_shown" = some (some (.ref f20))) (l20 : K.lookup f20 = some ⟨oc20, od20, .func (PySem.W.fnOf "_law_shown" "_law_shown" (defArgs (topH 55)) (defBody (topH 55)) (defScope (topH 55)) .none kV20 dc20 pm20 an20 cd20 ct20), sl20⟩) (c20 : PySem.W.codeIn K cd20 "_law_shown" = true) (k20 : PySem.W.keepIn K (.ref f20) = true)
    {f21 : Addr} {od21 an21 : Option Addr} {sl21 : Array (Option Value)} {oc21 kV21 dc21 pm21 cd21 ct21 : Value} (a21 : PySem.W.nsIn K mainGlobals "law" = some (some (.ref f21))) (l21 : K.lookup f21 = some ⟨oc21, od21, .func (PySem.W.fnOf "law" "law" (defArgs (topH 56)) (defBody (topH 56)) (defScope (topH 56)) .none kV21 dc21 pm21 an21 cd21 ct21), sl21⟩) (c21 : PySem.W.codeIn K cd21 "law" = true) (k21 : PySem.W.keepIn K (.ref f21) = true)
    {f22 : Addr} {od22 an22 : Option Addr} {sl22 : Array (Option Value)} {oc22 kV22 dc22 pm22 cd22 ct22 : Value} (l22 : K.lookup f22 = some ⟨oc22, od22, .func (PySem.W.fnOf "__init__" "Hoist.__init__" (defArgs (membH (topH 42) 1)) (defBody (membH (topH 42) 1)) (defScope (membH (topH 42) 1)) .none kV22 dc22 pm22 an22 cd22 ct22), sl22⟩) (c22 : PySem.W.codeIn K cd22 "Hoist.__init__" = true) (k22 : PySem.W.keepIn K (.ref f22) = true) (v22 : PySem.W.isFn K (.ref f22) = true) (w22 : PySem.W.fnIn K f22 = true)
    {f23 : Addr} {od23 an23 : Option Addr} {sl23 : Array (Option Value)} {oc23 kV23 dc23 pm23 cd23 ct23 : Value} (l23 : K.lookup f23 = some ⟨oc23, od23, .func (PySem.W.fnOf "come" "Hoist.come" (defArgs (membH (topH 42) 5)) (defBody (membH (topH 42) 5)) (defScope (membH (topH 42) 5)) .none kV23 dc23 pm23 an23 cd23 ct23), sl23⟩) (c23 : PySem.W.codeIn K cd23 "Hoist.come" = true) (k23 : PySem.W.keepIn K (.ref f23) = true) (v23 : PySem.W.isFn K (.ref f23) = true) (w23 : PySem.W.fnIn K f23 = true)
    {f24 : Addr} {od24 an24 : Option Addr} {sl24 : Array (Option Value)} {oc24 kV24 dc24 pm24 cd24 ct24 : Value} (l24 : K.lookup f24 = some ⟨oc24, od24, .func (PySem.W.fnOf "leave" "Hoist.leave" (defArgs (membH (topH 42) 6)) (defBody (membH (topH 42) 6)) (defScope (membH (topH 42) 6)) .none kV24 dc24 pm24 an24 cd24 ct24), sl24⟩) (c24 : PySem.W.codeIn K cd24 "Hoist.leave" = true) (k24 : PySem.W.keepIn K (.ref f24) = true) (v24 : PySem.W.isFn K (.ref f24) = true) (w24 : PySem.W.fnIn K f24 = true)
    {f25 : Addr} {od25 an25 : Option Addr} {sl25 : Array (Option Value)} {oc25 kV25 dc25 pm25 cd25 ct25 : Value} (l25 : K.lookup f25 = some ⟨oc25, od25, .func (PySem.W.fnOf "weigh" "Hoist.weigh" (defArgs (membH (topH 42) 7)) (defBody (membH (topH 42) 7)) (defScope (membH (topH 42) 7)) .none kV25 dc25 pm25 an25 cd25 ct25), sl25⟩) (c25 : PySem.W.codeIn K cd25 "Hoist.weigh" = true) (k25 : PySem.W.keepIn K (.ref f25) = true) (v25 : PySem.W.isFn K (.ref f25) = true) (w25 : PySem.W.fnIn K f25 = true)
    {f26 : Addr} {od26 an26 : Option Addr} {sl26 : Array (Option Value)} {oc26 kV26 dc26 pm26 cd26 ct26 : Value} (l26 : K.lookup f26 = some ⟨oc26, od26, .func (PySem.W.fnOf "loosen" "Hoist.loosen" (defArgs (membH (topH 42) 8)) (defBody (membH (topH 42) 8)) (defScope (membH (topH 42) 8)) .none kV26 dc26 pm26 an26 cd26 ct26), sl26⟩) (c26 : PySem.W.codeIn K cd26 "Hoist.loosen" = true) (k26 : PySem.W.keepIn K (.ref f26) = true) (v26 : PySem.W.isFn K (.ref f26) = true) (w26 : PySem.W.fnIn K f26 = true)
    {f27 : Addr} {od27 an27 : Option Addr} {sl27 : Array (Option Value)} {oc27 kV27 dc27 pm27 cd27 ct27 : Value} (l27 : K.lookup f27 = some ⟨oc27, od27, .func (PySem.W.fnOf "_check_idle" "Hoist._check_idle" (defArgs (membH (topH 42) 19)) (defBody (membH (topH 42) 19)) (defScope (membH (topH 42) 19)) .none kV27 dc27 pm27 an27 cd27 ct27), sl27⟩) (c27 : PySem.W.codeIn K cd27 "Hoist._check_idle" = true) (k27 : PySem.W.keepIn K (.ref f27) = true) (v27 : PySem.W.isFn K (.ref f27) = true) (w27 : PySem.W.fnIn K f27 = true)
    {f28 : Addr} {od28 an28 : Option Addr} {sl28 : Array (Option Value)} {oc28 kV28 dc28 pm28 cd28 ct28 : Value} (l28 : K.lookup f28 = some ⟨oc28, od28, .func (PySem.W.fnOf "_check_edit" "Hoist._check_edit" (defArgs (membH (topH 42) 20)) (defBody (membH (topH 42) 20)) (defScope (membH (topH 42) 20)) .none kV28 dc28 pm28 an28 cd28 ct28), sl28⟩) (c28 : PySem.W.codeIn K cd28 "Hoist._check_edit" = true) (k28 : PySem.W.keepIn K (.ref f28) = true) (v28 : PySem.W.isFn K (.ref f28) = true) (w28 : PySem.W.fnIn K f28 = true)
    {f29 : Addr} {od29 an29 : Option Addr} {sl29 : Array (Option Value)} {oc29 kV29 dc29 pm29 cd29 ct29 : Value} (l29 : K.lookup f29 = some ⟨oc29, od29, .func (PySem.W.fnOf "_check_person" "Hoist._check_person" (defArgs (membH (topH 42) 21)) (defBody (membH (topH 42) 21)) (defScope (membH (topH 42) 21)) .none kV29 dc29 pm29 an29 cd29 ct29), sl29⟩) (c29 : PySem.W.codeIn K cd29 "Hoist._check_person" = true) (k29 : PySem.W.keepIn K (.ref f29) = true) (v29 : PySem.W.isFn K (.ref f29) = true) (w29 : PySem.W.fnIn K f29 = true)
    {f30 : Addr} {od30 an30 : Option Addr} {sl30 : Array (Option Value)} {oc30 kV30 dc30 pm30 cd30 ct30 : Value} (l30 : K.lookup f30 = some ⟨oc30, od30, .func (PySem.W.fnOf "_check_tower" "Hoist._check_tower" (defArgs (membH (topH 42) 22)) (defBody (membH (topH 42) 22)) (defScope (membH (topH 42) 22)) .none kV30 dc30 pm30 an30 cd30 ct30), sl30⟩) (c30 : PySem.W.codeIn K cd30 "Hoist._check_tower" = true) (k30 : PySem.W.keepIn K (.ref f30) = true) (v30 : PySem.W.isFn K (.ref f30) = true) (w30 : PySem.W.fnIn K f30 = true)
    {f31 : Addr} {od31 an31 : Option Addr} {sl31 : Array (Option Value)} {oc31 kV31 dc31 pm31 cd31 ct31 : Value} (l31 : K.lookup f31 = some ⟨oc31, od31, .func (PySem.W.fnOf "_keep" "Hoist._keep" (defArgs (membH (topH 42) 23)) (defBody (membH (topH 42) 23)) (defScope (membH (topH 42) 23)) .none kV31 dc31 pm31 an31 cd31 ct31), sl31⟩) (c31 : PySem.W.codeIn K cd31 "Hoist._keep" = true) (k31 : PySem.W.keepIn K (.ref f31) = true) (v31 : PySem.W.isFn K (.ref f31) = true) (w31 : PySem.W.fnIn K f31 = true)
    {f32 : Addr} {od32 an32 : Option Addr} {sl32 : Array (Option Value)} {oc32 kV32 dc32 pm32 cd32 ct32 : Value} (l32 : K.lookup f32 = some ⟨oc32, od32, .func (PySem.W.fnOf "__init__" "Promise.__init__" (defArgs (membH (topH 28) 0)) (defBody (membH (topH 28) 0)) (defScope (membH (topH 28) 0)) .none kV32 dc32 pm32 an32 cd32 ct32), sl32⟩) (c32 : PySem.W.codeIn K cd32 "Promise.__init__" = true) (k32 : PySem.W.keepIn K (.ref f32) = true) (v32 : PySem.W.isFn K (.ref f32) = true) (w32 : PySem.W.fnIn K f32 = true)
    {f33 : Addr} {od33 an33 : Option Addr} {sl33 : Array (Option Value)} {oc33 kV33 dc33 pm33 cd33 ct33 : Value} (l33 : K.lookup f33 = some ⟨oc33, od33, .func (PySem.W.fnOf "beyond" "Promise.beyond" (defArgs (membH (topH 28) 2)) (defBody (membH (topH 28) 2)) (defScope (membH (topH 28) 2)) .none kV33 dc33 pm33 an33 cd33 ct33), sl33⟩) (c33 : PySem.W.codeIn K cd33 "Promise.beyond" = true) (k33 : PySem.W.keepIn K (.ref f33) = true) (v33 : PySem.W.isFn K (.ref f33) = true) (w33 : PySem.W.fnIn K f33 = true)
    {f34 : Addr} {od34 an34 : Option Addr} {sl34 : Array (Option Value)} {oc34 kV34 dc34 pm34 cd34 ct34 : Value} (l34 : K.lookup f34 = some ⟨oc34, od34, .func (PySem.W.fnOf "__init__" "PromisedHoist.__init__" (defArgs (membH (topH 43) 0)) (defBody (membH (topH 43) 0)) (defScope (membH (topH 43) 0)) .none kV34 dc34 pm34 an34 cd34 ct34), sl34⟩) (c34 : PySem.W.codeIn K cd34 "PromisedHoist.__init__" = true) (k34 : PySem.W.keepIn K (.ref f34) = true) (v34 : PySem.W.isFn K (.ref f34) = true) (w34 : PySem.W.fnIn K f34 = true)
    {f35 : Addr} {od35 an35 : Option Addr} {sl35 : Array (Option Value)} {oc35 kV35 dc35 pm35 cd35 ct35 : Value} (l35 : K.lookup f35 = some ⟨oc35, od35, .func (PySem.W.fnOf "_check_tower" "PromisedHoist._check_tower" (defArgs (membH (topH 43) 1)) (defBody (membH (topH 43) 1)) (defScope (membH (topH 43) 1)) .none kV35 dc35 pm35 an35 cd35 ct35), sl35⟩) (c35 : PySem.W.codeIn K cd35 "PromisedHoist._check_tower" = true) (k35 : PySem.W.keepIn K (.ref f35) = true) (v35 : PySem.W.isFn K (.ref f35) = true) (w35 : PySem.W.fnIn K f35 = true)
    {f36 : Addr} {od36 an36 : Option Addr} {sl36 : Array (Option Value)} {oc36 kV36 dc36 pm36 cd36 ct36 : Value} (l36 : K.lookup f36 = some ⟨oc36, od36, .func (PySem.W.fnOf "undo" "Hoist.undo" (defArgs (membH (topH 42) 9)) (defBody (membH (topH 42) 9)) (defScope (membH (topH 42) 9)) .none kV36 dc36 pm36 an36 cd36 ct36), sl36⟩) (c36 : PySem.W.codeIn K cd36 "Hoist.undo" = true) (k36 : PySem.W.keepIn K (.ref f36) = true) (v36 : PySem.W.isFn K (.ref f36) = true) (w36 : PySem.W.fnIn K f36 = true)
    {f37 : Addr} {od37 an37 : Option Addr} {sl37 : Array (Option Value)} {oc37 kV37 dc37 pm37 cd37 ct37 : Value} (l37 : K.lookup f37 = some ⟨oc37, od37, .func (PySem.W.fnOf "edits" "Hoist.edits" (defArgs (membH (topH 42) 14)) (defBody (membH (topH 42) 14)) (defScope (membH (topH 42) 14)) .none kV37 dc37 pm37 an37 cd37 ct37), sl37⟩) (c37 : PySem.W.codeIn K cd37 "Hoist.edits" = true) (k37 : PySem.W.keepIn K (.ref f37) = true) (v37 : PySem.W.isFn K (.ref f37) = true) (w37 : PySem.W.fnIn K f37 = true)
    {f38 : Addr} {od38 an38 : Option Addr} {sl38 : Array (Option Value)} {oc38 kV38 dc38 pm38 cd38 ct38 : Value} (l38 : K.lookup f38 = some ⟨oc38, od38, .func (PySem.W.fnOf "__len__" "Hoist.__len__" (defArgs (membH (topH 42) 16)) (defBody (membH (topH 42) 16)) (defScope (membH (topH 42) 16)) .none kV38 dc38 pm38 an38 cd38 ct38), sl38⟩) (c38 : PySem.W.codeIn K cd38 "Hoist.__len__" = true) (k38 : PySem.W.keepIn K (.ref f38) = true) (v38 : PySem.W.isFn K (.ref f38) = true) (w38 : PySem.W.fnIn K f38 = true)
    {f39 : Addr} {od39 an39 : Option Addr} {sl39 : Array (Option Value)} {oc39 kV39 dc39 pm39 cd39 ct39 : Value} (l39 : K.lookup f39 = some ⟨oc39, od39, .func (PySem.W.fnOf "__str__" "Hoist.__str__" (defArgs (membH (topH 42) 17)) (defBody (membH (topH 42) 17)) (defScope (membH (topH 42) 17)) .none kV39 dc39 pm39 an39 cd39 ct39), sl39⟩) (c39 : PySem.W.codeIn K cd39 "Hoist.__str__" = true) (k39 : PySem.W.keepIn K (.ref f39) = true) (v39 : PySem.W.isFn K (.ref f39) = true) (w39 : PySem.W.fnIn K f39 = true)
    {f40 : Addr} {od40 an40 : Option Addr} {sl40 : Array (Option Value)} {oc40 kV40 dc40 pm40 cd40 ct40 : Value} (l40 : K.lookup f40 = some ⟨oc40, od40, .func (PySem.W.fnOf "__eq__" "Hoist.__eq__" (defArgs (membH (topH 42) 18)) (defBody (membH (topH 42) 18)) (defScope (membH (topH 42) 18)) .none kV40 dc40 pm40 an40 cd40 ct40), sl40⟩) (c40 : PySem.W.codeIn K cd40 "Hoist.__eq__" = true) (k40 : PySem.W.keepIn K (.ref f40) = true) (v40 : PySem.W.isFn K (.ref f40) = true) (w40 : PySem.W.fnIn K f40 = true)
    {pa41 f41 : Addr} {pr41 : List Value} {od41 an41 : Option Addr} {sl41 : Array (Option Value)} {oc41 kV41 dc41 pm41 cd41 ct41 : Value}
    {pa42 f42 : Addr} {pr42 : List Value} {od42 an42 : Option Addr} {sl42 : Array (Option Value)} {oc42 kV42 dc42 pm42 cd42 ct42 : Value}
    {pa43 f43 : Addr} {pr43 : List Value} {od43 an43 : Option Addr} {sl43 : Array (Option Value)} {oc43 kV43 dc43 pm43 cd43 ct43 : Value}
    {f44 kD44 : Addr} {od44 an44 : Option Addr} {sl44 : Array (Option Value)} {oc44 dc44 pm44 cd44 ct44 : Value} (l44 : K.lookup f44 = some ⟨oc44, od44, .func (PySem.W.fnOf "state" "Hoist.state" (defArgs (membH (topH 42) 11)) (defBody (membH (topH 42) 11)) (defScope (membH (topH 42) 11)) .none (.ref kD44) dc44 pm44 an44 cd44 ct44), sl44⟩) (n44 : PySem.W.nsIn K kD44 "version" = some (some .none)) (c44 : PySem.W.codeIn K cd44 "Hoist.state" = true) (k44 : PySem.W.keepIn K (.ref f44) = true) (v44 : PySem.W.isFn K (.ref f44) = true)
    {f45 kD45 : Addr} {od45 an45 : Option Addr} {sl45 : Array (Option Value)} {oc45 dc45 pm45 cd45 ct45 : Value} (l45 : K.lookup f45 = some ⟨oc45, od45, .func (PySem.W.fnOf "walk" "Hoist.walk" (defArgs (membH (topH 42) 13)) (defBody (membH (topH 42) 13)) (defScope (membH (topH 42) 13)) .none (.ref kD45) dc45 pm45 an45 cd45 ct45), sl45⟩) (n45 : PySem.W.nsIn K kD45 "version" = some (some .none)) (c45 : PySem.W.codeIn K cd45 "Hoist.walk" = true) (k45 : PySem.W.keepIn K (.ref f45) = true) (v45 : PySem.W.isFn K (.ref f45) = true)
    {t0 : Tok} (m0 : PySem.W.nsIn K mainGlobals "LIMIT" = some (some (.int 100000000 t0)))
    {t1 : Tok} (m1 : PySem.W.nsIn K mainGlobals "MAX_EDITS" = some (some (.int 60 t1)))
    {t2 : Tok} (m2 : PySem.W.nsIn K mainGlobals "MAX_EXCESS" = some (some (.int 1000000 t2)))
    {t3 : Tok} (m3 : PySem.W.nsIn K mainGlobals "MAX_PEOPLE" = some (some (.int 24 t3)))
    {t4 : Tok} (m4 : PySem.W.nsIn K mainGlobals "MAX_WEIGHT" = some (some (.int 1000000 t4)))
    (z0 : PySem.W.nsIn K mainGlobals "abs" = some none)
    (z1 : PySem.W.nsIn K mainGlobals "bool" = some none)
    (z2 : PySem.W.nsIn K mainGlobals "enumerate" = some none)
    (z3 : PySem.W.nsIn K mainGlobals "int" = some none)
    (z4 : PySem.W.nsIn K mainGlobals "isinstance" = some none)
    (z5 : PySem.W.nsIn K mainGlobals "len" = some none)
    (z6 : PySem.W.nsIn K mainGlobals "list" = some none)
    (z7 : PySem.W.nsIn K mainGlobals "max" = some none)
    (z8 : PySem.W.nsIn K mainGlobals "min" = some none)
    (z9 : PySem.W.nsIn K mainGlobals "range" = some none)
    (z10 : PySem.W.nsIn K mainGlobals "repr" = some none)
    (z11 : PySem.W.nsIn K mainGlobals "sorted" = some none)
    (z12 : PySem.W.nsIn K mainGlobals "str" = some none)
    (z13 : PySem.W.nsIn K mainGlobals "sum" = some none)
    (z14 : PySem.W.nsIn K mainGlobals "tuple" = some none)
    {A_BadNumber : Addr} (kc_BadNumber : PySem.W.nsIn K mainGlobals "BadNumber" = some (some (.ref A_BadNumber)))
    {A_Hoist : Addr} (kc_Hoist : PySem.W.nsIn K mainGlobals "Hoist" = some (some (.ref A_Hoist)))
    {A_NoVersion : Addr} (kc_NoVersion : PySem.W.nsIn K mainGlobals "NoVersion" = some (some (.ref A_NoVersion)))
    {A_Promise : Addr} (kc_Promise : PySem.W.nsIn K mainGlobals "Promise" = some (some (.ref A_Promise)))
    {A_PromisedHoist : Addr} (kc_PromisedHoist : PySem.W.nsIn K mainGlobals "PromisedHoist" = some (some (.ref A_PromisedHoist)))
    {A_TooLow : Addr} (kc_TooLow : PySem.W.nsIn K mainGlobals "TooLow" = some (some (.ref A_TooLow)))
    {nm_BadNumber q_BadNumber : Str} {N_BadNumber F_BadNumber : Addr} {bs_BadNumber bm_BadNumber su_BadNumber : List Value} {sn_BadNumber : List Str} {ab_BadNumber : Bool} {co_BadNumber : Option Bool} {dd_BadNumber od_BadNumber an_BadNumber : Option Addr} {m0_BadNumber m1_BadNumber m2_BadNumber m3_BadNumber m5_BadNumber : Option Value} {oc_BadNumber kV_BadNumber dc_BadNumber pm_BadNumber cd_BadNumber ct_BadNumber : Value} {sl_BadNumber : Array (Option Value)}
    (xl_BadNumber : K.lookup A_BadNumber = some (excClassObj nm_BadNumber q_BadNumber A_BadNumber N_BadNumber bs_BadNumber bm_BadNumber true sn_BadNumber su_BadNumber ab_BadNumber co_BadNumber dd_BadNumber m0_BadNumber m1_BadNumber m2_BadNumber m3_BadNumber m5_BadNumber "ValueError.__new__")) (xr_BadNumber : PySem.HandSPX.refsVE bm_BadNumber = true) (xs_BadNumber : PySem.W.findIn K (.ref A_BadNumber) "__setattr__" = some (some (.builtin "object.__setattr__"))) (xb_BadNumber : PySem.W.subIn K (.ref A_BadNumber) (.type "BaseException") = some true) (xt_BadNumber : PySem.W.typeIn K (.ref A_BadNumber) = some (.type "type")) (xk_BadNumber : PySem.W.keepIn K (.ref A_BadNumber) = true) (xn_BadNumber : PySem.W.findIn K (.ref A_BadNumber) "value" = some none)
    (xi_BadNumber : PySem.W.findIn K (.ref A_BadNumber) "__init__" = some (some (.ref F_BadNumber))) (xf_BadNumber : PySem.W.typeIn K (.ref F_BadNumber) = some (.type "function")) (xm_BadNumber : K.lookup F_BadNumber = some ⟨oc_BadNumber, od_BadNumber, .func (PySem.W.fnOf "__init__" "BadNumber.__init__" (defArgs (membH (topH 15) 0)) (defBody (membH (topH 15) 0)) (defScope (membH (topH 15) 0)) .none kV_BadNumber dc_BadNumber pm_BadNumber an_BadNumber cd_BadNumber ct_BadNumber), sl_BadNumber⟩) (xo_BadNumber : PySem.W.codeIn K cd_BadNumber "BadNumber.__init__" = true) (xp_BadNumber : PySem.W.keepIn K (.ref F_BadNumber) = true)
    {nm_NoVersion q_NoVersion : Str} {N_NoVersion F_NoVersion : Addr} {bs_NoVersion bm_NoVersion su_NoVersion : List Value} {sn_NoVersion : List Str} {ab_NoVersion : Bool} {co_NoVersion : Option Bool} {dd_NoVersion od_NoVersion an_NoVersion : Option Addr} {m0_NoVersion m1_NoVersion m2_NoVersion m3_NoVersion m5_NoVersion : Option Value} {oc_NoVersion kV_NoVersion dc_NoVersion pm_NoVersion cd_NoVersion ct_NoVersion : Value} {sl_NoVersion : Array (Option Value)}
    (xl_NoVersion : K.lookup A_NoVersion = some (excClassObj nm_NoVersion q_NoVersion A_NoVersion N_NoVersion bs_NoVersion bm_NoVersion true sn_NoVersion su_NoVersion ab_NoVersion co_NoVersion dd_NoVersion m0_NoVersion m1_NoVersion m2_NoVersion m3_NoVersion m5_NoVersion "LookupError.__new__")) (xr_NoVersion : refsLE bm_NoVersion = true) (xs_NoVersion : PySem.W.findIn K (.ref A_NoVersion) "__setattr__" = some (some (.builtin "object.__setattr__"))) (xb_NoVersion : PySem.W.subIn K (.ref A_NoVersion) (.type "BaseException") = some true) (xt_NoVersion : PySem.W.typeIn K (.ref A_NoVersion) = some (.type "type")) (xk_NoVersion : PySem.W.keepIn K (.ref A_NoVersion) = true) (xn_NoVersion : PySem.W.findIn K (.ref A_NoVersion) "value" = some none)
    (xi_NoVersion : PySem.W.findIn K (.ref A_NoVersion) "__init__" = some (some (.ref F_NoVersion))) (xf_NoVersion : PySem.W.typeIn K (.ref F_NoVersion) = some (.type "function")) (xm_NoVersion : K.lookup F_NoVersion = some ⟨oc_NoVersion, od_NoVersion, .func (PySem.W.fnOf "__init__" "NoVersion.__init__" (defArgs (membH (topH 19) 0)) (defBody (membH (topH 19) 0)) (defScope (membH (topH 19) 0)) .none kV_NoVersion dc_NoVersion pm_NoVersion an_NoVersion cd_NoVersion ct_NoVersion), sl_NoVersion⟩) (xo_NoVersion : PySem.W.codeIn K cd_NoVersion "NoVersion.__init__" = true) (xp_NoVersion : PySem.W.keepIn K (.ref F_NoVersion) = true)
    {nm_TooLow q_TooLow : Str} {N_TooLow F_TooLow : Addr} {bs_TooLow bm_TooLow su_TooLow : List Value} {sn_TooLow : List Str} {ab_TooLow : Bool} {co_TooLow : Option Bool} {dd_TooLow od_TooLow an_TooLow : Option Addr} {m0_TooLow m1_TooLow m2_TooLow m3_TooLow m5_TooLow : Option Value} {oc_TooLow kV_TooLow dc_TooLow pm_TooLow cd_TooLow ct_TooLow : Value} {sl_TooLow : Array (Option Value)}
    (xl_TooLow : K.lookup A_TooLow = some (excClassObj nm_TooLow q_TooLow A_TooLow N_TooLow bs_TooLow bm_TooLow true sn_TooLow su_TooLow ab_TooLow co_TooLow dd_TooLow m0_TooLow m1_TooLow m2_TooLow m3_TooLow m5_TooLow "ValueError.__new__")) (xr_TooLow : PySem.HandSPX.refsVE bm_TooLow = true) (xs_TooLow : PySem.W.findIn K (.ref A_TooLow) "__setattr__" = some (some (.builtin "object.__setattr__"))) (xb_TooLow : PySem.W.subIn K (.ref A_TooLow) (.type "BaseException") = some true) (xt_TooLow : PySem.W.typeIn K (.ref A_TooLow) = some (.type "type")) (xk_TooLow : PySem.W.keepIn K (.ref A_TooLow) = true) (xn_TooLow : PySem.W.findIn K (.ref A_TooLow) "number" = some none)
    (xi_TooLow : PySem.W.findIn K (.ref A_TooLow) "__init__" = some (some (.ref F_TooLow))) (xf_TooLow : PySem.W.typeIn K (.ref F_TooLow) = some (.type "function")) (xm_TooLow : K.lookup F_TooLow = some ⟨oc_TooLow, od_TooLow, .func (PySem.W.fnOf "__init__" "TooLow.__init__" (defArgs (membH (topH 16) 0)) (defBody (membH (topH 16) 0)) (defScope (membH (topH 16) 0)) .none kV_TooLow dc_TooLow pm_TooLow an_TooLow cd_TooLow ct_TooLow), sl_TooLow⟩) (xo_TooLow : PySem.W.codeIn K cd_TooLow "TooLow.__init__" = true) (xp_TooLow : PySem.W.keepIn K (.ref F_TooLow) = true)
    (e1_TooLow : PySem.W.isClsIn K A_TooLow = true) (e2_TooLow : PySem.W.findIn K (.ref A_TooLow) "__getattribute__" = some (some (.builtin "BaseException.__getattribute__"))) (e3_TooLow : PySem.W.findIn K (.ref A_TooLow) "__getattr__" = some none) (e4_TooLow : PySem.W.subIn K (.ref A_TooLow) (.type "BaseException") = some true) (e5_TooLow : PySem.W.hasDictIn K A_TooLow = true) (e6_TooLow : PySem.W.findIn K (.ref A_TooLow) "__class__" = some (some (.builtin "object.__class__"))) (e7_TooLow : PySem.W.specialIn K (.builtin "object.__class__") "__get__" = some (some (.builtin "getset_descriptor.__get__"))) (e8_TooLow : PySem.W.takesIn K (.builtin "object.__class__") = some true) (e9_TooLow : PySem.W.mroIn K A_TooLow (.type "object") = some true)
    (nnumber_TooLow : PySem.W.findIn K (.ref A_TooLow) "number" = some none)
    (y1_TooLow : PySem.W.subIn K (.ref A_TooLow) (.type "BaseException") = some true) (y2_TooLow : PySem.W.isClsIn K A_TooLow = true) (y3_TooLow : PySem.W.typeIn K (.ref A_TooLow) = some (.type "type"))
    (sf_TooLow : PySem.W.subIn K (.ref A_TooLow) (.ref A_TooLow) = some true)
    (px0 : PySem.W.subIn K (.ref A_TooLow) (.ref A_TooLow) = some true)
    (u1_PromisedHoist : PySem.W.plainGet K A_PromisedHoist Str.empty = true)
    (u2_PromisedHoist : PySem.W.hasDictIn K A_PromisedHoist = true)
    (u3_PromisedHoist : PySem.W.plainOver K A_PromisedHoist = true)
    (u4_PromisedHoist : PySem.W.findIn K (.ref A_PromisedHoist) "__setattr__" = some (some (.builtin "object.__setattr__")))
    (u1_Hoist : PySem.W.plainGet K A_Hoist Str.empty = true)
    (u2_Hoist : PySem.W.hasDictIn K A_Hoist = true)
    (u3_Hoist : PySem.W.plainOver K A_Hoist = true)
    (u4_Hoist : PySem.W.findIn K (.ref A_Hoist) "__setattr__" = some (some (.builtin "object.__setattr__")))
    {cf_Hoist___init__ : Addr}
    (cr1_Hoist : PySem.W.readsIn K A_Hoist (.type "type") = true)
    (cr2_Hoist : PySem.W.specialIn K (.ref A_Hoist) "__getattribute__" = some (some (.builtin "type.__getattribute__")))
    (cfi_Hoist___init__ : PySem.W.findIn K (.ref A_Hoist) "__init__" = some (some (.ref cf_Hoist___init__)))
    (cfv_Hoist___init__ : PySem.W.findCls K (.ref A_Hoist) (.type "type") "__init__" = some (.val (.ref cf_Hoist___init__)))
    {cf_Promise___init__ : Addr}
    (cr1_Promise : PySem.W.readsIn K A_Promise (.type "type") = true)
    (cr2_Promise : PySem.W.specialIn K (.ref A_Promise) "__getattribute__" = some (some (.builtin "type.__getattribute__")))
    (cfi_Promise___init__ : PySem.W.findIn K (.ref A_Promise) "__init__" = some (some (.ref cf_Promise___init__)))
    (cfv_Promise___init__ : PySem.W.findCls K (.ref A_Promise) (.type "type") "__init__" = some (.val (.ref cf_Promise___init__)))
    {eqf_ : Addr}
    (eq1_Hoist : PySem.W.findIn K (.ref A_Hoist) "__eq__" = some (some (.ref eqf_)))
    (eq1_PromisedHoist : PySem.W.findIn K (.ref A_PromisedHoist) "__eq__" = some (some (.ref eqf_)))
    (kp_PromisedHoist_Hoist : PySem.W.subIn K (.ref A_PromisedHoist) (.ref A_Hoist) = some true)
    (kp_Hoist_PromisedHoist : PySem.W.subIn K (.ref A_Hoist) (.ref A_PromisedHoist) = some false)
    {pa_Promise_least pg_Promise_least : Addr} {pr_Promise_least : List Value} {pod_Promise_least pan_Promise_least : Option Addr} {psl_Promise_least : Array (Option Value)} {poc_Promise_least pkV_Promise_least pdc_Promise_least ppm_Promise_least pcd_Promise_least pct_Promise_least : Value}
    (q1_Promise_least_PromisedHoist : PySem.W.findIn K (.ref A_PromisedHoist) "least" = some (some (.ref pa_Promise_least)))
    (q2_Promise_least : PySem.W.specialIn K (.ref pa_Promise_least) "__get__" = some (some (.builtin "property.__get__")))
    (q3_Promise_least : PySem.W.takesIn K (.ref pa_Promise_least) = some true)
    (q4_Promise_least : PySem.W.recIn K pa_Promise_least "property" = some (.ref pg_Promise_least :: pr_Promise_least))
    (q5_Promise_least : K.lookup pg_Promise_least = some ⟨poc_Promise_least, pod_Promise_least, .func (PySem.W.fnOf "least" "Promise.least" (defArgs (membH (topH 28) 1)) (defBody (membH (topH 28) 1)) (defScope (membH (topH 28) 1)) .none pkV_Promise_least pdc_Promise_least ppm_Promise_least pan_Promise_least pcd_Promise_least pct_Promise_least), psl_Promise_least⟩)
    (q6_Promise_least : PySem.W.codeIn K pcd_Promise_least "Promise.least" = true)
    (un_PromisedHoist__least : PySem.W.findIn K (.ref A_PromisedHoist) "_least" = some none)
    (u5_Hoist : PySem.W.findIn K (.ref A_Hoist) "__class__" = some (some (.builtin "object.__class__")))
    (u6_ : PySem.W.specialIn K (.builtin "object.__class__") "__get__" = some (some (.builtin "getset_descriptor.__get__")))
    (u7_ : PySem.W.takesIn K (.builtin "object.__class__") = some true)
    (u8_Hoist : PySem.W.mroIn K A_Hoist (.type "object") = some true)
    (u9_Hoist : PySem.W.isClsIn K A_Hoist = true)
    (u10_Hoist : PySem.W.typeIn K (.ref A_Hoist) = some (.type "type"))
    (u5_PromisedHoist : PySem.W.findIn K (.ref A_PromisedHoist) "__class__" = some (some (.builtin "object.__class__")))
    (u8_PromisedHoist : PySem.W.mroIn K A_PromisedHoist (.type "object") = some true)
    (u9_PromisedHoist : PySem.W.isClsIn K A_PromisedHoist = true)
    (u10_PromisedHoist : PySem.W.typeIn K (.ref A_PromisedHoist) = some (.type "type"))
    (ks_PromisedHoist : PySem.W.subIn K (.ref A_PromisedHoist) (.ref A_PromisedHoist) = some true)
    (ks_Hoist : PySem.W.subIn K (.ref A_Hoist) (.ref A_Hoist) = some true)
    (um_Hoist : PySem.W.makesIn K A_Hoist = true)
    (uk_Hoist : PySem.W.keepIn K (.ref A_Hoist) = true)
    (um_PromisedHoist : PySem.W.makesIn K A_PromisedHoist = true)
    (uk_PromisedHoist : PySem.W.keepIn K (.ref A_PromisedHoist) = true)
    (un_Hoist__edits : PySem.W.findIn K (.ref A_Hoist) "_edits" = some none)
    (un_PromisedHoist__edits : PySem.W.findIn K (.ref A_PromisedHoist) "_edits" = some none)
    (un_Hoist__towers : PySem.W.findIn K (.ref A_Hoist) "_towers" = some none)
    (un_PromisedHoist__towers : PySem.W.findIn K (.ref A_PromisedHoist) "_towers" = some none)
    (un_Hoist__watched : PySem.W.findIn K (.ref A_Hoist) "_watched" = some none)
    (un_PromisedHoist__watched : PySem.W.findIn K (.ref A_PromisedHoist) "_watched" = some none)
    (a22_Hoist : PySem.W.findIn K (.ref A_Hoist) "__init__" = some (some (.ref f22)))
    (a23_Hoist : PySem.W.findIn K (.ref A_Hoist) "come" = some (some (.ref f23))) (a23_PromisedHoist : PySem.W.findIn K (.ref A_PromisedHoist) "come" = some (some (.ref f23)))
    (a24_Hoist : PySem.W.findIn K (.ref A_Hoist) "leave" = some (some (.ref f24))) (a24_PromisedHoist : PySem.W.findIn K (.ref A_PromisedHoist) "leave" = some (some (.ref f24)))
    (a25_Hoist : PySem.W.findIn K (.ref A_Hoist) "weigh" = some (some (.ref f25))) (a25_PromisedHoist : PySem.W.findIn K (.ref A_PromisedHoist) "weigh" = some (some (.ref f25)))
    (a26_Hoist : PySem.W.findIn K (.ref A_Hoist) "loosen" = some (some (.ref f26))) (a26_PromisedHoist : PySem.W.findIn K (.ref A_PromisedHoist) "loosen" = some (some (.ref f26)))
    (a27_Hoist : PySem.W.findIn K (.ref A_Hoist) "_check_idle" = some (some (.ref f27))) (a27_PromisedHoist : PySem.W.findIn K (.ref A_PromisedHoist) "_check_idle" = some (some (.ref f27)))
    (a28_Hoist : PySem.W.findIn K (.ref A_Hoist) "_check_edit" = some (some (.ref f28))) (a28_PromisedHoist : PySem.W.findIn K (.ref A_PromisedHoist) "_check_edit" = some (some (.ref f28)))
    (a29_Hoist : PySem.W.findIn K (.ref A_Hoist) "_check_person" = some (some (.ref f29))) (a29_PromisedHoist : PySem.W.findIn K (.ref A_PromisedHoist) "_check_person" = some (some (.ref f29)))
    (a30_Hoist : PySem.W.findIn K (.ref A_Hoist) "_check_tower" = some (some (.ref f30)))
    (a31_Hoist : PySem.W.findIn K (.ref A_Hoist) "_keep" = some (some (.ref f31))) (a31_PromisedHoist : PySem.W.findIn K (.ref A_PromisedHoist) "_keep" = some (some (.ref f31)))
    (a32_Promise : PySem.W.findIn K (.ref A_Promise) "__init__" = some (some (.ref f32)))
    (a33_PromisedHoist : PySem.W.findIn K (.ref A_PromisedHoist) "beyond" = some (some (.ref f33)))
    (a34_PromisedHoist : PySem.W.findIn K (.ref A_PromisedHoist) "__init__" = some (some (.ref f34)))
    (a35_PromisedHoist : PySem.W.findIn K (.ref A_PromisedHoist) "_check_tower" = some (some (.ref f35)))
    (a36_Hoist : PySem.W.findIn K (.ref A_Hoist) "undo" = some (some (.ref f36))) (a36_PromisedHoist : PySem.W.findIn K (.ref A_PromisedHoist) "undo" = some (some (.ref f36)))
    (a37_Hoist : PySem.W.findIn K (.ref A_Hoist) "edits" = some (some (.ref f37))) (a37_PromisedHoist : PySem.W.findIn K (.ref A_PromisedHoist) "edits" = some (some (.ref f37)))
    (a38_Hoist : PySem.W.findIn K (.ref A_Hoist) "__len__" = some (some (.ref f38))) (a38_PromisedHoist : PySem.W.findIn K (.ref A_PromisedHoist) "__len__" = some (some (.ref f38)))
    (a39_Hoist : PySem.W.findIn K (.ref A_Hoist) "__str__" = some (some (.ref f39))) (a39_PromisedHoist : PySem.W.findIn K (.ref A_PromisedHoist) "__str__" = some (some (.ref f39)))
    (a40_Hoist : PySem.W.findIn K (.ref A_Hoist) "__eq__" = some (some (.ref f40))) (a40_PromisedHoist : PySem.W.findIn K (.ref A_PromisedHoist) "__eq__" = some (some (.ref f40)))
    (a41_Hoist : PySem.W.findIn K (.ref A_Hoist) "tower" = some (some (.ref pa41))) (a41_PromisedHoist : PySem.W.findIn K (.ref A_PromisedHoist) "tower" = some (some (.ref pa41))) (p141 : PySem.W.specialIn K (.ref pa41) "__get__" = some (some (.builtin "property.__get__"))) (p241 : PySem.W.takesIn K (.ref pa41) = some true) (p341 : PySem.W.recIn K pa41 "property" = some (.ref f41 :: pr41)) (l41 : K.lookup f41 = some ⟨oc41, od41, .func (PySem.W.fnOf "tower" "Hoist.tower" (defArgs (membH (topH 42) 2)) (defBody (membH (topH 42) 2)) (defScope (membH (topH 42) 2)) .none kV41 dc41 pm41 an41 cd41 ct41), sl41⟩) (c41 : PySem.W.codeIn K cd41 "Hoist.tower" = true) (k41 : PySem.W.keepIn K (.ref f41) = true)
    (a42_Hoist : PySem.W.findIn K (.ref A_Hoist) "reach" = some (some (.ref pa42))) (a42_PromisedHoist : PySem.W.findIn K (.ref A_PromisedHoist) "reach" = some (some (.ref pa42))) (p142 : PySem.W.specialIn K (.ref pa42) "__get__" = some (some (.builtin "property.__get__"))) (p242 : PySem.W.takesIn K (.ref pa42) = some true) (p342 : PySem.W.recIn K pa42 "property" = some (.ref f42 :: pr42)) (l42 : K.lookup f42 = some ⟨oc42, od42, .func (PySem.W.fnOf "reach" "Hoist.reach" (defArgs (membH (topH 42) 3)) (defBody (membH (topH 42) 3)) (defScope (membH (topH 42) 3)) .none kV42 dc42 pm42 an42 cd42 ct42), sl42⟩) (c42 : PySem.W.codeIn K cd42 "Hoist.reach" = true) (k42 : PySem.W.keepIn K (.ref f42) = true)
    (a43_Hoist : PySem.W.findIn K (.ref A_Hoist) "is_free" = some (some (.ref pa43))) (a43_PromisedHoist : PySem.W.findIn K (.ref A_PromisedHoist) "is_free" = some (some (.ref pa43))) (p143 : PySem.W.specialIn K (.ref pa43) "__get__" = some (some (.builtin "property.__get__"))) (p243 : PySem.W.takesIn K (.ref pa43) = some true) (p343 : PySem.W.recIn K pa43 "property" = some (.ref f43 :: pr43)) (l43 : K.lookup f43 = some ⟨oc43, od43, .func (PySem.W.fnOf "is_free" "Hoist.is_free" (defArgs (membH (topH 42) 4)) (defBody (membH (topH 42) 4)) (defScope (membH (topH 42) 4)) .none kV43 dc43 pm43 an43 cd43 ct43), sl43⟩) (c43 : PySem.W.codeIn K cd43 "Hoist.is_free" = true) (k43 : PySem.W.keepIn K (.ref f43) = true)
    (a44_Hoist : PySem.W.findIn K (.ref A_Hoist) "state" = some (some (.ref f44))) (a44_PromisedHoist : PySem.W.findIn K (.ref A_PromisedHoist) "state" = some (some (.ref f44)))
    (a45_Hoist : PySem.W.findIn K (.ref A_Hoist) "walk" = some (some (.ref f45))) (a45_PromisedHoist : PySem.W.findIn K (.ref A_PromisedHoist) "walk" = some (some (.ref f45))), ∃ fd : FuncData, (∀ (s : Shared) (u : Value), BindsTo s fd ⟨[u], []⟩ [("script", u)]) ∧ ∀ base : Heap, K.In base → base.Ns mainGlobals mg → (∀ p ∈ ([(cc7, 321)] : List (Addr × Addr)), LamX.TabB base mg p.1 p.2) → FnG P w K mg base CX0 14 fa fd ["script"] (sp K) )
    (hs : ∀ (CC : Addr) (K : PySem.W.Frag) (hp : Hp) (a : Addr) (ns : List Int), ns.length ≤ 63 → (∀ p ∈ ([(CC, 321)] : List (Addr × Addr)), hp p.2 = some (.tbl #[])) → (∀ p ∈ ([(CC, 321)] : List (Addr × Addr)), p.2 ≠ a) → SqL K hp a (ns.map V.int) → sp K [.ref a] hp (fun v _ => v = .bl true) fun _ _ _ => False) : PySem.Challenge.rw_basketrope_k52_whole_promised_and_plain.Holds := by
  w_on; o_law; k_head; (case hw => w_witness2)
end K52

/-! GF: a for loop in a generator's body. -/
namespace PySem
open Sem (wp)
section
variable {prog : Program} {w : World} {A : Around} {R : GenEnd} {Y : Protocol} {n : Nat} {s₀ : Shared} {fs : List Frame} {s : Shared} {env : Env}
/-- an exception leaves a turn -/
def turnRaise (env : Env) (x : Value) : Sem Fin := (do noteFrame x env; theTreesLotGoes x : Sem Unit).wrap (fun _ => .raise x) .raise id id
def turnEnd (target : Expr) (it : Value) (body orelse : List Stmt) (env : Env) (f : Flow) : Sem Fin := match f with
  | .next | .cont => .pure (.again (.forLoop target it body orelse env))
  | .brk => .pure (.done .next)
  | .ret v => .pure (.done (.ret v))
theorem seg_For {K : Flow → Sem Fin} {H : Value → Sem Fin} {gd : Bool → Bool} {lv : List Value → List Value} {c : Code} {target iter : Expr} {body orelse : List Stmt} {pos : Pos}
    (h : wpAny (model prog w) (A.over c fs) (eval iter env) (fun x s₁ => wpAny (model prog w) (A.over c fs) (pyIter x) (fun it s₂ =>
      ∀ p l, Seg (model prog w) A R Y n s₀ (.forLoop target it body orelse env) ((model prog w).den (.forLoop target it body orelse env))
      (.ret (fun r => ((match r with | .ok f => (.pure f : Sem Flow) | .error e => .raise e).onRaise fun (x : Value) => do
        if (← field x 1) == Value.none then unsupported "frame.own-activation:exception-without-traceback"
        setFlight x env.frame).wrap K H gd lv) none (gd false) l c p [] :: fs) s₂) (fun x s' => Seg (model prog w) A R Y n s₀ c (H x) fs s') s₁) (fun x s' => Seg (model prog w) A R Y n s₀ c (H x) fs s') s)
    (hs : ∀ x, foldedSetIterable iter env x = pure x := by intro _; rfl) :
    Seg (model prog w) A R Y n s₀ c ((exec (.For target iter body orelse pos) env).wrap K H gd lv) fs s := by
  rw [exec_For]
  refine seg_bind_wrap (wpAny_standAt ?_)
  refine seg_bind_wrap (wpAny_mono h (fun x s₁ h₁ => ?_) fun _ _ h' => h')
  rw [hs x]
  refine seg_bind_wrap (wpAny_pure ?_)
  refine seg_bind_wrap (wpAny_standAt ?_)
  refine seg_bind_wrap (wpAny_holding (wpAny_mono h₁ (fun it s₂ h₂ => ?_) fun _ _ h' => h'))
  exact seg_call fun p => h₂ p _
theorem seg_forLoop {target : Expr} {it : Value} {body orelse : List Stmt}
    (h : wpAny (model prog w) (A.over (.forLoop target it body orelse env) fs) (pyNext it) (fun r s₁ => match r with
        | none => Seg (model prog w) A R Y n s₀ (.forLoop target it body orelse env) (.pure (.again (.block orelse env))) fs s₁
        | some v => wpAny (model prog w) (A.over (.forLoop target it body orelse env) fs) (letOwnedTupleGo target it v) (fun _ s₁' =>
            wpAny (model prog w) (A.over (.forLoop target it body orelse env) fs) (assign target env v) (fun _ s₂ =>
              Seg (model prog w) A R Y n s₀ (.forLoop target it body orelse env) ((execs body env).wrap (turnEnd target it body orelse env) (turnRaise env) id id) fs s₂)
              (fun x s' => Seg (model prog w) A R Y n s₀ (.forLoop target it body orelse env) (turnRaise env x) fs s') s₁')
            (fun x s' => Seg (model prog w) A R Y n s₀ (.forLoop target it body orelse env) (turnRaise env x) fs s') s₁)
      (fun x s' => Seg (model prog w) A R Y n s₀ (.forLoop target it body orelse env) (turnRaise env x) fs s') s) :
    Seg (model prog w) A R Y n s₀ (.forLoop target it body orelse env) ((model prog w).den (.forLoop target it body orelse env)) fs s := by
  have tr : ∀ x, (((do noteFrame x env; theTreesLotGoes x : Sem Unit)).bind fun _ => (.raise x : Sem Fin)) = turnRaise env x := fun x => by rw [Sem.bind_eq_wrap]; rfl
  show Seg _ A R Y n s₀ _ ((forTurn target it body orelse env).onRaise (fun x => do noteFrame x env; theTreesLotGoes x)) fs s
  unfold forTurn
  rw [Sem.onRaise_eq_wrap]
  refine seg_bind_wrap (wpAny_standAt ?_)
  refine seg_bind_wrap (wpAny_onRaise (wpAny_mono h (fun r s₁ h₁ => ?_) fun x s' hx => wpAny_standAt ?_))
  · cases r with
    | none => exact h₁
    | some v =>
      refine seg_bind_wrap (wpAny_mono h₁ (fun _ s₁' h₁' => ?_) fun x s' hx => ?_)
      · refine seg_bind_wrap (wpAny_mono h₁' (fun _ s₂ h₂ => ?_) fun x s' hx => ?_)
        · rw [Sem.bind_eq_wrap', Sem.wrap_wrap]
          refine (congrArg (fun t => Seg (model prog w) A R Y n s₀ (.forLoop target it body orelse env) t fs s₂) (Sem.wrap_congr (execs body env) _ _ (K' := turnEnd target it body orelse env) (H' := turnRaise env) (fun f => ?_) (fun e => ?_))).mpr h₂
          · cases f <;> rfl
          · exact tr e
        · have := tr x
          exact this ▸ hx
      · have := tr x
        exact this ▸ hx
  · have := tr x
    exact this ▸ hx
end
end PySem

/-! GG: for in a generator's body, by predicate transformers. -/
namespace L2
open PySem PySem.Spec PyProof.Rows GenW
section
variable {X : Cx} {st : Stmt} {rest : List Stmt} {tg : Expr}
def tGFor (wi : TI) (g : TG) (tb : TGn) : TGn := fun D ys σ H => wi σ H fun J H1 => ∃ W : Nat → Nat → List V → St → Hp → Prop, (∃ m, W 0 m ys σ H1) ∧ ∀ i m ys σ H, W i m ys σ H →
  (J.stop i H ∧ D.nx ys σ H) ∨ (J.go i H ∧ ∃ N : List V → St → Hp → Prop, (∀ ys' σ' H', N ys' σ' H' → ∃ m', m' < m ∧ W (i + 1) m' ys' σ' H') ∧ ∀ x H', J.yld i H x H' → g x σ H' fun σ2 H2 => tb { D with nx := N, ct := N, bk := D.nx } ys σ2 H2)
theorem fpOk_pins {pins pins' : List (Addr × Obj)} {H H' : Hp} {b : Addr} (h : FpOk X pins H b) (hp : ∀ p ∈ pins', ∃ q ∈ pins, q.1 = p.1) (hn : H' b = none) : FpOk X pins' H' b := by
  obtain ⟨_, h1, h2, h3, h4, h5⟩ := h
  refine ⟨hn, h1, h2, h3, h4, fun p q => ?_⟩
  rcases List.mem_append.mp q with q | q
  · exact h5 p (List.mem_append_left _ q)
  · obtain ⟨p', hp', e⟩ := hp p q
    exact e ▸ h5 p' (List.mem_append_right _ hp')
theorem gs_for {iter : Expr} {body : List Stmt} {wi : TI} {g : TG} {tb : TGn} {pos : Pos} (hp : PassesOwn (model X.prog X.w) X.A X.env X.xe) (hc : X.calm = true) (hi : PI X tg iter wi) (hg : PG X tg g) (hb : GSs X body tb)
    (hs : ∀ x, foldedSetIterable iter X.env x = pure x := by intro _; rfl) : GS X (.For tg iter body [] pos) (tGFor wi g tb) := by
  refine ⟨fun A S ip R n ys s₀ c fs K J gd lv s σ H D gc hn k hI ht => ?_⟩
  obtain ⟨acc0, cc0, r0, I0⟩ := hI
  refine seg_For ?_ hs
  rw [gc.over]
  refine wpAny_mono (hi.run _ s σ H _ I0 ht) (fun v s1 h1 => wpAny_mono h1 (fun itv s2 h2 => ?_) fun x s' hx => k.exc n s₀ x s' hx) fun x s' hx => k.exc n s₀ x s' hx
  obtain ⟨it, fp, tn, JJ, H2, e, I2, T, st2, f2, W, ⟨m0, w0⟩, turn⟩ := h2
  subst e
  intro p l
  have f2' : ∀ b ∈ fp, FpOk X ((S, lstObj acc0 cc0) :: ip) H2 b := f2
  have hSf : ∀ b ∈ fp, b ≠ S := fun b hb e => by
    obtain ⟨_, _, _, _, _, h5⟩ := f2 b hb
    exact h5 (S, lstObj acc0 cc0) (List.mem_append_right _ List.mem_cons_self) e.symm
  have stat : ∀ {H' : Hp} {acc : Array Value} {cc : Nat}, (∀ b ∈ fp, H' b = none) → ∀ b ∈ fp, FpOk X ((S, lstObj acc cc) :: ip) H' b := fun hn b hb =>
    fpOk_pins (f2 b hb) (fun p q => (List.mem_cons.mp q).elim (fun z => ⟨_, List.mem_cons_self, by rw [z]⟩) fun z => ⟨p, List.mem_cons_of_mem _ z, rfl⟩) (hn b hb)
  have gl := fun (kk : Result → Sem PySem.Fin) (ip' : List (Addr × Obj)) (hip : ∀ q ∈ ip', q.1 ≠ S) => gc_loop (k := kk) (c' := .forLoop tg (.ref it) body [] X.env) (l := l) (kp := []) (p := p) (ip := ip') { gc with ip := hip } rfl rfl
  have loop : ∀ (m i n : Nat) (ys : List V) (s₀ s : Shared) (σ : St) (H : Hp), n + ys.length = sizeLine → W i m ys σ H → GI X S ip ys σ H s → tn i s.heap → (∀ b ∈ fp, H b = none) →
      Seg (model X.prog X.w) A R (GY X S) n s₀ (.forLoop tg (.ref it) body [] X.env) ((model X.prog X.w).den (.forLoop tg (.ref it) body [] X.env))
        (.ret (fun r => ((match r with | .ok f => (.pure f : Sem Flow) | .error e => .raise e).onRaise (cameBack X.env)).wrap K J gd lv) none (gd false) l c p [] :: fs) s := by
    intro m
    induction m using Nat.strongRecOn with
    | ind m ih =>
      intro i n ys s₀ s3 σ3 H3 hn w3 hI st3 fr3
      have ee : ∀ (n : Nat) (s₀ : Shared) (x : Value) (s' : Shared), X.xe x s' → Seg (model X.prog X.w) A R (GY X S) n s₀ (.forLoop tg (.ref it) body [] X.env) (turnRaise X.env x)
          (.ret (fun r => ((match r with | .ok f => (.pure f : Sem Flow) | .error e => .raise e).onRaise (cameBack X.env)).wrap K J gd lv) none (gd false) l c p [] :: fs) s' := fun n s₀ x s' hx => by
        refine seg_wrap ?_
        rw [(gl _ ip gc.ip).over]
        refine wpAny_bind (wpAny_mono (hp x s' hx) (fun _ s'' hcb => wpAny_theTreesLotGoes ?_) fun y s'' hcb => ?_)
        · exact seg_leaf (.error x) (seg_cameBack gc k hcb)
        · exact seg_leaf (.error y) (seg_cameBack gc k hcb)
      refine seg_forLoop ?_
      rw [(gl _ ip gc.ip).over]
      obtain ⟨acc, cc, r, I3⟩ := hI
      rcases turn i m ys σ3 H3 w3 with ⟨stop, qn⟩ | ⟨go, N, hN, step⟩
      · refine wpAny_mono (T.done X rfl rfl rfl hc i _ s3 σ3 H3 X.xe I3 (stat fr3) st3 stop) (fun rr s4 ⟨hr, I4⟩ => ?_) fun x s' hx => ee n s₀ x s' hx
        subst hr
        refine seg_again rfl ?_
        exact seg_leaf (.ok .next) (k.ok n ys s₀ s4 .next hn ⟨σ3, H3, ⟨acc, cc, r, I4⟩, qn⟩)
      · refine wpAny_mono (T.item X rfl rfl rfl hc i _ s3 σ3 H3 X.xe I3 (stat fr3) st3 go) (fun rr s4 ⟨u, hr, h4⟩ => ?_) fun x s' hx => ee n s₀ x s' hx
        subst hr
        refine wpAny_mono h4 (fun _ s5 ⟨x, H5, I5, r5, y5, st5, fr5⟩ => ?_) fun x s' hx => ee n s₀ x s' hx
        have I5' := I5.pinned (stat fr5) (T.obj _ _ st5)
        refine wpAny_mono (hg.run _ s5 σ3 H5 x u _ I5' r5 (step x H5 y5)) (fun _ s6 ⟨σ6, H6, I6, q6⟩ => ?_) fun x s' hx => ee n s₀ x s' hx
        have hip' : ∀ q ∈ ip ++ pinsAt fp s5.heap, q.1 ≠ S := fun q hq => (List.mem_append.mp hq).elim (gc.ip q) fun z => hSf _ (of_pinsAt z).1
        have unp : ∀ {ys' : List V} {σ7 : St} {H7 : Hp} {s7 : Shared}, GI X S (ip ++ pinsAt fp s5.heap) ys' σ7 H7 s7 → GI X S ip ys' σ7 H7 s7 := fun ⟨a, b, z, I⟩ => ⟨a, b, z, Inv.unpinned (pins := (S, lstObj a b) :: ip) (pl := pinsAt fp s5.heap) I⟩
        have again : ∀ (n' : Nat) (s₀' : Shared) {ys' : List V} {σ7 : St} {H7 : Hp} {s7 : Shared}, n' + ys'.length = sizeLine → GI X S (ip ++ pinsAt fp s5.heap) ys' σ7 H7 s7 → N ys' σ7 H7 →
            Seg (model X.prog X.w) A R (GY X S) n' s₀' (.forLoop tg (.ref it) body [] X.env) (.pure (.again (.forLoop tg (.ref it) body [] X.env)))
              (.ret (fun r => ((match r with | .ok f => (.pure f : Sem Flow) | .error e => .raise e).onRaise (cameBack X.env)).wrap K J gd lv) none (gd false) l c p [] :: fs) s7 := fun n' s₀' {ys' σ7 H7 s7} hn' I7 n7 => by
          obtain ⟨m', hm, w7⟩ := hN ys' σ7 H7 n7
          have I7u := unp I7
          obtain ⟨a7, c7, r7, J7⟩ := I7
          refine seg_again rfl (ih m' hm (i + 1) n' ys' s₀' s7 σ7 H7 hn' w7 I7u (T.keep _ _ _ st5 fun b hb o e => (J7.pin (b, o) (List.mem_append_right _ (List.mem_cons_of_mem _ (List.mem_append_right _ (mem_pinsAt hb e))))).1) fun b hb => ?_)
          obtain ⟨o, e, d⟩ := T.obj _ _ st5 b hb
          exact (J7.pin (b, o) (List.mem_append_right _ (List.mem_cons_of_mem _ (List.mem_append_right _ (mem_pinsAt hb e))))).2.1
        refine hb.run A S (ip ++ pinsAt fp s5.heap) R n ys s₀ _ _ _ _ id id s6 σ6 H6 { D with nx := N, ct := N, bk := D.nx } (gl _ _ hip') hn ⟨fun n' ys' s₀' s7 f hn' q7 => ?_, fun n' s₀' x s7 hx => ee n' s₀' x s7 hx⟩ ⟨acc, cc, r, I6⟩ q6
        cases f with
        | next => obtain ⟨σ7, H7, I7, n7⟩ := q7; exact again n' s₀' hn' I7 n7
        | cont => obtain ⟨σ7, H7, I7, n7⟩ := q7; exact again n' s₀' hn' I7 n7
        | brk =>
          obtain ⟨σ7, H7, I7, q7⟩ := q7
          exact seg_leaf (.ok .next) (k.ok n' ys' s₀' s7 .next hn' ⟨σ7, H7, unp I7, q7⟩)
        | ret v =>
          obtain ⟨x7, σ7, H7, I7, r7, q7⟩ := q7
          exact seg_leaf (.ok (.ret v)) (k.ok n' ys' s₀' s7 (.ret v) hn' ⟨x7, σ7, H7, unp I7, r7, q7⟩)
  exact loop m0 0 n ys s₀ s2 σ H2 hn w0 ⟨acc0, cc0, r0, I2⟩ st2 fun b hb => (f2 b hb).1
end
end L2

/-! GH: generators that are woken where no repr runs. -/
namespace DL
open PySem PySem.Spec PyProof.Rows L2 GenW
/-- what an end of its run and a turn want, from any such waking on -/
def WakesG (P : Program) (w : World) (k : Nat) (fs : List Env) (hp : Hp) (s : Shared) (q : List V → Hp → Prop) (e : XK) (a : Addr) (g : Nat) (c : Code) (t : Shared) : Prop :=
  ∀ (A : Around) (S : Addr) (t2 : Shared), Room k A → A.guards = some [] → A.frames = some fs → t.heap.objs.size ≤ S → (∀ b o, t.heap.get? b = some o → t2.heap.get? b = some o) → (∃ n, t2.heap.get? S = some (lstObj #[] n)) → t2.os = s.os → AllBare t2.gens →
    Seg (model P w) A (REnd P w fs hp s [] S a g q e) (YItem s S a g) sizeLine t2 c ((model P w).den c) [] t2
/-- a generator that has not begun -/
structure Asleep (P : Program) (w : World) (k : Nat) (fs : List Env) (hp : Hp) (s : Shared) (q : List V → Hp → Prop) (e : XK) (a : Addr) (g : Nat) (c : Code) (t : Shared) : Prop where
  young : s.heap.objs.size ≤ a
  here : a < t.heap.objs.size
  gen : t.heap.IsGen a g
  fresh : t.gens[g]? = some (.fresh c)
  os : t.os = s.os
  bare : AllBare t.gens
  lim : t.heap.NoLimit
  kept : ∀ b o, s.heap.get? b = some o → t.heap.get? b = some o
  wakes : WakesG P w k fs hp s q e a g c t
def MadeG (P : Program) (w : World) (k : Nat) (fs : List Env) (hp : Hp) (s : Shared) (q : List V → Hp → Prop) (e : XK) (u : Value) (t : Shared) : Prop := ∃ a g c, u = .ref a ∧ Asleep P w k fs hp s q e a g c t
/-- a generator def's promise -/
structure GFnG (P : Program) (w : World) (K : PySem.W.Frag) (mg : Str → Option Value) (base : Heap) (k : Nat) (f : Addr) (fd : FuncData) (ps : List Str) (sp : SpG) : Prop where
  arity : ∀ as hp q e, sp as hp q e → as.length = ps.length
  goes : ∀ (A : Around) (fs : List Env) (s : Shared) (hp : Hp) (ar : Args) (us : List Value) (as : List V) (q : List V → Hp → Prop) (e : XK),
    Room k A → Env0 P w K mg base A fs s hp → BindsTo s fd ar (ps.zip us) → Vals as us → sp as hp q e →
    codeAny (model P w) A (.call (.ref f) ar) (fun r t => match r with | .ok (.ret u) => MadeG P w k fs hp s q e u t | _ => False) s
section
variable {P : Program} {w : World} {K : PySem.W.Frag} {mg : Str → Option Value} {base : Heap} {k : Nat} {N ps : List Str} {qual : Str} {sc : Scope} {f : Addr} {cd : Value} {body : List Stmt} {fs : List Env} {s t1 : Shared} {hp : Hp} {q : List V → Hp → Prop} {e : XK} {us : List Value} {as : List V}
/-- the generator's own object -/
structure GenObj (o : Obj) (g : Nat) : Prop where
  fields : ∃ nm qn, o.data = .fields #[.int g 0, nm, qn]
  cls : o.cls = .type "generator"
  slots : o.slots = #[]
theorem GenObj.is {o : Obj} {g : Nat} {a : Addr} {h : Heap} (G : GenObj o g) (z : h.get? a = some o) : h.IsGen a g := by
  obtain ⟨nm, qn, d⟩ := G.fields
  exact ⟨o, nm, qn, z, G.cls, d, G.slots⟩
theorem GenObj.noCell {o : Obj} {g : Nat} (G : GenObj o g) : ∀ v, o.data ≠ .cell v := fun v z => by
  obtain ⟨nm, qn, d⟩ := G.fields
  rw [d] at z
  exact nomatch z
/-- the run of the body, from the waking on -/
theorem wakes_body {o : Obj} (G : GenObj o t1.gens.size) {t : Shared} (ht : t.heap = t1.heap.push o) (pushed : (t1.heap.push o).get? t1.heap.objs.size = some o) (scp : GScope N ps sc) (rv : Vals as us) (la : as.length = ps.length)
    (en : ∀ A : Around, A.frames = some fs → Env0 P w K mg base A fs s hp)
    (x1 : InCallC s s.heap.objs.size (bindL (envOfC qual sc s.heap.objs.size f cd).kindOf (ps.zip us) fun _ => none) (cellsFrom (s.heap.objs.size + 1) sc.names []) (bindC (envOfC qual sc s.heap.objs.size f cd).kindOf (ps.zip us) fun _ => none) t1)
    (b : ∀ (A : Around) (pn : List (Addr × Obj)), Room k (A.deeper (envOfC qual sc s.heap.objs.size f cd)) → A.guards = some [] →
      ∃ T, GSs (gcxOf P w K mg base N qual sc f cd A fs s hp e pn) body T ∧ T { nx := fun ys _ hp' => q ys hp', rt := fun ys v hp' => v = .non ∧ q ys hp' } [] (start N as) hp) :
    WakesG P w (k + 1) fs hp s q e t1.heap.objs.size t1.gens.size (.func body (envOfC qual sc s.heap.objs.size f cd)) t := by
  intro A S t2 room gd hfr hS hk2 ⟨n0, hS0⟩ hos hba
  rw [ht] at hS hk2
  obtain ⟨h1, tk, es1, hk1⟩ := x1.done
  have old1 : t1.os = s.os := by rw [es1]
  have lt1 : s.heap.objs.size < t1.heap.objs.size := x1.toInCall.ns.lt
  obtain ⟨T, hT, hq⟩ := b A [(t1.heap.objs.size, o)] (room.deeper _) gd
  let X0 : Cx := gcxOf P w K mg base N qual sc f cd A fs s hp e []
  let X1 : Cx := gcxOf P w K mg base N qual sc f cd A fs s hp e [(t1.heap.objs.size, o)]
  have J1 : Inv X0 [] (start N as) hp t1 := inv_startG scp room.hd (en A hfr) la rv x1
  have kp : ∀ b z, t1.heap.get? b = some z → t2.heap.get? b = some z := fun b z y => hk2 b z (Heap.get?_push_of_some _ y)
  have J2 : Inv X0 [] (start N as) hp t2 := J1.call' (ch := []) (hos.trans old1.symm) (Un.kept kp) (J1.hok.kept kp) hba fun _ z => absurd z (List.not_mem_nil)
  have below : t1.heap.objs.size < S := by
    have z := hS
    rw [Heap.size_push] at z
    exact z
  have apart : ∀ c, t1.heap.objs.size ≤ c → hp c = none ∧ c ≠ s.heap.objs.size ∧ c ∉ frs fs ∧ s.heap.objs.size ≤ c ∧ ∀ y d, (cellsFrom (s.heap.objs.size + 1) sc.names []).lookup y = some d → d ≠ c := fun c hc =>
    ⟨J1.hok.fresh hc, by omega, J1.nofs hc, by omega, fun y d yd z => by
      obtain ⟨v, ob, ho, _⟩ := J1.cell y d yd
      have lt : d < t1.heap.objs.size := Heap.lt_size ho
      rw [z] at lt
      exact absurd (Nat.lt_of_lt_of_le lt hc) (Nat.lt_irrefl _)⟩
  have here : t2.heap.get? t1.heap.objs.size = some o := hk2 _ _ pushed
  obtain ⟨p1, p2, p3, p4, p5⟩ := apart _ (Nat.le_refl _)
  obtain ⟨s1, s2, s3, s4, s5⟩ := apart S (Nat.le_of_lt below)
  have J3 : Inv X1 [(S, lstObj #[] n0)] (start N as) hp t2 := Inv.pinnedG J2 fun p m => by
    rcases List.mem_append.mp m with z | z
    · obtain rfl := List.mem_singleton.mp z
      exact ⟨here, p1, p2, p3, G.noCell⟩
    · obtain rfl := List.mem_singleton.mp z
      exact ⟨hS0, s1, s2, s3, fun v y => nomatch y⟩
  have run0 : GI X1 S [] [] (start N as) hp t2 := ⟨#[], n0, .nil, J3⟩
  have stays : ∀ {ip : List (Addr × Obj)} {ys : List V} {σ' : L2.St} {hp' : Hp} {t' : Shared}, GI X1 S ip ys σ' hp' t' → t'.heap.IsGen t1.heap.objs.size t1.gens.size := fun {ip ys σ' hp' t'} ⟨acc, n, _, J⟩ =>
    G.is (J.pin (t1.heap.objs.size, o) (List.mem_append_left _ (List.mem_singleton.mpr rfl))).1
  let FX : Value → Shared → Prop := fun x t' => CX P w fs hp s e x t' ∧ ∀ p ∈ [(t1.heap.objs.size, o)], t'.heap.get? p.1 = some p.2
  have gc : GC X1 S [] A (.func body (envOfC qual sc s.heap.objs.size f cd)) [] id :=
    ⟨fun p m => (by rw [List.mem_singleton.mp m]; exact Nat.ne_of_lt below), fun p m => (nomatch m), ⟨s4, s2, s5⟩, over_func, rfl, rfl, rfl⟩
  refine seg_func (seg_imp (R := GR X1 S (fun ys v hp' => v = .non ∧ q ys hp') FX) (Y := GY X1 S) (fun n s₀ r t' hR => ?_) (fun n s₀ v t' kap kap' hkk hY => ?_) sizeLine ?_)
  · match r, hR with
    | .error x, ⟨q1, q2⟩ => exact .inr ⟨x, rfl, q1, G.is (q2 _ (List.mem_singleton.mpr rfl))⟩
    | .ok (.ret u), ⟨ys, v, ip, σ', hp', hn, hI, ru, ev, hq'⟩ =>
      subst ev
      obtain rfl : u = Value.none := ru
      obtain ⟨a1, _, _, acc, m, ra, ea⟩ := hI.at
      obtain ⟨_, _, _, J⟩ := hI
      exact .inl ⟨.inl rfl, hp', ys, acc, m, J.os, J.bare, J.base, J.hok, a1, ea, ra, by omega, hq'⟩
  · obtain ⟨ys, y, ip, σ', hp', hn, ry, hI, wake⟩ := hY
    obtain ⟨_, _, _, acc, m, ra, ea⟩ := hI.at
    have isg := stays hI
    obtain ⟨_, _, _, J⟩ := hI
    have e1 : acc.size = ys.length := by rw [ra.length, Array.length_toList]
    exact ⟨J.os, J.bare, J.nolimit, isg, ⟨acc, m, ea, by omega⟩, fun t'' z => hkk _ _ (wake t'' z)⟩
  · refine hT.run A S [] _ sizeLine [] t2 _ [] _ _ id id t2 (start N as) hp _ gc (Nat.add_zero _) ⟨fun n ys s₀ t' fl hn hs => ?_, fun n s₀ x t' hx => ?_⟩ run0 hq
    · match fl, hs with
      | .next, ⟨σ', hp', hI, z⟩ => exact seg_end (.ok (.ret .none)) ⟨ys, .non, [], σ', hp', hn, hI, rfl, rfl, z⟩
      | .ret u, ⟨v, σ', hp', hI, ru, ev, z⟩ => exact seg_end (.ok (.ret u)) ⟨ys, v, [], σ', hp', hn, hI, ru, ev, z⟩
      | .brk, ⟨_, _, _, z⟩ => exact z.elim
      | .cont, ⟨_, _, _, z⟩ => exact z.elim
    · refine seg_wrap ?_
      rw [over_func]
      have hx' : wpAny (model P w) (A.deeper (envOfC qual sc s.heap.objs.size f cd)) (leaving (envOfC qual sc s.heap.objs.size f cd) x) (fun _ t'' => FX x t'') (fun _ _ => False) t' := hx
      exact wpAny_mono hx' (fun _ t'' z => seg_end (.error x) z) fun _ _ z => z.elim
/-- a generator def by its body -/
theorem GFnG.of {x : Str} {st : Stmt} {fd : FuncData} {sp : SpG} (F : Fun K x qual st f fd) (S : GScope N ps (defScope st)) (ar : ∀ as hp q e, sp as hp q e → as.length = ps.length)
    (b : ∀ (cdv : Value) (A : Around) (fs : List Env) (s : Shared) (hp : Hp) (as : List V) (q : List V → Hp → Prop) (e : XK) (pn : List (Addr × Obj)),
      Room k (A.deeper (envOfC qual (defScope st) s.heap.objs.size f cdv)) → A.guards = some [] → sp as hp q e →
      ∃ T, GSs (gcxOf P w K mg base N qual (defScope st) f cdv A fs s hp e pn) (defBody st) T ∧ T { nx := fun ys _ hp' => q ys hp', rt := fun ys v hp' => v = .non ∧ q ys hp' } [] (start N as) hp) :
    GFnG P w K mg base (k + 1) f fd ps sp := by
  obtain ⟨oc, od, kV, doc, pm, an, cdv, ct, osl, rfl, lk, hcd⟩ := F.ex
  refine ⟨ar, fun A fs s hp args us as q e room en hb rv hs => ?_⟩
  have la := ar _ _ _ _ hs
  have inn : K.In s.heap := en.mod.kin.keeps fun b o z => (en.bs b o z).1
  have nol : s.heap.NoLimit := en.mod.nolimit.keeps fun b o z => (en.bs b o z).1
  have kinds : ∀ y ∈ ps.zip us, (defScope st).names.lookup y.1 = some .local ∨ ((defScope st).names.lookup y.1 = some .cell ∧ ((cellsFrom (s.heap.objs.size + 1) (defScope st).names []).lookup y.1).isSome = true) := by
    rintro ⟨n, v⟩ hy
    rcases S.par n (List.of_mem_zip hy).1 with z | z
    · exact .inl z
    · exact .inr ⟨z, PySem.W.cellsFrom_some _ _ _ (.inl z)⟩
  refine codeAny_call_generator room.depth (inn _ _ lk) rfl S.co S.gen rfl (PySem.W.codeRec_of inn hcd) (hb _ _ _ _ ?_)
  refine wpAny_newFunctionEnv_cells S.kind kinds fun en1 he t1 x1 => ?_
  subst he
  have lim1 := nol.keeps x1.toInCall.keep
  refine ⟨lim1, ?_⟩
  obtain ⟨h1, tk, es1, hk1⟩ := x1.done
  have main : ∀ (o : Obj) (tk2 : Nat), GenObj o t1.gens.size → (t1.heap.push o).get? t1.heap.objs.size = some o →
      MadeG P w (k + 1) fs hp s q e (.ref t1.heap.objs.size) { t1 with gens := t1.gens.push (.fresh (.func (defBody st) (envOfC qual (defScope st) s.heap.objs.size f cdv))), toks := tk2, heap := t1.heap.push o } := fun o tk2 G pushed =>
    ⟨_, _, _, rfl, {
      young := Nat.le_of_lt x1.toInCall.ns.lt
      here := by
        show _ < (t1.heap.push o).objs.size
        rw [Heap.size_push]
        omega
      gen := G.is pushed
      fresh := Array.getElem?_push_size ..
      os := by rw [es1]
      bare := AllBare.push (by rw [es1]; exact en.bare) rfl
      lim := lim1.keeps fun b z y => Heap.get?_push_of_some _ y
      kept := fun b z y => Heap.get?_push_of_some _ (x1.toInCall.keep b z y)
      wakes := wakes_body G rfl pushed S rv la (fun A hfr => ⟨hfr, en.mod, en.bs, en.bsz, en.funs, en.frf, en.hok, en.bare⟩) x1 fun A pn r2 gd => b cdv A fs s hp as q e pn r2 gd hs }⟩
  exact main _ _ ⟨⟨_, _, rfl⟩, rfl, rfl⟩ (Heap.get?_push_size _ rfl)
end
/-! ### list(g) -/
section
variable {P : Program} {w : World} {k : Nat} {fs : List Env} {hp : Hp} {s0 s : Shared} {q : List V → Hp → Prop} {x : XK} {A : Around} {u : Value} {Q : Value → Shared → Prop} {E : Value → Shared → Prop}
theorem call_listG (room : Room (k + 3) A) (gd : A.guards = some []) (hfr : A.frames = some fs) (m : MadeG P w k fs hp s0 q x u s)
    (hQ : ∀ (S : Addr) (t : Shared) (acc : Array Value) (n : Nat) (hp' : Hp) (ys : List V), s.heap.objs.size ≤ S → t.heap.get? S = some (lstObj acc n) → Vals ys acc.toList → ys.length ≤ sizeLine → t.os = s0.os → AllBare t.gens → Un (frs fs) [] hp hp' s0.heap t.heap → HOk P w hp' t.heap → hp' S = none → q ys hp' → Q (.ref S) t)
    (hE : ∀ e t g, CX P w fs hp s0 x e t → NotStop (model P w) e t.heap ∧ E e (t.setGen g .finished)) : wpAny (model P w) A (call (.type "list") [u]) Q E s := by
  obtain ⟨a, g, c, rfl, Z⟩ := m
  -- the new list stands at n
  generalize hn : s.heap.objs.size = n at hQ
  have na : n ≠ a := by rw [← hn]; exact Nat.ne_of_gt Z.here
  have nc : n ≠ cStatics := by
    obtain ⟨_, z, _⟩ := Z.lim
    rw [← hn]
    exact Nat.ne_of_gt z.lt
  have old : ∀ {h : Heap} {f : Obj → Obj}, (∀ b o, s.heap.get? b = some o → h.get? b = some o) → ∀ b o, s.heap.get? b = some o → (h.update n f).get? b = some o := fun {h f} z b o e =>
    (Heap.get?_update_other _ _ (fun y => absurd (Heap.lt_size e) (by rw [← y, ← hn]; exact Nat.lt_irrefl _))).trans (z b o e)
  have at0 : (s.heap.push { cls := .type "list", data := .seq #[] }).get? n = some { cls := .type "list", data := .seq #[] } := by rw [← hn]; exact Heap.get?_push_size _ rfl
  have z0 : ∀ b o, s.heap.get? b = some o → (s.heap.push { cls := .type "list", data := .seq #[] }).get? b = some o := fun b o e => Heap.get?_push_of_some _ e
  refine callType_codes (Q₁ := fun y t => y = .ref n ∧ t = { s with heap := s.heap.push { cls := .type "list", data := .seq #[] } }) F.called_list (F.typeCall_list_1 _) F.entry_list_init (code_list_new _ ⟨by rw [hn], rfl⟩) fun y t ⟨ey, et⟩ => ?_
  subst ey et
  refine ⟨⟨_, at0, rfl⟩, F.args_list_init_2 _ _, ?_⟩
  have isg : ∀ {h : Heap}, (∀ b o, s.heap.get? b = some o → h.get? b = some o) → h.IsGen a g := fun z => Z.gen.keeps z
  have ty : ∀ {h : Heap}, (∀ b o, s.heap.get? b = some o → h.get? b = some o) → ({ s with heap := h } : Shared).TypeIs (.ref a) "generator" := fun z => Heap.IsGen.typeIs (s := { s with heap := _ }) (isg z)
  have at1 := Heap.get?_update_self (Obj.mapSeq fun _ => (#[] : Array Value)) at0 rfl
  have z1 := old (f := Obj.mapSeq fun _ => (#[] : Array Value)) z0
  have at2 := Heap.get?_update_self (Obj.mapSeq (·.push Value.none)) at1 rfl
  have z2 := old (f := Obj.mapSeq (·.push Value.none)) z1
  have at3 := Heap.get?_update_self (Obj.mapSeq (·.pop)) at2 rfl
  have z3 := old (f := Obj.mapSeq (·.pop)) z2
  have self : Builtin.List.listSameRef (.ref n) (.ref a) = false := by simp [Builtin.List.listSameRef, na]
  have noList : (Value.type "generator" == Value.type "list") = false ∧ (Value.type "generator" == Value.type "tuple") = false := ⟨by decide, by decide⟩
  -- emptied, then its items one by one
  show wpAny _ A.in1.in1 (Builtin.List.listItems (.ref n) >>= fun old => Builtin.List.listUpdate (.ref n) (fun _ => #[]) >>= fun _ => letGo old.toList.reverse >>= fun _ => Builtin.List.listExtendWith (.ref n) (.ref a) .none) _ _ _
  refine wpAny_bind ?_
  unfold Builtin.List.listItems
  refine wpAny_bind (wpAny_seqItems at0 rfl (wpAny_pure ?_))
  refine wpAny_bind (m := updateSeq n fun _ => #[]) (wpAny_updateSeq at0 rfl (wpAny_bind (wpAny_letGo ?_)))
  unfold Builtin.List.listExtendWith
  refine wpAny_bind (wpAny_typeOf (ty z1) ?_)
  simp only [self, noList.1, noList.2, Bool.or_false, Bool.false_eq_true, if_false]
  refine wpAny_bind (wpAny_pyIter_gen (s := { s with heap := _ }) (isg z1) (wpAny_bind (wpAny_holding ?_)))
  unfold Builtin.List.listLengthHint
  refine wpAny_bind (wpAny_specialOf (ty z1) F.gen_no_len ?_)
  refine wpAny_bind (m := specialOf (Value.ref a) (Str.ofString "__length_hint__")) (wpAny_specialOf (ty z1) F.gen_no_hint (wpAny_pure ?_))
  refine wpAny_bind (m := rule "list.extend.makes-room") (wpAny_rule (wpAny_bind (m := Builtin.List.listTouch (.ref n)) ?_))
  refine wpAny_bind (m := updateSeq n (·.push .none)) (wpAny_updateSeq at1 rfl ?_)
  refine wpAny_updateSeq (hz := by seq_fits) at2 rfl (wpAny_pure ⟨plainId_quiet F.plain_extend_loop _, ?_⟩)
  refine drain (outer := fs) (H := hp) (sc := s0) (ex := []) (Q := q) (EX := x) (A := A.in1) (g := g) room.hd (by have := room.dp; show A.depth < _; omega) na nc
    (fun t acc m hp' ys r1 r2 r3 r4 r5 r6 r7 r8 r9 => ⟨rfl, hQ n t acc m hp' ys (Nat.le_refl _) r1 r2 r3 r4 r5 r6 r7 r8 r9⟩) (fun e t hc => hE e t g hc) sizeLine _ (isg z3) (Z.lim.keeps z3) ⟨_, Z.fresh, rfl, ?_⟩
  refine Z.wakes _ n _ ⟨room.hd, ?_, ?_⟩ gd hfr (Nat.le_of_eq hn) z3 ⟨_, at3⟩ Z.os (allBare_setGen (s := { s with heap := _ }) Z.bare rfl)
  · have := room.dp
    show A.depth + 3 * k + 5 < _
    omega
  · have := room.un
    show A.units + 1 + 1 + 1 + 16 * k + 200 < _
    omega
end
/-! ### an expression that makes a generator -/
section
variable {X : Cx} {k : Nat} {f C : Addr} {fd : FuncData} {ps : List Str} {sp : SpG} {x m : Str} {p pos apos : Pos} {o : Expr} {ta : TE}
structure PGenG (X : Cx) (k : Nat) (e : Expr) (tg : TGen) (E : XK) : Prop where
  run : ∀ (pins : List (Addr × Obj)) (s : Shared) (σ : L2.St) (H : Hp) (q : List V → Hp → Prop), Inv X pins σ H s → tg σ H q → wpAny (model X.prog X.w) X.A (eval e X.env) (fun u t => ∃ H1 s0, Inv X pins σ H1 s0 ∧ MadeG X.prog X.w k X.stack H1 s0 q E u t) X.xe s
theorem runGen {pins : List (Addr × Obj)} {σ : L2.St} {H : Hp} {s : Shared} {ar : Args} {us : List Value} {vs : List V} {q : List V → Hp → Prop} {E : XK} {E1 : Value → Shared → Prop} (F : GFnG X.prog X.w X.K X.mg X.base k f fd ps sp) (hr : Room k X.A) (hb : BindsTo s fd ar (ps.zip us))
    (I : Inv X pins σ H s) (r : Vals vs us) (h : sp vs H q E) : wpAny (model X.prog X.w) X.A (PySem.call (.ref f) ar.pos ar.kw) (fun u t => ∃ H1 s0, Inv X pins σ H1 s0 ∧ MadeG X.prog X.w k X.stack H1 s0 q E u t) E1 s :=
  wpAny_call (codeAny_mono (F.goes X.A X.stack s H ar us vs q E hr I.env0 hb r h) fun r t z => match r, z with
    | .ok (.ret u), z => ⟨H, s, I, z⟩)
end
end DL

/-! TR: who is stuck, and reach; all of a list of truth values. -/
namespace DL
open PySem PySem.Spec L2 PyProof.Rows LK
/-! ### all([..]), any([..]) -/
def dAllL : DOn := fun xs ω Q => ∃ (x : D) (bs : List Bool), xs = [x] ∧ lstOf ω x = some (bs.map D.bl) ∧ Q (.bl (bs.all id)) ω
def dAnyL : DOn := fun xs ω Q => ∃ (x : D) (bs : List Bool), xs = [x] ∧ lstOf ω x = some (bs.map D.bl) ∧ Q (.bl (bs.any id)) ω
/-! ### is not, of truth values -/
def dNotB : DO2 := fun x y ω Q => ∃ a b, x = .bl a ∧ y = .bl b ∧ Q (.bl (!decide (a = b))) ω
theorem st_notB {a b : Bool} {ω : Om} {Q : DQ} (h : Q (.bl (!decide (a = b))) ω) : dNotB (.bl a) (.bl b) ω Q := ⟨a, b, rfl, rfl, h⟩
/-- sum of a tuple of ints -/
def rSumT (K : PySem.W.Frag) : List V → Hp → VK → Prop := fun vs H Q => ∃ (a : Addr) (ns : List Int), vs = [V.ref a] ∧ SqT K H a (ns.map V.int) ∧ Q (.int ns.sum) H
theorem cr_sumT {X : Cx} (hc : X.calm = true) : CallR X (.builtin "sum") (rSumT X.K) := by
  intro pins s σ H vs us Q I r h
  obtain ⟨a, ns, rfl, hs, q⟩ := h
  obtain ⟨its, rv, ht, _⟩ := I.tuple hs
  rw [Vals.ref1 r]
  have hi : IntsAre its ns := by simpa using rv.ints
  obtain ⟨xs, e⟩ := hi.allInts.items
  have hn : numsOf its.toArray.toList = ns := by rw [show its.toArray.toList = its from rfl, hi.numsOf]
  have ht : s.heap.IsTuple a its.toArray := ht
  rw [e] at ht hn
  rw [nums_intItems] at hn
  refine PySem.W.ktm_sumG (I.ok.hd hc) ht fun h' tk t' hk => ?_
  rw [preSum_eq, List.take_of_length_le (by simp), hn]
  exact ⟨.int _, H, I.kept hk, ⟨_, rfl⟩, q⟩
def dSumT : DOn := fun xs ω Q => ∃ ns : List Int, xs = [.tup (ns.map D.int)] ∧ Q (.int ns.sum) ω
theorem ok_sumT [Amb] {K : PySem.W.Frag} : CallD K dSumT (rSumT K) := by
  intro h xs ω R vs H Q ⟨ns, e, q⟩ w r k
  subst e
  obtain ⟨v, rfl, rv⟩ := r.one
  cases rv with
  | tup st ra =>
    have z := ra.ints
    subst z
    exact ⟨_, ns, rfl, st.sq, k.self w q (.int _)⟩
/-! ### the order by weight -/
theorem byW_perm (ws : List Int) : (byW ws).Perm (ups ws.length) := List.mergeSort_perm _ _
theorem byW_mem {ws : List Int} {p : Int} : p ∈ byW ws ↔ 0 ≤ p ∧ p < ws.length := (byW_perm ws).mem_iff.trans mem_ups
theorem byW_len (ws : List Int) : (byW ws).length = ws.length := by rw [(byW_perm ws).length_eq, ups_len]
def wAt (ws : List Int) (p : Int) : Int := ws.getD p.toNat 0
theorem byW_le (ws : List Int) : (byW ws).Pairwise fun p q => wAt ws p < wAt ws q ∨ (wAt ws p = wAt ws q ∧ p ≤ q) := by
  have z := List.pairwise_mergeSort (le := fun p q : Int => decide (ws.getD p.toNat 0 < ws.getD q.toNat 0 ∨ (ws.getD p.toNat 0 = ws.getD q.toNat 0 ∧ p ≤ q)))
    (fun a b c h1 h2 => by simp only [decide_eq_true_eq] at *; omega) (fun a b => by simp only [Bool.or_eq_true, decide_eq_true_eq]; omega) (upN ws.length)
  exact z.imp fun h => by simpa [wAt] using h
theorem wAt_mem {ws : List Int} {p : Int} (h0 : 0 ≤ p) (h1 : p < ws.length) : wAt ws p ∈ ws := by
  unfold wAt
  rw [List.getD_eq_getElem?_getD, List.getElem?_eq_getElem (by omega)]
  exact List.getElem_mem _
theorem mem_wAt {ws : List Int} {w : Int} (h : w ∈ ws) : ∃ p : Int, 0 ≤ p ∧ p < ws.length ∧ wAt ws p = w := by
  obtain ⟨i, hi, e⟩ := List.mem_iff_getElem.mp h
  refine ⟨i, by omega, by omega, ?_⟩
  unfold wAt
  rw [Int.toNat_natCast, List.getD_eq_getElem?_getD, List.getElem?_eq_getElem hi, e]
  rfl
/-- by how much a person could be heavier -/
def roomI (e : Int) (ws : List Int) (p : Int) : Int := e + lite ws (wAt ws p) - wAt ws p
def stk (e : Int) (ws : List Int) : Option Int := (byW ws).find? fun p => decide (roomI e ws p < 0)
def rch (e : Int) (ws : List Int) : Int := match stk e ws with
  | none => ws.sum
  | some p => lite ws (wAt ws p)
def optD : Option Int → D
  | none => .non
  | some i => .int i
theorem stk_some {e : Int} {ws : List Int} {p : Int} (h : stk e ws = some p) : 0 ≤ p ∧ p < ws.length ∧ e + lite ws (wAt ws p) < wAt ws p ∧ ∀ q : Int, 0 ≤ q → q < ws.length → (wAt ws q < wAt ws p ∨ (wAt ws q = wAt ws p ∧ q < p)) → wAt ws q ≤ e + lite ws (wAt ws q) := by
  unfold stk at h
  obtain ⟨h1, as, bs, e1, h2⟩ := List.find?_eq_some_iff_append.mp h
  have hm : p ∈ byW ws := by rw [e1]; simp
  have hp := byW_mem.mp hm
  have h1 := of_decide_eq_true h1
  unfold roomI at h1
  refine ⟨hp.1, hp.2, by omega, fun q q0 q1 hq => ?_⟩
  have hs := byW_le ws
  rw [e1] at hs
  have hqm : q ∈ as ++ p :: bs := by rw [← e1]; exact byW_mem.mpr ⟨q0, q1⟩
  rcases List.mem_append.mp hqm with z | z
  · have := h2 q z
    simp only [Bool.not_eq_true', decide_eq_false_iff_not] at this
    unfold roomI at this
    omega
  · rcases List.mem_cons.mp z with y | y
    · subst y
      omega
    · have := (List.pairwise_cons.mp (List.pairwise_append.mp hs).2.1).1 q y
      omega
theorem stk_none {e : Int} {ws : List Int} : stk e ws = none ↔ Free e ws := by
  unfold stk
  rw [List.find?_eq_none]
  constructor
  · intro h w hw
    obtain ⟨p, p0, p1, rfl⟩ := mem_wAt hw
    have := h p (byW_mem.mpr ⟨p0, p1⟩)
    unfold roomI at this
    simp only [decide_eq_true_eq] at this
    omega
  · intro h p hp
    have := h _ (wAt_mem (byW_mem.mp hp).1 (byW_mem.mp hp).2)
    unfold roomI
    simp only [decide_eq_true_eq]
    omega
theorem rch_cases (e : Int) (ws : List Int) : (Free e ws ∧ stk e ws = none ∧ rch e ws = ws.sum) ∨ ∃ p, stk e ws = some p ∧ 0 ≤ p ∧ p < ws.length ∧ wAt ws p ∈ ws ∧ e + lite ws (wAt ws p) < wAt ws p ∧ rch e ws = lite ws (wAt ws p) ∧ ∀ v ∈ ws, v < wAt ws p → v ≤ e + lite ws v := by
  cases h : stk e ws with
  | none => exact .inl ⟨stk_none.mp h, rfl, by unfold rch; rw [h]⟩
  | some p =>
    obtain ⟨h0, h1, h2, h3⟩ := stk_some h
    refine .inr ⟨p, rfl, h0, h1, wAt_mem h0 h1, h2, by unfold rch; rw [h], fun v hv lt => ?_⟩
    obtain ⟨q, q0, q1, rfl⟩ := mem_wAt hv
    exact h3 q q0 q1 (.inl lt)
theorem lite_le_sum {ws : List Int} (h1 : ∀ w ∈ ws, 1 ≤ w) (w : Int) : lite ws w ≤ ws.sum := sum_filter fun v hv => by have := h1 v hv; omega
theorem lite_nonneg {ws : List Int} (h1 : ∀ w ∈ ws, 1 ≤ w) (w : Int) : 0 ≤ lite ws w := sum_nonneg fun v hv => by
  have := h1 v ((List.mem_filter.mp hv).1)
  omega
theorem lite_add : ∀ (l : List Int) (w : Int), w ∈ l → (∀ v ∈ l, 1 ≤ v) → lite l w + w ≤ l.sum
  | [], _, h, _ => nomatch h
  | x :: l, w, h, h1 => by
    have hl : ∀ v ∈ l, 1 ≤ v := fun v hv => h1 v (List.mem_cons_of_mem _ hv)
    have x1 := h1 x List.mem_cons_self
    have s := lite_le_sum hl w
    rw [List.sum_cons]
    unfold lite at *
    by_cases c : x < w
    · rw [List.filter_cons_of_pos (by simpa using c), List.sum_cons]
      have hm : w ∈ l := by
        rcases List.mem_cons.mp h with y | y
        · omega
        · exact y
      have := lite_add l w hm hl
      unfold lite at this
      omega
    · rw [List.filter_cons_of_neg (by simpa using c)]
      rcases List.mem_cons.mp h with y | y
      · omega
      · have := lite_add l w y hl
        unfold lite at this
        omega
theorem rch_nonneg {e : Int} {ws : List Int} (h1 : ∀ w ∈ ws, 1 ≤ w) : 0 ≤ rch e ws := by
  rcases rch_cases e ws with ⟨_, _, r⟩ | ⟨p, _, _, _, _, _, r, _⟩
  · rw [r]; exact sum_nonneg fun w hw => by have := h1 w hw; omega
  · rw [r]; exact lite_nonneg h1 _
/-- reach is all people exactly if nobody is stuck -/
theorem rch_sum {e : Int} {ws : List Int} (e1 : 0 ≤ e) (h1 : ∀ w ∈ ws, 1 ≤ w) : rch e ws = ws.sum ↔ Free e ws := by
  rcases rch_cases e ws with ⟨f, _, r⟩ | ⟨p, hs, _, _, hm, st, r, _⟩
  · exact ⟨fun _ => f, fun _ => r⟩
  · constructor
    · intro h
      have := lite_add ws _ hm h1
      have := h1 _ hm
      omega
    · intro f
      have := f _ hm
      omega
theorem rch_le {e : Int} {ws : List Int} (h1 : ∀ w ∈ ws, 1 ≤ w) : rch e ws ≤ ws.sum := by
  rcases rch_cases e ws with ⟨_, _, r⟩ | ⟨p, _, _, _, _, _, r, _⟩
  · omega
  · rw [r]; exact lite_le_sum h1 _
theorem mem_le_sum {ws : List Int} (h1 : ∀ w ∈ ws, 1 ≤ w) {w : Int} (h : w ∈ ws) : w ≤ ws.sum := by
  have := lite_add ws w h h1
  have := lite_nonneg h1 w
  omega
/-- someone is never down exactly if someone is stuck -/
theorem rch_all {e : Int} {ws : List Int} (e1 : 0 ≤ e) (h1 : ∀ w ∈ ws, 1 ≤ w) : (∀ w ∈ ws, w ≤ rch e ws) ↔ Free e ws := by
  rcases rch_cases e ws with ⟨f, _, r⟩ | ⟨p, hs, _, _, hm, st, r, _⟩
  · exact ⟨fun _ => f, fun _ w hw => by rw [r]; exact mem_le_sum h1 hw⟩
  · constructor
    · intro h
      have := h _ hm
      omega
    · intro f
      have := f _ hm
      omega
theorem at_w {ws : List Int} {p : Int} (h0 : 0 ≤ p) (h1 : p < ws.length) : L2.atI (ws.map D.int) p = some (.int (wAt ws p)) := by
  rw [atI_nat h0 (by rw [List.length_map]; exact h1), List.getElem_map]
  unfold wAt
  rw [List.getD_eq_getElem?_getD, List.getElem?_eq_getElem (show p.toNat < ws.length by omega)]
  rfl
theorem TabOn.go [Tbl] {x : Str} {a p : Addr} {ω ω' : Om} (h : TabOn x ω) (na : Tbl.P x ≠ a) (np : Tbl.P x ≠ p) (e : ∀ b, b ≠ a → b ≠ p → ω' b = ω b) : TabOn x ω' := (e _ na np).trans h
theorem TabOn.ext [Tbl] {x : Str} {ω ω' : Om} (h : TabOn x ω) (e : Ext ω ω') : TabOn x ω' := (e _ (by rw [show ω (Tbl.P x) = _ from h]; exact fun z => nomatch z)).trans h
theorem TabOn.ne [Tbl] {x : Str} {a : Addr} {ω : Om} {xs : List D} (h : TabOn x ω) (e : ω a = some (.lst xs)) : Tbl.P x ≠ a := fun z => by
  have y := h
  unfold TabOn at y
  rw [z, e] at y
  cases y
theorem TabOn.new [Tbl] {x : Str} {a : Addr} {ω : Om} (h : TabOn x ω) (e : ω a = none) : Tbl.P x ≠ a := fun z => by
  have y := h
  unfold TabOn at y
  rw [z, e] at y
  cases y
/-! ### no stones exactly if nobody is stuck -/
end DL

/-! Tuples of ints of any lengths, the first of them empty, put in order. -/
namespace TupO
open PySem PySem.Spec PyProof.Rows L2 NtL PySem.W
section
variable {prog : Program} {w : World} {A : Around} {E : Value → Shared → Prop} {s : Shared}
end
end TupO

/-! TT: dicts keyed by tuples of ints, owned; their keys in order. -/
namespace DL
open PySem PySem.Spec L2 PyProof.Rows PySem.W
section
variable {X : Cx} {pos : Pos}
/-- {k: v}, k a tuple of ints and texts; the new dict stands empty while both are made -/
def tDisp1T (tk tv : TE) : TE := fun σ H Q => ∀ p, H p = none → tk σ (upd H p (.dT [])) fun x H1 => tv σ H1 fun y H2 => H2 p = some (.dT []) ∧ ∃ (b : Addr) (k : List L2.Key), x = .ref b ∧ H2 b = some (.tup (k.map kV)) ∧ Q (.ref p) (upd H2 p (.dT [(k, y)]))
/-- sorted(d) of a dict whose keys are tuples of ints, the first of them empty -/
def rSortDT : List V → Hp → VK → Prop := fun vs H Q => ∃ (a : Addr) (kvs : List (List L2.Key × V)) (ks : List (List Int)), vs = [.ref a] ∧ Rd H a (.dT kvs) ∧ kvs.map (·.1) = ([] :: ks).map (·.map Sum.inl) ∧
  ∀ (L : List (List Int × Addr)) (p : Addr), (L.map (·.1)).Perm ([] :: ks) → (∀ z ∈ L, H z.2 = some (.tup (z.1.map V.int))) → H p = none → Q (.ref p) (upd H p (.lst (L.map fun z => V.ref z.2)))
end
section
variable {X : Cx} {K : PySem.W.Frag} {h : Fp} {H : Hp} {ω : Om} {a e value : Expr} {pos : Pos} {Ta Te Tv : TD}
abbrev kI (ns : List Int) : List L2.Key := ns.map Sum.inl
/-- {t: v}, owned -/
def dDicT (Ta Tb : TD) : TD := fun ρ ω Q => ∀ p, ω p = none → Ta ρ (oset ω p (.dT [])) fun x ω1 => Tb ρ ω1 fun y ω2 => ∃ ns : List Int, x = .tup (ns.map D.int) ∧ ω2 p = some (.dT []) ∧ Q (.raw (.ref p)) (oset ω2 p (.dT [(ns, y)]))
/-- t in d, t not in d -/
def dDInT (neg : Bool) (Ty Td : TD) : TD := fun ρ ω Q => Ty ρ ω fun y ω1 => Td ρ ω1 fun x ω2 => ∃ (p : Addr) (ns : List Int) (kds : List (List Int × D)), x = .raw (.ref p) ∧ y = .tup (ns.map D.int) ∧ ω2 p = some (.dT kds) ∧ Q (.bl (if neg then !decide (ns ∈ kds.map (·.1)) else decide (ns ∈ kds.map (·.1)))) ω2
/-- d[t] = v, t not yet in d -/
def dDPutT (Ta Te Tv : TD) : TSD := fun E ρ ω => Tv ρ ω fun v ω1 => Ta ρ ω1 fun x ω2 => Te ρ ω2 fun y ω3 => ∃ (p : Addr) (ns : List Int) (kds : List (List Int × D)), x = .raw (.ref p) ∧ y = .tup (ns.map D.int) ∧ ω3 p = some (.dT kds) ∧ ns ∉ kds.map (·.1) ∧ kds.length < sizeLine ∧ E.nx ρ (oset ω3 p (.dT (kds ++ [(ns, v)])))
/-- sorted(d), the first key being () -/
def dSortDT : DOn := fun xs ω Q => ∃ (p : Addr) (kds : List (List Int × D)) (d0 : D), xs = [.raw (.ref p)] ∧ ω p = some (.dT (([], d0) :: kds)) ∧ ∀ ks : List (List Int), ks.Perm (([] : List Int) :: kds.map (·.1)) → Q (.lst (ks.map fun ns => .tup (ns.map D.int))) ω
/-! ### steps -/
variable {ρ : Rho} {Q : DQ}
theorem st_dicT (h : ∀ p, ω p = none → Ta ρ (oset ω p (.dT [])) fun x ω1 => Te ρ ω1 fun y ω2 => ∃ ns : List Int, x = .tup (ns.map D.int) ∧ ω2 p = some (.dT []) ∧ Q (.raw (.ref p)) (oset ω2 p (.dT [(ns, y)]))) : dDicT Ta Te ρ ω Q := h
theorem st_dinT {neg : Bool} (h : Ta ρ ω fun y ω1 => Te ρ ω1 fun x ω2 => ∃ (p : Addr) (ns : List Int) (kds : List (List Int × D)), x = .raw (.ref p) ∧ y = .tup (ns.map D.int) ∧ ω2 p = some (.dT kds) ∧ Q (.bl (if neg then !decide (ns ∈ kds.map (·.1)) else decide (ns ∈ kds.map (·.1)))) ω2) : dDInT neg Ta Te ρ ω Q := h
theorem st_dputT {E : DEnds} (h : Tv ρ ω fun v ω1 => Ta ρ ω1 fun x ω2 => Te ρ ω2 fun y ω3 => ∃ (p : Addr) (ns : List Int) (kds : List (List Int × D)), x = .raw (.ref p) ∧ y = .tup (ns.map D.int) ∧ ω3 p = some (.dT kds) ∧ ns ∉ kds.map (·.1) ∧ kds.length < sizeLine ∧ E.nx ρ (oset ω3 p (.dT (kds ++ [(ns, v)])))) : dDPutT Ta Te Tv E ρ ω := h
end
section
variable {X : Cx} {K : PySem.W.Frag} {ω : Om} {Q : DQ}
/-- x in xs, x not in xs: plain data in a list of plain data -/
def dInD (neg : Bool) : DO2 := fun x y ω Q => ∃ ys, lstOf ω y = some ys ∧ eqD x (.lst ys) ∧ Q (.bl (if neg then !((pyAll ys).any fun z => PyData.eqv z x.py) else (pyAll ys).any fun z => PyData.eqv z x.py)) ω
theorem flat_tups2 : ∀ ks : List (List Int), flatAll (ks.map tupI) = true
  | [] => rfl
  | n :: ns => by
    have h := flat_ints n
    simp [flatAll, tupI, D.flat, h, flat_tups2 ns]
theorem lay_tups : ∀ ks : List (List Int), PyData.canLayAll0 (pyAll (ks.map tupI)) = true ∧ PyData.depthAll (pyAll (ks.map tupI)) ≤ 1
  | [] => ⟨rfl, by simp [pyAll, PyData.depthAll]⟩
  | n :: ns => by
    obtain ⟨h1, h2⟩ := lay_tups ns
    obtain ⟨h3, h4⟩ := lay_ints n
    refine ⟨by simp [pyAll, tupI, D.py, PyData.canLayAll0, PyData.canLay0, h1, h3], ?_⟩
    have e1 : (D.tup (n.map D.int)).py.depth = 1 := by simp [D.py, PyData.depth, h4]
    rw [List.map_cons, pyAll, PyData.depthAll]
    show max (D.tup (n.map D.int)).py.depth _ ≤ 1
    omega
theorem eqD_inTups (ns : List Int) (ks : List (List Int)) : eqD (tupI ns) (.lst (ks.map tupI)) := by
  refine ⟨by have h := flat_ints ns; simpa [tupI, D.flat] using h, by simpa [D.flat] using flat_tups2 ks, shaped_intsT ns, ?_⟩
  obtain ⟨h1, h2⟩ := lay_tups ks
  simp only [SeqAt.shaped, D.py, PyData.canLay0, PyData.depth, h1, Bool.true_and]
  exact decide_eq_true (by omega)
theorem any_tups (ns : List Int) : ∀ ks : List (List Int), ((pyAll (ks.map tupI)).any fun z => PyData.eqv z (tupI ns).py) = decide (ns ∈ ks)
  | [] => rfl
  | k :: ks => by
    rw [List.map_cons]
    show (PyData.eqv (D.tup (k.map D.int)).py (D.tup (ns.map D.int)).py || _) = _
    rw [eqv_tups, any_tups ns ks, Bool.eq_iff_iff]
    simp only [Bool.or_eq_true, decide_eq_true_eq, List.mem_cons]
    exact ⟨fun h => h.elim (fun e => .inl e.symm) .inr, fun h => h.elim (fun e => .inl e.symm) .inr⟩
theorem st_inTups {neg : Bool} {ns : List Int} {ks : List (List Int)} (h : Q (.bl (if neg then !decide (ns ∈ ks) else decide (ns ∈ ks))) ω) : dInD neg (.tup (ns.map D.int)) (.lst (ks.map tupI)) ω Q := by
  refine ⟨_, rfl, eqD_inTups ns ks, ?_⟩
  rw [show D.tup (ns.map D.int) = tupI ns from rfl, any_tups]
  exact h
end
end DL

/-! TS: what is reached level by level. -/
namespace DL
open PySem PySem.Spec L2 PyProof.Rows
theorem grp_sum {ws g : List Int} (h1 : ∀ w ∈ ws, 1 ≤ w) (hg : GrpI ws.length g) : wt ws g ≤ ws.sum := by
  have z := wt_lite (w := ws.sum + 1) h1 hg fun k hk => by
    have := hg.1 k hk
    have := mem_le_sum h1 (wAt_mem this.1 this.2)
    unfold wAt at this
    omega
  exact Int.le_trans z (lite_le_sum h1 _)
theorem rch_step {x : Int} {ws g g' : List Int} (h1 : ∀ w ∈ ws, 1 ≤ w) (x0 : 0 ≤ x) (hg' : GrpI ws.length g') (a : wt ws g ≤ rch x ws) (b : wt ws g' - wt ws g ≤ x) : wt ws g' ≤ rch x ws := by
  rcases rch_cases x ws with ⟨_, _, r⟩ | ⟨p, _, _, _, hm, st, r, _⟩
  · rw [r]; exact grp_sum h1 hg'
  · rw [r] at a ⊢
    exact (whole_out h1 hm st x0).1 g g' hg' a b
theorem lite_filter {ws : List Int} {v w : Int} (h : v ≤ w) : lite (ws.filter fun u => decide (u < w)) v = lite ws v := by
  unfold lite
  rw [List.filter_filter]
  congr 1
  refine List.filter_congr fun u _ => ?_
  by_cases c : u < v
  · rw [decide_eq_true c, decide_eq_true (show u < w by omega)]; rfl
  · rw [decide_eq_false c]; rfl
theorem rch_next {x : Int} {ws : List Int} (h1 : ∀ w ∈ ws, 1 ≤ w) (t : Int) (t0 : 0 ≤ t) (t1 : t < rch x ws) : ∃ ns, GrpI ws.length ns ∧ t < wt ws ns ∧ wt ws ns ≤ t + x := by
  rcases rch_cases x ws with ⟨f, _, r⟩ | ⟨p, _, _, _, hm, st, r, low⟩
  · exact next_grp h1 f t t0 (by omega)
  · have h1' : ∀ w ∈ ws.filter (fun u => decide (u < wAt ws p)), 1 ≤ w := fun w hw => h1 w (List.mem_filter.mp hw).1
    have f' : Free x (ws.filter fun u => decide (u < wAt ws p)) := fun v hv => by
      obtain ⟨v1, v2⟩ := List.mem_filter.mp hv
      have v2 := of_decide_eq_true v2
      rw [lite_filter (by omega)]
      exact low v v1 v2
    obtain ⟨s, s1, s2, s3⟩ := free_dense h1' f' t t0 (by rw [r] at t1; exact t1)
    obtain ⟨ns, n1, n2, n3⟩ := sub_grp (s1.trans List.filter_sublist) 0
    have e : wt ws ns = s.sum := by
      rw [← n3]
      unfold wt
      refine congrArg List.sum (List.map_congr_left fun k _ => ?_)
      rw [show (k - ((0 : Nat) : Int)).toNat = k.toNat by omega]
    exact ⟨ns, ⟨fun k hk => by have := n1 k hk; omega, n2⟩, by rw [e]; exact s2, by rw [e]; exact s3⟩
theorem wt_nil (ws : List Int) : wt ws [] = 0 := rfl
theorem wt_nonneg {ws ns : List Int} (h1 : ∀ w ∈ ws, 1 ≤ w) (hg : GrpI ws.length ns) : 0 ≤ wt ws ns := by
  have := wt_pos h1 hg.1
  omega
/-- of those with a weight below t the heaviest -/
theorem best {f : List Int → Int} {t : Int} : ∀ {S : List (List Int)}, (∃ g ∈ S, f g < t) → ∃ g ∈ S, f g < t ∧ ∀ g' ∈ S, f g' < t → f g' ≤ f g
  | [], ⟨_, h, _⟩ => nomatch h
  | a :: S, ⟨g, hg, hl⟩ => by
    by_cases c : ∃ g ∈ S, f g < t
    · obtain ⟨b, b1, b2, b3⟩ := best c
      by_cases d : f b < f a ∧ f a < t
      · refine ⟨a, List.mem_cons_self, d.2, fun g' hg' lt => ?_⟩
        rcases List.mem_cons.mp hg' with z | z
        · rw [z]; exact Int.le_refl _
        · have := b3 g' z lt; omega
      · refine ⟨b, List.mem_cons_of_mem _ b1, b2, fun g' hg' lt => ?_⟩
        rcases List.mem_cons.mp hg' with z | z
        · rw [z] at lt ⊢; omega
        · exact b3 g' z lt
    · have ea : g = a := by
        rcases List.mem_cons.mp hg with z | z
        · exact z
        · exact (c ⟨g, z, hl⟩).elim
      subst ea
      refine ⟨g, List.mem_cons_self, hl, fun g' hg' lt => ?_⟩
      rcases List.mem_cons.mp hg' with z | z
      · rw [z]; exact Int.le_refl _
      · exact (c ⟨g', z, lt⟩).elim
/-- what holds of the groups that are met, level by level -/
structure Met (x : Int) (ws : List Int) (S : List (List Int)) (lv : List Int) : Prop where
  grp : ∀ g ∈ S, GrpI ws.length g ∧ wt ws g ≤ rch x ws
  nil : [] ∈ S
  nd : S.Nodup
  lev : ∀ v ∈ lv, ∃ g ∈ S, wt ws g = v
  cl : ∀ g ∈ S, wt ws g ∈ lv ∨ ∀ g', GrpI ws.length g' → 1 ≤ wt ws g' - wt ws g → wt ws g' - wt ws g ≤ x → g' ∈ S
theorem Met.start {x : Int} {ws : List Int} (h1 : ∀ w ∈ ws, 1 ≤ w) : Met x ws [[]] [0] where
  grp := fun g hg => by
    rw [List.mem_singleton] at hg
    subst hg
    exact ⟨⟨fun _ h => (nomatch h), List.Pairwise.nil⟩, by rw [wt_nil]; exact rch_nonneg h1⟩
  nil := List.mem_singleton.mpr rfl
  nd := List.nodup_cons.mpr ⟨List.not_mem_nil, List.nodup_nil⟩
  lev := fun v hv => by
    rw [List.mem_singleton] at hv
    exact ⟨[], List.mem_singleton.mpr rfl, by rw [hv]; rfl⟩
  cl := fun g hg => by
    rw [List.mem_singleton] at hg
    subst hg
    exact .inl (List.mem_singleton.mpr rfl)
theorem Met.all {x : Int} {ws : List Int} {S : List (List Int)} (m : Met x ws S []) (h1 : ∀ w ∈ ws, 1 ≤ w) (x1 : 1 ≤ x) (g : List Int) : g ∈ S ↔ GrpI ws.length g ∧ wt ws g ≤ rch x ws := by
  refine ⟨m.grp g, fun ⟨hg, hl⟩ => ?_⟩
  have cl : ∀ g ∈ S, ∀ g', GrpI ws.length g' → 1 ≤ wt ws g' - wt ws g → wt ws g' - wt ws g ≤ x → g' ∈ S := fun g hg => (m.cl g hg).elim (fun z => nomatch z) id
  by_cases c : wt ws g ≤ 0
  · have p := wt_pos h1 hg.1
    have e : g = [] := List.length_eq_zero_iff.mp (by omega)
    rw [e]; exact m.nil
  · obtain ⟨b, b1, b2, b3⟩ := best (f := wt ws) (t := wt ws g) ⟨[], m.nil, by rw [wt_nil]; omega⟩
    have b0 := wt_nonneg h1 (m.grp b b1).1
    by_cases d : wt ws g ≤ wt ws b + x
    · exact cl b b1 g hg (by omega) (by omega)
    · obtain ⟨ns, n1, n2, n3⟩ := rch_next (x := x) h1 (wt ws b) b0 (by omega)
      have := b3 ns (cl b b1 ns n1 (by omega) (by omega)) (by omega)
      omega
/-- in the midst of a level: the first i groups have been seen -/
structure MetI (x : Int) (ws : List Int) (S : List (List Int)) (lv : List Int) (i : Nat) (A : List (List Int)) : Prop where
  nd : (S ++ A).Nodup
  new : ∀ g ∈ A, GrpI ws.length g ∧ ∃ v ∈ lv, 1 ≤ wt ws g - v ∧ wt ws g - v ≤ x
  got : ∀ j g, j < i → (allG ws.length)[j]? = some g → (∃ v ∈ lv, 1 ≤ wt ws g - v ∧ wt ws g - v ≤ x) → g ∈ S ++ A
theorem MetI.next {x : Int} {ws : List Int} {S A : List (List Int)} {lv : List Int} (m : Met x ws S lv) (h1 : ∀ w ∈ ws, 1 ≤ w) (x1 : 1 ≤ x) (h : MetI x ws S lv (allG ws.length).length A) : Met x ws (S ++ A) (A.map (wt ws)) where
  grp := fun g hg => by
    rcases List.mem_append.mp hg with z | z
    · exact m.grp g z
    · obtain ⟨a1, v, hv, a2, a3⟩ := h.new g z
      obtain ⟨g0, b1, b2⟩ := m.lev v hv
      exact ⟨a1, rch_step h1 (by omega) a1 (m.grp g0 b1).2 (by omega)⟩
  nil := List.mem_append_left _ m.nil
  nd := h.nd
  lev := fun v hv => by
    obtain ⟨g, hg, e⟩ := List.mem_map.mp hv
    exact ⟨g, List.mem_append_right _ hg, e⟩
  cl := fun g hg => by
    rcases List.mem_append.mp hg with z | z
    · rcases m.cl g z with c | c
      · refine .inr fun g' hg' d1 d2 => ?_
        obtain ⟨j, hj, ej⟩ := List.mem_iff_getElem.mp (grp_allG hg')
        exact h.got j g' hj (by rw [List.getElem?_eq_getElem hj, ej]) ⟨_, c, d1, d2⟩
      · exact .inr fun g' hg' d1 d2 => List.mem_append_left _ (c g' hg' d1 d2)
    · exact .inl (List.mem_map.mpr ⟨g, z, rfl⟩)
theorem MetI.take {x : Int} {ws : List Int} {S A : List (List Int)} {lv : List Int} {i : Nat} {g : List Int} (h : MetI x ws S lv i A) (e : (allG ws.length)[i]? = some g) (hn : g ∉ S ++ A) (hv : ∃ v ∈ lv, 1 ≤ wt ws g - v ∧ wt ws g - v ≤ x) : MetI x ws S lv (i + 1) (A ++ [g]) where
  nd := by
    rw [← List.append_assoc]
    refine List.nodup_append.mpr ⟨h.nd, List.nodup_cons.mpr ⟨List.not_mem_nil, List.nodup_nil⟩, fun a ha b hb => ?_⟩
    rw [List.mem_singleton] at hb
    subst hb
    exact fun e => hn (e ▸ ha)
  new := fun g' hg' => by
    rcases List.mem_append.mp hg' with z | z
    · exact h.new g' z
    · rw [List.mem_singleton] at z
      subst z
      exact ⟨allG_grp (List.mem_of_getElem? e), hv⟩
  got := fun j g' hj ej hv' => by
    rw [← List.append_assoc]
    by_cases c : j < i
    · exact List.mem_append_left _ (h.got j g' c ej hv')
    · have : j = i := by omega
      subst this
      rw [e] at ej
      cases ej
      exact List.mem_append_right _ (List.mem_singleton.mpr rfl)
theorem MetI.len {x : Int} {ws : List Int} {S A : List (List Int)} {lv : List Int} {i : Nat} (h : MetI x ws S lv i A) (m : Met x ws S lv) : (S ++ A).length ≤ 2 ^ ws.length := by
  have sub : ∀ g ∈ S ++ A, g ∈ allG ws.length := fun g hg => by
    rcases List.mem_append.mp hg with z | z
    · exact grp_allG (m.grp g z).1
    · exact grp_allG (h.new g z).1
  have := List.Nodup.length_le_of_subset h.nd sub
  rw [allG_len] at this
  exact this
end DL

/-! TP: sorted of a list of pairs of ints. -/
namespace DL
open PySem PySem.Spec L2 PyProof.Rows
def pr2D (p : Int × Int) : D := .tup [.int p.1, .int p.2]
section
variable {X : Cx} {K : PySem.W.Frag} {h : Fp} {H : Hp} {ω : Om}
def pairAt (H : Hp) : V → Int × Int
  | .ref t => match H t with
    | some (.tup [.int a, .int b]) => (a, b)
    | _ => (0, 0)
  | _ => (0, 0)
/-- a list of pairs, in the abstract heap -/
theorem pairs_at {f : Fp} : ∀ {ps : List (Int × Int)} {vs : List V}, RpAll K f H (ps.map pr2D) vs → (∀ v ∈ vs, ∃ t, v = V.ref t ∧ f t ∧ H t = some (.tup [.int (pairAt H v).1, .int (pairAt H v).2])) ∧ vs.map (pairAt H) = ps
  | [], _, .nil => ⟨fun _ h => (nomatch h), rfl⟩
  | p :: ps, _, .cons (v := v) (vs := vs) r t => by
    obtain ⟨h1, h2⟩ := pairs_at t
    cases r with
    | @tup b us _ st ra =>
      cases ra with
      | cons r1 r2 =>
        cases r2 with
        | cons r2 r3 =>
          cases r3
          cases r1
          cases r2
          have e : pairAt H (.ref b) = p := by
            show (match H b with | some (.tup [.int a, .int b]) => (a, b) | _ => (0, 0)) = p
            rw [st.2]
          refine ⟨fun v hv => ?_, by rw [List.map_cons, e, h2]⟩
          rcases List.mem_cons.mp hv with z | z
          · subst z
            exact ⟨b, rfl, st.1, by rw [e]; exact st.2⟩
          · exact h1 v z
def dSortP : DOn := fun xs ω Q => ∃ (x : D) (ps : List (Int × Int)), xs = [x] ∧ lstOf ω x = some (ps.map pr2D) ∧ ∀ ps' : List (Int × Int), ps'.Perm ps → ps'.Pairwise (fun a b => SrtO.lexB b a = false) → Q (.lst (ps'.map pr2D)) ω
/-- the stuck people, by weight, of equal ones the smaller number first -/
def stuckL (e : Int) (ws : List Int) : List Int := (LK.byW ws).filter fun p => decide (roomI e ws p < 0)
end
end DL

/-! TD: dicts keyed by numbers, owned: displays of one entry, list(d.items()), setdefault, sorted; what is never reached; lists that are extended. -/
namespace DL
open PySem PySem.Spec L2 PyProof.Rows PySem.W LiI
section
variable {X : Cx} {K : PySem.W.Frag} {h : Fp} {H H' : Hp} {ω : Om} {a e value : Expr} {pos : Pos} {Ta Te Tv : TD}
theorem Wd.grow [Amb] (w : Wd K h H ω) (k : ∀ b o, H b = some o → H' b = some o) : Fr H ω H' ω ∧ Wd K h H' ω := by
  have f : Fr H ω H' ω := fun b o x y => ⟨k b o y, x⟩
  refine ⟨f, ⟨fun a c x => ?_, fun b x => ?_, fun b vs n x => ?_, Amb.mono w.amb f⟩⟩
  · have ok := w.cell a c x
    have e : H' a = H a := by
      cases z : H a with
      | none => exact absurd z ok.has
      | some o => exact k a o z
    exact ok.keep e f.kp
  · cases z : H b with
    | none => exact w.open_ b z
    | some o => have := k b o z; rw [x] at this; cases this
  · cases z : H b with
    | none => exact w.open_ b z
    | some o =>
      have := k b o z
      rw [x] at this
      cases this
      exact w.tup_ b vs n z
/-- a statement that is never reached -/
def dNever : TSD := fun _ _ _ => False
theorem ds_never [Amb] {st : Stmt} : DS X st dNever := PS.weak ps_never fun _ _ _ ⟨_, _, _, _, _, _, t, _⟩ => t
def keyD : L2.Key → D
  | .inl i => .int i
  | .inr s => .str s
/-- {k: v}, k a number, owned -/
def dDicK (Ta Tb : TD) : TD := fun ρ ω Q => ∀ p, ω p = none → Ta ρ (oset ω p (.dK [])) fun x ω1 => Tb ρ ω1 fun y ω2 => ∃ i : Int, x = .int i ∧ ω2 p = some (.dK []) ∧ Q (.raw (.ref p)) (oset ω2 p (.dK [(.inl i, y)]))
/-- list(d.items()) -/
def dItemsL (Ta : TD) : TD := fun ρ ω Q => Ta ρ ω fun x ω1 => ∃ (p : Addr) (kds : List (L2.Key × D)), x = .raw (.ref p) ∧ ω1 p = some (.dK kds) ∧ Q (.lst (kds.map fun q => .tup [keyD q.1, q.2])) ω1
/-- d.setdefault(i, v), d owned, keyed by numbers -/
def dSetd (Ta Te Tv : TD) : TD := fun ρ ω Q => Ta ρ ω fun x ω1 => ∃ p, x = .raw (.ref p) ∧ (∃ kds, ω1 p = some (.dK kds)) ∧ Te ρ ω1 fun y ω2 => Tv ρ ω2 fun z ω3 => ∃ (i : Int) (kds : List (L2.Key × D)), y = .int i ∧ ω3 p = some (.dK kds) ∧ kds.length < sizeLine ∧
  (∀ d, lookI kds i = some d → Q d ω3) ∧ (lookI kds i = none → Q z (oset ω3 p (.dK (kds ++ [(.inl i, z)]))))
/-- sorted(d), d keyed by numbers -/
def rSortDK : List V → Hp → VK → Prop := fun vs H Q => ∃ (a : Addr) (kvs : List (L2.Key × V)) (ks : List Int), vs = [.ref a] ∧ Rd H a (.dK kvs) ∧ kvs.map (·.1) = ks.map Sum.inl ∧
  ∀ (ys : List Int) (p : Addr), ys.Perm ks → ys.Pairwise (· ≤ ·) → H p = none → Q (.ref p) (upd H p (.lst (ys.map V.int)))
def dSortDK : DOn := fun xs ω Q => ∃ (p : Addr) (kds : List (L2.Key × D)) (ks : List Int), xs = [.raw (.ref p)] ∧ ω p = some (.dK kds) ∧ kds.map (·.1) = ks.map Sum.inl ∧ ∀ ys : List Int, ys.Perm ks → ys.Pairwise (· ≤ ·) → Q (.lst (ys.map D.int)) ω
/-- xs.extend(ys), xs owned -/
def dExt (Ta Te : TD) : TD := fun ρ ω Q => Ta ρ ω fun x ω1 => ∃ p, x = .raw (.ref p) ∧ (∃ xs, ω1 p = some (.lst xs)) ∧ Te ρ ω1 fun y ω2 => ∃ xs ys, ω2 p = some (.lst xs) ∧ y = .lst ys ∧ xs.length + ys.length ≤ sizeLine ∧ Q .non (oset ω2 p (.lst (xs ++ ys)))
/-! ### steps -/
variable {ρ : Rho} {Q : DQ}
theorem st_dicK (h : ∀ p, ω p = none → Ta ρ (oset ω p (.dK [])) fun x ω1 => Te ρ ω1 fun y ω2 => ∃ i : Int, x = .int i ∧ ω2 p = some (.dK []) ∧ Q (.raw (.ref p)) (oset ω2 p (.dK [(.inl i, y)]))) : dDicK Ta Te ρ ω Q := h
theorem st_itemsD (h : Ta ρ ω fun x ω1 => ∃ (p : Addr) (kds : List (L2.Key × D)), x = .raw (.ref p) ∧ ω1 p = some (.dK kds) ∧ Q (.lst (kds.map fun q => .tup [keyD q.1, q.2])) ω1) : dItemsL Ta ρ ω Q := h
theorem st_setd (h : Ta ρ ω fun x ω1 => ∃ p, x = .raw (.ref p) ∧ (∃ kds, ω1 p = some (.dK kds)) ∧ Te ρ ω1 fun y ω2 => Tv ρ ω2 fun z ω3 => ∃ (i : Int) (kds : List (L2.Key × D)), y = .int i ∧ ω3 p = some (.dK kds) ∧ kds.length < sizeLine ∧
  (∀ d, lookI kds i = some d → Q d ω3) ∧ (lookI kds i = none → Q z (oset ω3 p (.dK (kds ++ [(.inl i, z)]))))) : dSetd Ta Te Tv ρ ω Q := h
end
end DL

/-! TV: groups, moves and plans, as the program judges and makes them. -/
namespace DL
open PySem PySem.Spec L2
/-- a number from lo to hi -/
def numB : D → Int → Int → Bool
  | .int i, lo, hi => decide (lo ≤ i ∧ i ≤ hi)
  | _, _, _ => false
/-- numbers that grow, from the least on, below n -/
def upOk (n : Int) : Int → List D → Bool
  | _, [] => true
  | least, .int k :: xs => decide (least ≤ k ∧ k ≤ n - 1) && upOk n (k + 1) xs
  | _, _ :: _ => false
def isGrp (n : Int) : D → Bool
  | .tup xs => upOk n 0 xs
  | _ => false
def inG (gs : List Int) (d : D) : Bool := match d with
  | .int k => decide (k ∈ gs)
  | _ => false
theorem upOk_ints {n : Int} : ∀ (ns : List Int) (least : Int), (∀ k ∈ ns, k ≤ n - 1) → (upOk n least (ns.map D.int) = true ↔ (∀ k ∈ ns, least ≤ k) ∧ ns.Pairwise (· < ·))
  | [], least, _ => by simp [upOk]
  | k :: ns, least, h => by
    have ih := upOk_ints ns (k + 1) fun j hj => h j (List.mem_cons_of_mem _ hj)
    have hk := h k (by simp)
    rw [List.map_cons, List.pairwise_cons]
    simp only [upOk, Bool.and_eq_true, decide_eq_true_eq, ih]
    constructor
    · rintro ⟨⟨h1, _⟩, h2, h3⟩
      refine ⟨fun j hj => ?_, fun j hj => ?_, h3⟩
      · rcases List.mem_cons.mp hj with z | z
        · omega
        · have := h2 j z
          omega
      · have := h2 j hj
        omega
    · rintro ⟨h1, h2, h3⟩
      refine ⟨⟨h1 k (by simp), hk⟩, fun j hj => ?_, h3⟩
      have := h2 j hj
      omega
theorem upOk_get {n : Int} : ∀ (xs : List D) (least : Int), upOk n least xs = true → ∃ ns : List Int, xs = ns.map D.int ∧ (∀ k ∈ ns, least ≤ k ∧ k < n) ∧ ns.Pairwise (· < ·) ∧ (ns ≠ [] → (ns.length : Int) ≤ n - least)
  | [], _, _ => ⟨[], rfl, fun _ h => (nomatch h), .nil, fun h => absurd rfl h⟩
  | x :: xs, least, h => by
    cases x with
    | int k =>
      simp only [upOk, Bool.and_eq_true, decide_eq_true_eq] at h
      obtain ⟨ns, rfl, h1, h2, h3⟩ := upOk_get xs (k + 1) h.2
      refine ⟨k :: ns, rfl, fun j hj => ?_, List.pairwise_cons.mpr ⟨fun j hj => by have := h1 j hj; omega, h2⟩, fun _ => ?_⟩
      · rcases List.mem_cons.mp hj with z | z
        · omega
        · have := h1 j z
          omega
      · rw [List.length_cons]
        by_cases e : ns = []
        · subst e
          simp
          omega
        · have := h3 e
          omega
    | _ => simp [upOk] at h
def nums : D → List Int
  | .tup xs => xs.filterMap fun d => match d with | .int k => some k | _ => none
  | _ => []
theorem nums_ints (ns : List Int) : nums (.tup (ns.map D.int)) = ns := by
  show (ns.map D.int).filterMap _ = ns
  rw [List.filterMap_map]
  exact List.filterMap_some
theorem grp_get {n : Int} {v : D} (h : isGrp n v = true) (n0 : 0 ≤ n) : ∃ ns : List Int, v = .tup (ns.map D.int) ∧ nums v = ns ∧ (∀ k ∈ ns, 0 ≤ k ∧ k < n) ∧ ns.Pairwise (· < ·) ∧ (ns.length : Int) ≤ n := by
  cases v with
  | tup xs =>
    obtain ⟨ns, rfl, h1, h2, h3⟩ := upOk_get xs 0 h
    refine ⟨ns, rfl, nums_ints ns, h1, h2, ?_⟩
    by_cases e : ns = []
    · subst e
      exact n0
    · have := h3 e
      omega
  | _ => simp [isGrp] at h
/-- a possible move from a group -/
def movB (e : Int) (ws gs : List Int) : D → Bool
  | .tup [x, y] => isGrp ws.length x && (isGrp ws.length y && ((nums x).all (fun n => !decide (n ∈ gs)) && ((nums y).all (fun n => decide (n ∈ gs)) && (decide (1 ≤ wt ws (nums x) - wt ws (nums y)) && decide (wt ws (nums x) - wt ws (nums y) ≤ e)))))
  | _ => false
/-- the move from a group to another one, where there is one -/
def between (e : Int) (ws gs hs : List Int) : D :=
  if decide (1 ≤ wt ws hs - wt ws gs) && decide (wt ws hs - wt ws gs ≤ e) then .tup [.tup ((hs.filter fun n => !decide (n ∈ gs)).map D.int), .tup ((gs.filter fun n => !decide (n ∈ hs)).map D.int)] else .non
theorem GrpI.filt {n : Nat} {gs : List Int} (h : GrpI n gs) (t : Int → Bool) : GrpI n (gs.filter t) := ⟨fun k hk => h.1 k (List.mem_filter.mp hk).1, h.2.filter t⟩
theorem GrpI.ok {n : Nat} {gs : List Int} (h : GrpI n gs) : isGrp n (.tup (gs.map D.int)) = true := (upOk_ints gs 0 fun k hk => by have := h.1 k hk; omega).mpr ⟨fun k hk => (h.1 k hk).1, h.2⟩
theorem wt_diff {n : Nat} {ws gs hs : List Int} (hg : GrpI n gs) (hh : GrpI n hs) : wt ws (hs.filter fun k => !decide (k ∈ gs)) - wt ws (gs.filter fun k => !decide (k ∈ hs)) = wt ws hs - wt ws gs := by
  have a := wt_split ws (fun k => decide (k ∈ gs)) hs
  have b := wt_split ws (fun k => decide (k ∈ hs)) gs
  have c : (hs.filter fun k => decide (k ∈ gs)) = gs.filter fun k => decide (k ∈ hs) := sorted_eq (hh.2.filter _) (hg.2.filter _) fun k => by
    rw [List.mem_filter, List.mem_filter, decide_eq_true_eq, decide_eq_true_eq]
    exact and_comm
  rw [c] at a
  omega
theorem mov_between {e : Int} {ws gs hs : List Int} (hg : GrpI ws.length gs) (hh : GrpI ws.length hs) : movB e ws gs (.tup [.tup ((hs.filter fun n => !decide (n ∈ gs)).map D.int), .tup ((gs.filter fun n => !decide (n ∈ hs)).map D.int)]) = (decide (1 ≤ wt ws hs - wt ws gs) && decide (wt ws hs - wt ws gs ≤ e)) := by
  have a : ((hs.filter fun n => !decide (n ∈ gs)).all fun n => !decide (n ∈ gs)) = true := List.all_eq_true.mpr fun x hx => (List.mem_filter.mp hx).2
  have b : ((gs.filter fun n => !decide (n ∈ hs)).all fun n => decide (n ∈ gs)) = true := List.all_eq_true.mpr fun x hx => decide_eq_true (List.mem_filter.mp hx).1
  have ga : isGrp ws.length (.tup ((hs.filter fun n => !decide (n ∈ gs)).map D.int)) = true := (hh.filt _).ok
  have gb : isGrp ws.length (.tup ((gs.filter fun n => !decide (n ∈ hs)).map D.int)) = true := (hg.filt _).ok
  simp only [movB, nums_ints, ga, gb, a, b, Bool.true_and, wt_diff hg hh]
/-- the group after a move -/
def moved (gs dn un : List Int) : List Int := srt (gs.filter (fun n => !decide (n ∈ un)) ++ dn)
theorem mem_moved {gs dn un : List Int} {k : Int} : k ∈ moved gs dn un ↔ (k ∈ gs ∧ k ∉ un) ∨ k ∈ dn := by
  unfold moved
  rw [(srt_perm _).mem_iff, List.mem_append, List.mem_filter]
  simp
theorem moved_grp {n : Nat} {gs dn un : List Int} (h : GrpI n gs) (hd : ∀ k ∈ dn, 0 ≤ k ∧ k < (n : Int) ∧ k ∉ gs) (pd : dn.Pairwise (· < ·)) : GrpI n (moved gs dn un) := by
  refine ⟨fun k hk => ?_, ?_⟩
  · rcases mem_moved.mp hk with z | z
    · exact h.1 k z.1
    · have := hd k z
      omega
  · have nd : (gs.filter (fun n => !decide (n ∈ un)) ++ dn).Nodup := by
      rw [List.nodup_append]
      refine ⟨(lt_nodup h.2).filter _, lt_nodup pd, fun x hx y hy e => ?_⟩
      subst e
      exact (hd x hy).2.2 (List.mem_filter.mp hx).1
    have nd2 : (moved gs dn un).Nodup := (srt_perm _).nodup_iff.mpr nd
    exact (List.pairwise_and_iff.mpr ⟨srt_le _, nd2⟩).imp fun z => Int.lt_iff_le_and_ne.mpr z
theorem mov_get {e : Int} {ws gs : List Int} {x : D} (h : movB e ws gs x = true) : ∃ dn un : List Int, x = .tup [.tup (dn.map D.int), .tup (un.map D.int)] ∧ GrpI ws.length dn ∧ GrpI ws.length un ∧ (∀ k ∈ dn, k ∉ gs) ∧ (∀ k ∈ un, k ∈ gs) := by
  match x, h with
  | .tup [x, y], h =>
    simp only [movB, Bool.and_eq_true] at h
    obtain ⟨g1, g2, a1, a2, _⟩ := h
    obtain ⟨dn, rfl, n1, h1, p1, _⟩ := grp_get g1 (by omega)
    obtain ⟨un, rfl, n2, h2, p2, _⟩ := grp_get g2 (by omega)
    rw [n1] at a1
    rw [n2] at a2
    refine ⟨dn, un, rfl, ⟨h1, p1⟩, ⟨h2, p2⟩, fun k hk => ?_, fun k hk => ?_⟩
    · have := List.all_eq_true.mp a1 k hk
      simpa using this
    · have := List.all_eq_true.mp a2 k hk
      simpa using this
/-- the group after something that is a move -/
def stepG (gs : List Int) : D → List Int
  | .tup [x, y] => moved gs (nums x) (nums y)
  | _ => gs
theorem stepG_pair {gs dn un : List Int} : stepG gs (.tup [.tup (dn.map D.int), .tup (un.map D.int)]) = moved gs dn un := by
  show moved gs (nums (.tup (dn.map D.int))) (nums (.tup (un.map D.int))) = _
  rw [nums_ints, nums_ints]
/-- moves, one after another -/
def planL (e : Int) (ws : List Int) : List Int → List D → Bool
  | _, [] => true
  | gs, x :: xs => movB e ws gs x && planL e ws (stepG gs x) xs
def planB (e : Int) (ws gs : List Int) : D → Bool
  | .tup xs => planL e ws gs xs
  | _ => false
abbrev Mv := List Int × List Int
def mvD (m : Mv) : D := .tup [.tup (m.1.map D.int), .tup (m.2.map D.int)]
def after (gs : List Int) (ms : List Mv) : List Int := ms.foldl (fun g m => moved g m.1 m.2) gs
/-- the groups that a plan goes through -/
def grps (gs : List Int) (ms : List Mv) (i : Nat) : List D := (List.range (i + 1)).map fun j => .tup ((after gs (ms.take j)).map D.int)
/-- small enough to go through -/
def Thin (gs : List Int) (ms : List Mv) : Prop := ms.length ≤ 2000 ∧ ∀ (i : Nat) m, ms[i]? = some m → (after gs (ms.take i)).length ≤ 100 ∧ m.1.length ≤ 100
theorem wt_app (ws xs ys : List Int) : wt ws (xs ++ ys) = wt ws xs + wt ws ys := by
  unfold wt
  rw [List.map_append, List.sum_append]
theorem wt_perm (ws : List Int) {xs ys : List Int} (h : xs.Perm ys) : wt ws xs = wt ws ys := by
  unfold wt
  induction h with
  | nil => rfl
  | cons a _ ih => rw [List.map_cons, List.map_cons, List.sum_cons, List.sum_cons, ih]
  | swap a b l =>
    simp only [List.map_cons, List.sum_cons]
    omega
  | trans _ _ h1 h2 => exact h1.trans h2
theorem wt_moved {n : Nat} {ws gs dn un : List Int} (hg : GrpI n gs) (hu : GrpI n un) (su : ∀ k ∈ un, k ∈ gs) : wt ws (moved gs dn un) = wt ws gs + (wt ws dn - wt ws un) := by
  unfold moved
  rw [wt_perm ws (srt_perm _), wt_app]
  have a := wt_split ws (fun k => decide (k ∈ un)) gs
  have b : (gs.filter fun k => decide (k ∈ un)) = un := sorted_eq (hg.2.filter _) hu.2 fun k => by
    rw [List.mem_filter, decide_eq_true_eq]
    exact ⟨fun h => h.2, fun h => ⟨su k h, h⟩⟩
  rw [b] at a
  omega
theorem mov_some {e : Int} {ws gs dn un : List Int} (hd : GrpI ws.length dn) (hu : GrpI ws.length un) (sd : ∀ k ∈ dn, k ∉ gs) (su : ∀ k ∈ un, k ∈ gs) : movB e ws gs (.tup [.tup (dn.map D.int), .tup (un.map D.int)]) = (decide (1 ≤ wt ws dn - wt ws un) && decide (wt ws dn - wt ws un ≤ e)) := by
  have a : (dn.all fun n => !decide (n ∈ gs)) = true := List.all_eq_true.mpr fun x hx => by rw [decide_eq_false (sd x hx)]; rfl
  have b : (un.all fun n => decide (n ∈ gs)) = true := List.all_eq_true.mpr fun x hx => decide_eq_true (su x hx)
  simp only [movB, nums_ints, hd.ok, hu.ok, a, b, Bool.true_and]
theorem moved_back {n : Nat} {gs hs : List Int} (hg : GrpI n gs) (hh : GrpI n hs) : moved gs (hs.filter fun k => !decide (k ∈ gs)) (gs.filter fun k => !decide (k ∈ hs)) = hs := by
  have g : GrpI n (moved gs (hs.filter fun k => !decide (k ∈ gs)) (gs.filter fun k => !decide (k ∈ hs))) := moved_grp hg (fun k hk => by
    obtain ⟨h1, h2⟩ := List.mem_filter.mp hk
    have h3 := hh.1 k h1
    exact ⟨h3.1, h3.2, by simpa using h2⟩) (hh.2.filter _)
  refine sorted_eq g.2 hh.2 fun k => ?_
  rw [mem_moved, List.mem_filter, List.mem_filter]
  by_cases a : k ∈ gs <;> by_cases b : k ∈ hs <;> simp [a, b]
end DL

/-! TW: the sums of groups, ways over them, the fewest moves. -/
namespace DL
open PySem PySem.Spec L2
/-! ### sums -/
def sumsL (ws : List Int) : List Int := (ups (ws.sum.toNat + 1)).filter fun s => (allG ws.length).any fun g => decide (wt ws g = s)
theorem sumsL_lt (ws : List Int) : (sumsL ws).Pairwise (· < ·) := (ups_lt _).filter _
theorem mem_sumsL {ws : List Int} (h1 : ∀ w ∈ ws, 1 ≤ w) {s : Int} : s ∈ sumsL ws ↔ ∃ g, GrpI ws.length g ∧ wt ws g = s := by
  unfold sumsL
  rw [List.mem_filter, mem_ups, List.any_eq_true]
  constructor
  · rintro ⟨_, g, hg, e⟩
    exact ⟨g, allG_grp hg, of_decide_eq_true e⟩
  · rintro ⟨g, hg, rfl⟩
    have a := wt_nonneg h1 hg
    have b := grp_sum h1 hg
    exact ⟨⟨a, by omega⟩, g, grp_allG hg, decide_eq_true rfl⟩
def btw (ws : List Int) (lo hi : Int) : List Int := (sumsL ws).filter fun s => decide (lo ≤ s) && decide (s ≤ hi)
theorem mem_btw {ws : List Int} {lo hi s : Int} : s ∈ btw ws lo hi ↔ s ∈ sumsL ws ∧ lo ≤ s ∧ s ≤ hi := by
  unfold btw
  rw [List.mem_filter, Bool.and_eq_true, decide_eq_true_eq, decide_eq_true_eq]
theorem btw_lt (ws : List Int) (lo hi : Int) : (btw ws lo hi).Pairwise (· < ·) := (sumsL_lt ws).filter _
/-! ### neighbours -/
def adj (l : List Int) : List (Int × Int) := l.zip l.tail
def gapL (x : Int) (l : List Int) : Option (Int × Int) := (adj l).find? fun p => decide (x < p.2 - p.1)
theorem adj_cons (a b : Int) (l : List Int) : adj (a :: b :: l) = (a, b) :: adj (b :: l) := rfl
theorem gapL_none {x : Int} {l : List Int} : gapL x l = none ↔ ∀ p ∈ adj l, p.2 - p.1 ≤ x := by
  unfold gapL
  rw [List.find?_eq_none]
  constructor
  · intro h p hp
    have := h p hp
    simp only [decide_eq_true_eq] at this
    omega
  · intro h p hp
    have := h p hp
    simp only [decide_eq_true_eq]
    omega
theorem gapL_some {x : Int} {l : List Int} {p : Int × Int} (h : gapL x l = some p) : p ∈ adj l ∧ x < p.2 - p.1 := by
  unfold gapL at h
  exact ⟨List.mem_of_find?_eq_some h, by simpa using List.find?_some h⟩
/-- nothing of the set lies strictly between neighbours -/
def Cons (S : Int → Prop) (l : List Int) : Prop := ∀ p ∈ adj l, p.1 < p.2 ∧ S p.1 ∧ S p.2 ∧ ∀ s, S s → s < p.2 → s ≤ p.1
theorem adj_mem : ∀ {l : List Int} {p : Int × Int}, p ∈ adj l → p.1 ∈ l ∧ p.2 ∈ l
  | [], _, h => nomatch h
  | [_], _, h => nomatch h
  | a :: b :: l, p, h => by
    rw [adj_cons] at h
    rcases List.mem_cons.mp h with z | z
    · subst z; exact ⟨List.mem_cons_self, List.mem_cons_of_mem _ List.mem_cons_self⟩
    · have := adj_mem z
      exact ⟨List.mem_cons_of_mem _ this.1, List.mem_cons_of_mem _ this.2⟩
theorem adj_lt : ∀ {l : List Int}, l.Pairwise (· < ·) → ∀ {p : Int × Int}, p ∈ adj l → p.1 < p.2 ∧ ∀ s ∈ l, s < p.2 → s ≤ p.1
  | [], _, _, h => nomatch h
  | [_], _, _, h => nomatch h
  | a :: b :: l, hl, p, h => by
    have hl' := List.pairwise_cons.mp hl
    have hb := List.pairwise_cons.mp hl'.2
    rw [adj_cons] at h
    rcases List.mem_cons.mp h with z | z
    · subst z
      refine ⟨hl'.1 b List.mem_cons_self, fun s hs lt => ?_⟩
      rcases List.mem_cons.mp hs with y | y
      · omega
      · rcases List.mem_cons.mp y with u | u
        · omega
        · have := hb.1 s u; omega
    · obtain ⟨c1, c2⟩ := adj_lt hl'.2 z
      refine ⟨c1, fun s hs lt => ?_⟩
      rcases List.mem_cons.mp hs with y | y
      · subst y
        have := hl'.1 p.1 (adj_mem z).1
        omega
      · exact c2 s y lt
theorem cons_btw {ws : List Int} {lo hi : Int} : Cons (· ∈ sumsL ws) (btw ws lo hi) := fun p hp => by
  obtain ⟨a, b⟩ := adj_lt (btw_lt ws lo hi) hp
  obtain ⟨m1, m2⟩ := adj_mem hp
  have n1 := mem_btw.mp m1
  have n2 := mem_btw.mp m2
  refine ⟨a, n1.1, n2.1, fun s hs lt => ?_⟩
  by_cases c : lo ≤ s
  · exact b s (mem_btw.mpr ⟨hs, c, by omega⟩) lt
  · omega
/-! ### ways -/
/-- k steps from s to u, each of 1 to x, over the set -/
def Way (S : Int → Prop) (x : Int) : Nat → Int → Int → Prop
  | 0, s, u => s = u
  | k + 1, s, u => ∃ t, S t ∧ 1 ≤ t - s ∧ t - s ≤ x ∧ Way S x k t u
theorem Way.le {S : Int → Prop} {x : Int} : ∀ {k : Nat} {s u : Int}, Way S x k s u → s + k ≤ u
  | 0, s, u, h => by have h : s = u := h; omega
  | k + 1, s, u, ⟨t, _, a, _, h⟩ => by have := Way.le h; omega
theorem Way.mono {S S' : Int → Prop} {x x' : Int} (hS : ∀ s, S s → S' s) (hx : x ≤ x') : ∀ {k : Nat} {s u : Int}, Way S x k s u → Way S' x' k s u
  | 0, _, _, h => h
  | k + 1, _, _, ⟨t, a, b, c, h⟩ => ⟨t, hS t a, b, by omega, Way.mono hS hx h⟩
theorem Way.trans {S : Int → Prop} {x : Int} : ∀ {k j : Nat} {s t u : Int}, Way S x k s t → Way S x j t u → Way S x (k + j) s u
  | 0, j, s, t, u, h, h' => by have h : s = t := h; rw [h, Nat.zero_add]; exact h'
  | k + 1, j, s, t, u, ⟨r, a, b, c, h⟩, h' => by
    rw [show k + 1 + j = (k + j) + 1 by omega]
    exact ⟨r, a, b, c, Way.trans h h'⟩
/-- the stops behind the last one -/
def grd (x : Int) : Int → List Int → List Int
  | last, a :: b :: l => if x < b - last then a :: grd x a (b :: l) else grd x last (b :: l)
  | _, _ => []
theorem cons_last {S : Int → Prop} : ∀ {l : List Int} {a hi : Int}, Cons S (a :: l) → (a :: l).getLast? = some hi → a ≤ hi
  | [], a, hi, _, e => by cases e; exact Int.le_refl _
  | b :: l, a, hi, hc, e => by
    have hab := hc (a, b) (by rw [adj_cons]; exact List.mem_cons_self)
    have := cons_last (fun p hp => hc p (by rw [adj_cons]; exact List.mem_cons_of_mem _ hp)) (by rw [List.getLast?_cons_cons] at e; exact e)
    have := hab.1
    omega
theorem grd_low {S : Int → Prop} {x hi : Int} : ∀ {l : List Int} {last t : Int} {k : Nat}, Cons S l → l.getLast? = some hi → last < hi → t ≤ last → Way S x k t hi → (grd x last l).length + 1 ≤ k
  | [], _, _, _, _, e, _, _, _ => nomatch e
  | [a], last, t, k, _, _, lt, tl, w => by
    cases k with
    | zero => have w : t = hi := w; omega
    | succ k => simp [grd]
  | a :: b :: l, last, t, k, hc, e, lt, tl, w => by
    have hab := hc (a, b) (by rw [adj_cons]; exact List.mem_cons_self)
    have hc' : Cons S (b :: l) := fun p hp => hc p (by rw [adj_cons]; exact List.mem_cons_of_mem _ hp)
    have e' : (b :: l).getLast? = some hi := by rw [List.getLast?_cons_cons] at e; exact e
    unfold grd
    split
    · rename_i c
      cases k with
      | zero => have w : t = hi := w; omega
      | succ k =>
        obtain ⟨t1, s1, w1, w2, w3⟩ := w
        have ta : t1 ≤ a := hab.2.2.2 t1 s1 (by omega)
        have bh : b ≤ hi := cons_last hc' e'
        have := grd_low hc' e' (by have := hab.1; omega) ta w3
        rw [List.length_cons]
        omega
    · exact grd_low hc' e' lt tl w
theorem grd_up {S : Int → Prop} {x hi : Int} : ∀ {a : Int} {l : List Int} {last : Int}, Cons S (a :: l) → (∀ p ∈ adj (a :: l), p.2 - p.1 ≤ x) → (a :: l).getLast? = some hi → S hi → last < hi → last ≤ a → a - last ≤ x → Way S x ((grd x last (a :: l)).length + 1) last hi
  | a, [], last, _, _, e, sh, lt, la, lx => by
    have e : a = hi := by simpa using e
    subst e
    exact ⟨a, sh, by omega, lx, rfl⟩
  | a, b :: l, last, hc, hg, e, sh, lt, la, lx => by
    have hab := hc (a, b) (by rw [adj_cons]; exact List.mem_cons_self)
    have gab := hg (a, b) (by rw [adj_cons]; exact List.mem_cons_self)
    have hc' : Cons S (b :: l) := fun p hp => hc p (by rw [adj_cons]; exact List.mem_cons_of_mem _ hp)
    have hg' : ∀ p ∈ adj (b :: l), p.2 - p.1 ≤ x := fun p hp => hg p (by rw [adj_cons]; exact List.mem_cons_of_mem _ hp)
    have e' : (b :: l).getLast? = some hi := by rw [List.getLast?_cons_cons] at e; exact e
    have bh := cons_last hc' e'
    have h1 := hab.1
    have g1 : b - a ≤ x := gab
    have h1 : a < b := h1
    unfold grd
    split
    · rename_i c
      rw [List.length_cons]
      exact ⟨a, hab.2.1, by omega, lx, grd_up hc' hg' e' sh (by omega) (by omega) g1⟩
    · exact grd_up hc' hg' e' sh lt (by omega) (by omega)
theorem way_gap {S : Int → Prop} {x a b hi : Int} (hn : ∀ s, S s → s < b → s ≤ a) (hab : a < b) (hx : x < b - a) (hb : b ≤ hi) : ∀ {k : Nat} {t : Int}, t ≤ a → ¬ Way S x k t hi
  | 0, t, h, w => by have w : t = hi := w; omega
  | k + 1, t, h, w => by
    obtain ⟨t1, s1, w1, w2, w3⟩ := w
    have lt : t1 < b := by omega
    exact way_gap hn hab hx hb (hn t1 s1 lt) w3
/-! ### the fewest moves between sums -/
/-- the least number of steps from lo up to hi, if any -/
def fewW (x : Int) (ws : List Int) (lo hi : Int) : Option Nat := if (gapL x (btw ws lo hi)).isSome then none else some ((grd x lo (btw ws lo hi)).length + 1)
theorem btw_ends {ws : List Int} {lo hi : Int} (hlo : lo ∈ sumsL ws) (hhi : hi ∈ sumsL ws) (lt : lo < hi) : ∃ l, btw ws lo hi = lo :: l ∧ (lo :: l).getLast? = some hi := by
  have hs := btw_lt ws lo hi
  have m1 : lo ∈ btw ws lo hi := mem_btw.mpr ⟨hlo, Int.le_refl _, by omega⟩
  have m2 : hi ∈ btw ws lo hi := mem_btw.mpr ⟨hhi, by omega, Int.le_refl _⟩
  have low : ∀ s ∈ btw ws lo hi, lo ≤ s ∧ s ≤ hi := fun s h => (mem_btw.mp h).2
  generalize btw ws lo hi = l at *
  cases l with
  | nil => exact absurd m1 List.not_mem_nil
  | cons a l =>
    have e : a = lo := by
      rcases List.mem_cons.mp m1 with z | z
      · exact z.symm
      · have := (List.pairwise_cons.mp hs).1 lo z
        have := (low a List.mem_cons_self).1
        omega
    subst e
    refine ⟨l, rfl, ?_⟩
    obtain ⟨z, ez⟩ : ∃ z, (a :: l).getLast? = some z := ⟨(a :: l).getLast (by simp), List.getLast?_eq_some_getLast (by simp)⟩
    have zm := low z (List.mem_of_getLast? ez)
    have hz : hi ≤ z := by
      obtain ⟨pre, ep⟩ := List.getLast?_eq_some_iff.mp ez
      rw [ep] at hs m2
      rcases List.mem_append.mp m2 with y | y
      · have := (List.pairwise_append.mp hs).2.2 hi y z (List.mem_singleton.mpr rfl)
        omega
      · rw [List.mem_singleton] at y; omega
    rw [ez, show z = hi by omega]
theorem fewW_some {x : Int} {ws : List Int} {lo hi : Int} {k : Nat} (hlo : lo ∈ sumsL ws) (hhi : hi ∈ sumsL ws) (lt : lo < hi) (x0 : 0 ≤ x) (h : fewW x ws lo hi = some k) : Way (· ∈ sumsL ws) x k lo hi ∧ ∀ j, Way (· ∈ sumsL ws) x j lo hi → k ≤ j := by
  obtain ⟨l, el, eh⟩ := btw_ends hlo hhi lt
  have hc := cons_btw (ws := ws) (lo := lo) (hi := hi)
  unfold fewW at h
  rw [el] at h hc
  split at h
  · cases h
  · rename_i c
    cases h
    have gn : gapL x (lo :: l) = none := by
      cases z : gapL x (lo :: l) with
      | none => rfl
      | some p => rw [z] at c; exact absurd rfl c
    exact ⟨grd_up hc (gapL_none.mp gn) eh hhi lt (Int.le_refl _) (by omega), fun j w => grd_low hc eh lt (Int.le_refl _) w⟩
theorem fewW_none {x : Int} {ws : List Int} {lo hi : Int} (h : fewW x ws lo hi = none) : ∀ j, ¬ Way (· ∈ sumsL ws) x j lo hi := by
  unfold fewW at h
  split at h
  · rename_i c
    obtain ⟨p, ep⟩ := Option.isSome_iff_exists.mp c
    obtain ⟨pm, px⟩ := gapL_some ep
    obtain ⟨c1, c2, c3, c4⟩ := cons_btw (ws := ws) (lo := lo) (hi := hi) p pm
    obtain ⟨m1, m2⟩ := adj_mem pm
    exact fun j => way_gap c4 c1 px (mem_btw.mp m2).2.2 (mem_btw.mp m1).2.1
  · cases h
/-- what the least number is, in words -/
theorem fewW_iff {x : Int} {ws : List Int} {lo hi : Int} (hlo : lo ∈ sumsL ws) (hhi : hi ∈ sumsL ws) (lt : lo < hi) (x0 : 0 ≤ x) {o : Option Nat} : fewW x ws lo hi = o ↔ match o with
    | none => ∀ j, ¬ Way (· ∈ sumsL ws) x j lo hi
    | some k => Way (· ∈ sumsL ws) x k lo hi ∧ ∀ j, Way (· ∈ sumsL ws) x j lo hi → k ≤ j := by
  constructor
  · rintro rfl
    cases h : fewW x ws lo hi with
    | none => exact fewW_none h
    | some k => exact fewW_some hlo hhi lt x0 h
  · intro h
    cases o with
    | none =>
      cases z : fewW x ws lo hi with
      | none => rfl
      | some k => exact (h k (fewW_some hlo hhi lt x0 z).1).elim
    | some k =>
      cases z : fewW x ws lo hi with
      | none => exact (fewW_none z k h.1).elim
      | some j =>
        obtain ⟨a, b⟩ := fewW_some hlo hhi lt x0 z
        have := b k h.1
        have := h.2 j a
        rw [show j = k by omega]
/-- the fewest moves from one group to another -/
def fewN (x : Int) (ws g h : List Int) : Option Nat := if g = h then some 0 else if wt ws h ≤ wt ws g then none else fewW x ws (wt ws g) (wt ws h)
end DL
namespace DL
open PySem PySem.Spec L2
/-- each one is above the one before by 1 to x -/
def ClimbI (x : Int) : List Int → Prop
  | s :: t :: r => (1 ≤ t - s ∧ t - s ≤ x) ∧ ClimbI x (t :: r)
  | _ => True
/-! ### rows of groups -/
def mvAt (g h : List Int) : Mv := (h.filter (fun n => !decide (n ∈ g)), g.filter (fun n => !decide (n ∈ h)))
/-- the moves along a row of groups -/
def mvsOf : List (List Int) → List Mv
  | g :: h :: r => mvAt g h :: mvsOf (h :: r)
  | _ => []
def Climb (x : Int) (ws : List Int) (r : List (List Int)) : Prop := ClimbI x (r.map (wt ws))
structure Route [Amb] (x : Int) (ws g h : List Int) (r : List (List Int)) : Prop where
  hd : r.head? = some g
  la : r.getLast? = some h
  grp : ∀ k ∈ r, GrpI ws.length k
  up : Climb x ws r
def pairsG : List (List Int) → List D
  | g :: h :: r => .tup [tupI g, tupI h] :: pairsG (h :: r)
  | _ => []
end DL

/-! TY: a, *b = a tuple. -/
namespace DL
open PySem PySem.Spec L2 PyProof.Rows PySem.W PySem.Calls
section
variable {X : Cx} {K : PySem.W.Frag} {pos : Pos} {es : List Expr}
/-- first, *rest = a tuple that is not empty -/
def gStar (K : PySem.W.Frag) (t : TGs) : TG := fun v σ H Q => ∃ a x xs, v = .ref a ∧ SqT K H a (x :: xs) ∧ xs.length ≤ 16000 ∧ ∀ d, H d = none → t [x, .ref d] σ (upd H d (.lst xs)) Q
/-- first, *rest = a tuple that is not empty -/
def dgStar (t : TGsD) : TGD := fun x ρ ω Q => ∃ y ys, x = .tup (y :: ys) ∧ ys.length ≤ 16000 ∧ t [y, .lst ys] ρ ω Q
/-- the starred name in such a store -/
theorem dgs_starred [Amb] {i : Nat} {x : Str} {p p2 : Pos} (hN : X.N.Nodup) (hi : X.N[i]? = some x) (hx : L2.Loc X.env.scope x) (hf : X.fn x = true ∨ X.env.scope.names.lookup x = some .local := by first | exact .inl rfl | exact .inr rfl | assumption) (hs : (assignEach [Expr.Starred (.Name x p) p2] X.env).map (·.2) = [assign (.Name x p) X.env] := by rfl) : DGs X [Expr.Starred (.Name x p) p2] (dgCons (dgName i) dgNil) := by
  have base : DGs X [.Name x p] (dgCons (dgName i) dgNil) := dgs_cons (dg_name hN hi hx hf) dgs_nil
  refine ⟨fun pins s σ H vs us Q I r t => ?_⟩
  rw [hs]
  exact base.run pins s σ H vs us Q I r t
end
/-! ### plans that are judged -/
def endG (g : List Int) : D → List Int
  | .tup xs => xs.foldl stepG g
  | _ => g
def leadsB (x : Int) (ws g h : List Int) (v : D) : Bool := planB x ws g v && decide (endG g v = h)
theorem mov_wt {x : Int} {ws g : List Int} {d : D} (hg : GrpI ws.length g) (h : movB x ws g d = true) : ∃ m : Mv, d = mvD m ∧ stepG g d = moved g m.1 m.2 ∧ GrpI ws.length (stepG g d) ∧ GrpI ws.length m.1 ∧ 1 ≤ wt ws (stepG g d) - wt ws g ∧ wt ws (stepG g d) - wt ws g ≤ x := by
  obtain ⟨dn, un, rfl, h1, h2, h3, h4⟩ := mov_get h
  rw [mov_some h1 h2 h3 h4] at h
  have hm : GrpI ws.length (moved g dn un) := moved_grp hg (fun k hk => ⟨(h1.1 k hk).1, (h1.1 k hk).2, h3 k hk⟩) h1.2
  have ew := wt_moved (ws := ws) (gs := g) (dn := dn) (un := un) hg h2 h4
  simp only [Bool.and_eq_true, decide_eq_true_eq] at h
  refine ⟨(dn, un), rfl, stepG_pair, by rw [stepG_pair]; exact hm, h1, ?_, ?_⟩
  · rw [stepG_pair, ew]; omega
  · rw [stepG_pair, ew]; omega
/-- a plan that is possible is a way -/
theorem plan_way {x : Int} {ws : List Int} (h1 : ∀ w ∈ ws, 1 ≤ w) : ∀ {xs : List D} {g : List Int}, GrpI ws.length g → planL x ws g xs = true → Way (· ∈ sumsL ws) x xs.length (wt ws g) (wt ws (xs.foldl stepG g))
  | [], g, _, _ => rfl
  | d :: xs, g, hg, h => by
    have h : movB x ws g d = true ∧ planL x ws (stepG g d) xs = true := by simpa [planL] using h
    obtain ⟨m, e, es, hm, hd, a, b⟩ := mov_wt hg h.1
    exact ⟨wt ws (stepG g d), (mem_sumsL h1).mpr ⟨_, hm, rfl⟩, a, b, plan_way h1 hm h.2⟩
/-- the moves along a row of groups are a plan -/
theorem row_plan {x : Int} {ws : List Int} : ∀ {r : List (List Int)} {g : List Int}, (∀ k ∈ g :: r, GrpI ws.length k) → Climb x ws (g :: r) → planL x ws g ((mvsOf (g :: r)).map mvD) = true ∧ ((mvsOf (g :: r)).map mvD).foldl stepG g = (g :: r).getLast (by simp)
  | [], g, _, _ => ⟨rfl, rfl⟩
  | h :: r, g, hg, hc => by
    have hc : (1 ≤ wt ws h - wt ws g ∧ wt ws h - wt ws g ≤ x) ∧ Climb x ws (h :: r) := hc
    have gg := hg g List.mem_cons_self
    have gh := hg h (List.mem_cons_of_mem _ List.mem_cons_self)
    have st : stepG g (mvD (mvAt g h)) = h := by
      show stepG g (.tup [.tup _, .tup _]) = h
      rw [stepG_pair]
      exact moved_back gg gh
    obtain ⟨i1, i2⟩ := row_plan (r := r) (g := h) (fun k hk => hg k (List.mem_cons_of_mem _ hk)) hc.2
    have mv : movB x ws g (mvD (mvAt g h)) = true := by
      show movB x ws g (.tup [.tup _, .tup _]) = true
      have z := mov_between (e := x) gg gh
      unfold mvAt
      rw [z, decide_eq_true hc.1.1, decide_eq_true hc.1.2]
      rfl
    refine ⟨?_, ?_⟩
    · show (movB x ws g (mvD (mvAt g h)) && planL x ws (stepG g (mvD (mvAt g h))) ((mvsOf (h :: r)).map mvD)) = true
      rw [mv, st, i1]
      rfl
    · show ((mvsOf (h :: r)).map mvD).foldl stepG (stepG g (mvD (mvAt g h))) = _
      rw [st, i2]
      rfl
def optN : Option Nat → D
  | none => .non
  | some k => .int k
/-- certificates -/
inductive Cert where
  | plan (v : D)
  | light
  | gap (a b : Int)
def certD : Cert → D
  | .plan v => .tup [.str "plan", v]
  | .light => .tup [.str "light"]
  | .gap a b => .tup [.str "gap", .int a, .int b]
def gapB (x : Int) (ws : List Int) (lo hi a b : Int) : Bool := decide (lo ≤ a ∧ a ≤ hi) && decide (lo ≤ b ∧ b ≤ hi) && decide (x < b - a) && !((sumsL ws).any fun s => decide (a < s) && decide (s < b))
def certB (x : Int) (ws g h : List Int) : Cert → Bool
  | .plan v => leadsB x ws g h v
  | .light => !decide (g = h) && decide (wt ws h ≤ wt ws g)
  | .gap a b => gapB x ws (wt ws g) (wt ws h) a b
end DL

/-! TZ: reach, and plans from nobody. -/
namespace DL
open PySem PySem.Spec L2
theorem grp_nil (n : Nat) : GrpI n [] := ⟨fun _ h => (nomatch h), List.Pairwise.nil⟩
theorem grp_ups (n : Nat) : GrpI n (ups n) := ⟨fun _ hk => mem_ups.mp hk, ups_lt _⟩
/-- reach is a group's weight -/
theorem rch_mem {x : Int} {ws : List Int} (h1 : ∀ w ∈ ws, 1 ≤ w) (x0 : 0 ≤ x) : rch x ws ∈ sumsL ws := by
  have r0 := rch_nonneg (e := x) h1
  obtain ⟨g, hg, lt, mx⟩ := best (f := wt ws) (t := rch x ws + 1) (S := allG ws.length) ⟨[], grp_allG (grp_nil _), by rw [wt_nil]; omega⟩
  have gg := allG_grp hg
  have g0 := wt_nonneg h1 gg
  refine (mem_sumsL h1).mpr ⟨g, gg, ?_⟩
  by_cases c : wt ws g < rch x ws
  · obtain ⟨ns, n1, n2, n3⟩ := rch_next (x := x) h1 (wt ws g) g0 c
    have := rch_step h1 x0 n1 (g := g) (by omega) (by omega)
    have := mx ns (grp_allG n1) (by omega)
    omega
  · omega
/-- neighbours up to reach are not too far apart -/
theorem near_adj {x : Int} {ws : List Int} (h1 : ∀ w ∈ ws, 1 ≤ w) {a b : Int} (ha : a ∈ sumsL ws) (hb : b ≤ rch x ws) (lt : a < b) (hn : ∀ s ∈ sumsL ws, s < b → s ≤ a) : b - a ≤ x := by
  obtain ⟨g, gg, rfl⟩ := (mem_sumsL h1).mp ha
  obtain ⟨ns, n1, n2, n3⟩ := rch_next (x := x) h1 (wt ws g) (wt_nonneg h1 gg) (by omega)
  have ms : wt ws ns ∈ sumsL ws := (mem_sumsL h1).mpr ⟨ns, n1, rfl⟩
  by_cases c : wt ws ns < b
  · have := hn _ ms c
    omega
  · omega
/-- within reach are the groups of those who are lighter than whoever is stuck -/
theorem near_light {x p : Int} {ws g : List Int} (h1 : ∀ w ∈ ws, 1 ≤ w) (x0 : 0 ≤ x) (hg : GrpI ws.length g) (hs : stk x ws = some p) : wt ws g ≤ rch x ws ↔ ∀ k ∈ g, wAt ws k < wAt ws p := by
  rcases rch_cases x ws with ⟨_, h, _⟩ | ⟨p', h, _, _, _, st, r, _⟩
  · rw [hs] at h; cases h
  · rw [hs] at h
    cases h
    rw [r]
    constructor
    · intro le k hk
      have : wAt ws k ≤ wt ws g := wt_mem h1 hg.1 hk
      omega
    · intro h
      exact wt_lite h1 hg h
/-- what the certificate from nobody is -/
theorem bar_gap {x : Int} {ws g : List Int} (h1 : ∀ w ∈ ws, 1 ≤ w) (hg : GrpI ws.length g) (hn : fewN x ws [] g = none) : ∃ p, gapL x (btw ws (wt ws []) (wt ws g)) = some p ∧ ¬ wt ws g ≤ wt ws [] := by
  unfold fewN at hn
  split at hn
  · cases hn
  · rename_i c
    have wp : 1 ≤ wt ws g := by
      have := wt_pos h1 hg.1
      have : 0 < g.length := List.length_pos_iff.mpr fun z => c z.symm
      omega
    rw [if_neg (by rw [wt_nil]; omega)] at hn
    unfold fewW at hn
    split at hn
    · rename_i c2
      obtain ⟨p, ep⟩ := Option.isSome_iff_exists.mp c2
      exact ⟨p, ep, by rw [wt_nil]; omega⟩
    · cases hn
end DL

/-! TQ: reach as a least fixed point; no fewer stones do. -/
namespace DL
open PySem PySem.Spec L2
/-- what all those weigh who are light enough with t ahead -/
def fixF (e : Int) (ws : List Int) (t : Int) : Int := (ws.filter fun w => decide (w ≤ e + t)).sum
theorem sum_filter_le {p q : Int → Bool} : ∀ {l : List Int}, (∀ w ∈ l, 0 ≤ w) → (∀ w ∈ l, p w = true → q w = true) → (l.filter p).sum ≤ (l.filter q).sum
  | [], _, _ => Int.le_refl _
  | w :: l, h, hpq => by
    have ih := sum_filter_le (p := p) (q := q) (l := l) (fun v hv => h v (List.mem_cons_of_mem _ hv)) fun v hv => hpq v (List.mem_cons_of_mem _ hv)
    have w0 := h w List.mem_cons_self
    by_cases c : p w = true
    · rw [List.filter_cons_of_pos c, List.filter_cons_of_pos (hpq w List.mem_cons_self c), List.sum_cons, List.sum_cons]
      omega
    · rw [List.filter_cons_of_neg c]
      by_cases d : q w = true
      · rw [List.filter_cons_of_pos d, List.sum_cons]; omega
      · rw [List.filter_cons_of_neg d]; exact ih
theorem fixF_mono {e e' : Int} {ws : List Int} {t t' : Int} (h1 : ∀ w ∈ ws, 1 ≤ w) (he : e ≤ e') (ht : t ≤ t') : fixF e ws t ≤ fixF e' ws t' := sum_filter_le (fun w hw => by have := h1 w hw; omega) fun w _ c => by
  have := of_decide_eq_true c
  exact decide_eq_true (by omega)
theorem fixF_rch {e : Int} {ws : List Int} (e0 : 0 ≤ e) (h1 : ∀ w ∈ ws, 1 ≤ w) : fixF e ws (rch e ws) = rch e ws := by
  rcases rch_cases e ws with ⟨f, _, r⟩ | ⟨p, _, _, _, hm, st, r, low⟩
  · rw [r]
    unfold fixF
    rw [List.filter_eq_self.mpr fun w hw => decide_eq_true (by have := mem_le_sum h1 hw; omega)]
  · rw [r]
    unfold fixF lite
    refine congrArg List.sum (List.filter_congr fun w hw => decide_eq_decide.mpr ⟨fun h => ?_, fun h => ?_⟩)
    · unfold lite at st
      omega
    · have a := low w hw h
      have b : lite ws w ≤ lite ws (wAt ws p) := sum_filter_le (fun w hw => by have := h1 w hw; omega) fun v _ c => decide_eq_true (by have := of_decide_eq_true c; omega)
      unfold lite at a b
      omega
theorem rch_least {e : Int} {ws : List Int} (e0 : 0 ≤ e) (h1 : ∀ w ∈ ws, 1 ≤ w) {t : Int} (ht : fixF e ws t ≤ t) : rch e ws ≤ t := by
  -- whoever comes down is light enough with t ahead
  have h0 : ∀ w ∈ ws, 0 ≤ w := fun w hw => by have := h1 w hw; omega
  have main : ∀ (n : Nat) (v : Int), v ∈ ws → v ≤ n → (∀ u ∈ ws, u ≤ v → u ≤ e + lite ws u) → v ≤ e + t := by
    intro n
    induction n with
    | zero => intro v hv hn _; have := h1 v hv; omega
    | succ n ih =>
      intro v hv hn hu
      have hl : lite ws v ≤ fixF e ws t := sum_filter_le h0 fun u hm c => by
        have c := of_decide_eq_true c
        exact decide_eq_true (ih u hm (by omega) fun w hw le => hu w hw (by omega))
      have := hu v hv (Int.le_refl _)
      omega
  rcases rch_cases e ws with ⟨f, _, r⟩ | ⟨p, _, _, _, hm, st, r, low⟩
  · rw [r]
    have all : ∀ w ∈ ws, w ≤ e + t := fun w hw => main w.toNat w hw (by have := h1 w hw; omega) fun u hu _ => f u hu
    unfold fixF at ht
    rw [List.filter_eq_self.mpr fun w hw => decide_eq_true (all w hw)] at ht
    exact ht
  · rw [r]
    refine Int.le_trans (sum_filter_le h0 fun u hu c => ?_) ht
    have c := of_decide_eq_true c
    exact decide_eq_true (main u.toNat u hu (by have := h1 u hu; omega) fun v hv le => low v hv (by omega))
theorem rch_mono {e e' : Int} {ws : List Int} (e0 : 0 ≤ e) (he : e ≤ e') (h1 : ∀ w ∈ ws, 1 ≤ w) : rch e ws ≤ rch e' ws :=
  rch_least e0 h1 (Int.le_trans (fixF_mono h1 he (Int.le_refl _)) (Int.le_of_eq (fixF_rch (by omega) h1)))
theorem fixF_app (e : Int) (as bs : List Int) (t : Int) : fixF e (as ++ bs) t = fixF e as t + fixF e bs t := by
  unfold fixF
  rw [List.filter_append, List.sum_append]
theorem fixF_nonneg {e : Int} {ws : List Int} (h1 : ∀ w ∈ ws, 1 ≤ w) (t : Int) : 0 ≤ fixF e ws t := sum_nonneg fun w hw => by
  have := h1 w (List.mem_filter.mp hw).1
  omega
theorem rch_more {e : Int} {ws vs : List Int} (e0 : 0 ≤ e) (h1 : ∀ w ∈ ws, 1 ≤ w) (hv : ∀ w ∈ vs, 1 ≤ w) : rch e ws ≤ rch e (ws ++ vs) := by
  have h2 : ∀ w ∈ ws ++ vs, 1 ≤ w := fun w hw => (List.mem_append.mp hw).elim (h1 w) (hv w)
  have z := fixF_rch e0 h2
  rw [fixF_app] at z
  have := fixF_nonneg (e := e) hv (rch e (ws ++ vs))
  exact rch_least e0 h1 (by omega)
theorem fixF_le {e : Int} {ws : List Int} (h1 : ∀ w ∈ ws, 1 ≤ w) (t : Int) : fixF e ws t ≤ ws.sum := sum_filter fun w hw => by have := h1 w hw; omega
theorem fixF_zero {e : Int} {ws : List Int} {t : Int} (h : ∀ w ∈ ws, e + t < w) : fixF e ws t = 0 := by
  unfold fixF
  rw [List.filter_eq_nil_iff.mpr fun w hw => by have := h w hw; simp; omega]
  rfl
theorem fixF_perm {e : Int} {as bs : List Int} (p : as.Perm bs) (t : Int) : fixF e as t = fixF e bs t := sum_perm (p.filter _)
/-- the stones so far are not more, and not lighter, than those that do -/
def LeastI (V : List Int) (z : List Int × List Int) : Prop := z.2.length ≤ V.length ∧ ((srt V).take z.2.length).sum ≤ z.2.sum
theorem least_one [Amb] {e w : Int} {ws V dn rest : List Int} {z : List Int × List Int} (e1 : 1 ≤ e) (h1 : ∀ u ∈ ws, 1 ≤ u) (hV : ∀ v ∈ V, 1 ≤ v) (pm : ws.Perm (dn ++ w :: rest)) (up : ∀ u ∈ rest, w ≤ u) (hold : w ≤ rch e (ws ++ V)) (hz : z.1.sum = dn.sum + z.2.sum) (h : LeastI V z) (lt : e + z.1.sum < w) : LeastI V (z.1 ++ [e + z.1.sum], z.2 ++ [e + z.1.sum]) := by
  obtain ⟨hl, hs⟩ := h
  have h2 : ∀ u ∈ ws ++ V, 1 ≤ u := fun u hu => (List.mem_append.mp hu).elim (h1 u) (hV u)
  have pv := srt_perm V
  have hd : ∀ u ∈ dn, 1 ≤ u := fun u hu => h1 u (pm.mem_iff.mpr (List.mem_append_left _ hu))
  have sv : ∀ v ∈ srt V, 1 ≤ v := fun v hv => hV v (pv.mem_iff.mp hv)
  have ex : ∃ x ∈ (srt V).drop z.2.length, x ≤ e + z.1.sum := by
    refine Classical.byContradiction fun no => ?_
    have no : ∀ x ∈ (srt V).drop z.2.length, e + z.1.sum < x := fun x hx => by
      by_cases c : x ≤ e + z.1.sum
      · exact (no ⟨x, hx, c⟩).elim
      · omega
    have a : fixF e ws z.1.sum ≤ dn.sum := by
      rw [fixF_perm pm, fixF_app, fixF_zero (ws := w :: rest) fun u hu => by
        rcases List.mem_cons.mp hu with y | y
        · omega
        · have := up u y; omega]
      have := fixF_le (e := e) hd z.1.sum
      omega
    have b : fixF e V z.1.sum ≤ ((srt V).take z.2.length).sum := by
      rw [← fixF_perm pv]
      conv => lhs; rw [← List.take_append_drop z.2.length (srt V)]
      rw [fixF_app, fixF_zero no]
      have := fixF_le (e := e) (ws := (srt V).take z.2.length) (fun v hv => sv v (List.mem_of_mem_take hv)) z.1.sum
      omega
    have := rch_least (e := e) (ws := ws ++ V) (by omega) h2 (t := z.1.sum) (by rw [fixF_app]; omega)
    omega
  obtain ⟨x, hx, le⟩ := ex
  have lv : (srt V).length = V.length := pv.length_eq
  have jl : z.2.length < (srt V).length := by
    by_cases c : z.2.length < (srt V).length
    · exact c
    · rw [List.drop_eq_nil_iff.mpr (by omega)] at hx
      cases hx
  have first : (srt V)[z.2.length] ≤ x := by
    rw [List.drop_eq_getElem_cons jl] at hx
    have sd : ((srt V)[z.2.length] :: (srt V).drop (z.2.length + 1)).Pairwise (· ≤ ·) := by
      rw [← List.drop_eq_getElem_cons jl]
      exact (srt_le V).drop
    rcases List.mem_cons.mp hx with y | y
    · omega
    · exact (List.pairwise_cons.mp sd).1 x y
  refine ⟨by show (z.2 ++ _).length ≤ _; rw [List.length_append]; show _ + 1 ≤ _; omega, ?_⟩
  show ((srt V).take (z.2 ++ [e + z.1.sum]).length).sum ≤ (z.2 ++ [e + z.1.sum]).sum
  rw [List.length_append, sum_snoc, show z.2.length + [e + z.1.sum].length = z.2.length + 1 from rfl, List.take_succ, List.getElem?_eq_getElem jl]
  show ((srt V).take z.2.length ++ [(srt V)[z.2.length]]).sum ≤ _
  rw [sum_snoc]
  omega
theorem least_stB [Amb] {e w : Int} {ws V dn rest : List Int} (e1 : 1 ≤ e) (h1 : ∀ u ∈ ws, 1 ≤ u) (hV : ∀ v ∈ V, 1 ≤ v) (pm : ws.Perm (dn ++ w :: rest)) (up : ∀ u ∈ rest, w ≤ u) (hold : w ≤ rch e (ws ++ V)) : ∀ (n : Nat) (z : List Int × List Int), z.1.sum = dn.sum + z.2.sum → LeastI V z → (stB e w n z).1.sum = dn.sum + (stB e w n z).2.sum ∧ LeastI V (stB e w n z)
  | 0, z, hz, h => ⟨hz, h⟩
  | n + 1, z, hz, h => by
    unfold stB
    split
    · rename_i c
      exact least_stB e1 h1 hV pm up hold n _ (by show (z.1 ++ _).sum = dn.sum + (z.2 ++ _).sum; rw [sum_snoc, sum_snoc]; omega) (least_one e1 h1 hV pm up hold hz h c)
    · exact ⟨hz, h⟩
theorem least_fold {e : Int} {ws V : List Int} (e1 : 1 ≤ e) (h1 : ∀ u ∈ ws, 1 ≤ u) (hV : ∀ v ∈ V, 1 ≤ v) (hold : ∀ w ∈ ws, w ≤ rch e (ws ++ V)) : ∀ (l dn : List Int) (z : List Int × List Int), ws.Perm (dn ++ l) → l.Pairwise (· ≤ ·) → z.1.sum = dn.sum + z.2.sum → LeastI V z → LeastI V (l.foldl (stW e) z)
  | [], _, _, _, _, _, h => h
  | w :: l, dn, z, pm, hs, hz, h => by
    have hs' := List.pairwise_cons.mp hs
    obtain ⟨a, b⟩ := least_stB e1 h1 hV pm hs'.1 (hold w (pm.mem_iff.mpr (by simp))) 21 z hz h
    rw [List.foldl_cons]
    refine least_fold e1 h1 hV hold l (dn ++ [w]) _ (by rw [List.append_assoc]; exact pm) hs'.2 ?_ b
    show ((stB e w 21 z).1 ++ [w]).sum = (dn ++ [w]).sum + _
    rw [sum_snoc, sum_snoc, a]
    show _ = dn.sum + w + (stB e w 21 z).2.sum
    omega
/-- no fewer stones do -/
theorem stones_least {e : Int} {ws V : List Int} (e1 : 1 ≤ e) (h1 : ∀ u ∈ ws, 1 ≤ u) (hV : ∀ v ∈ V, 1 ≤ v) (hold : ∀ w ∈ ws, w ≤ rch e (ws ++ V)) : (stonesOf e (srt ws)).length ≤ V.length :=
  (least_fold e1 h1 hV hold (srt ws) [] ([], []) (srt_perm ws).symm (srt_le ws) rfl ⟨Nat.zero_le _, Int.le_refl _⟩).1
end DL

/-! TU: a list that is extended by an owned one; max of a tuple of numbers. -/
namespace DL
open PySem PySem.Spec L2 PyProof.Rows PySem.W
section
variable {prog : Program} {w : World} {A : Around} {E : Value → Shared → Prop} {s : Shared} {l : Addr} {xs : Array (Int × Tok)}
end
/-- max(xs) of a tuple of numbers -/
def rMaxT (K : PySem.W.Frag) : List V → Hp → VK → Prop := fun vs H Q => ∃ (a : Addr) (ns : List Int), vs = [V.ref a] ∧ SqT K H a (ns.map V.int) ∧ 0 < ns.length ∧ ∀ m, m ∈ ns → (∀ y, y ∈ ns → y ≤ m) → Q (.int m) H
def dMaxT : DOn := fun xs ω Q => ∃ ns : List Int, xs = [.tup (ns.map D.int)] ∧ 0 < ns.length ∧ ∀ m, m ∈ ns → (∀ y, y ∈ ns → y ≤ m) → Q (.int m) ω
section
variable {X : Cx} {a e : Expr} {Ta Te : TD} {ρ : Rho} {ω : Om} {Q : DQ}
/-- xs.extend(e), both owned -/
def dExtO (Ta Te : TD) : TD := fun ρ ω Q => Ta ρ ω fun x ω1 => ∃ p, x = .raw (.ref p) ∧ (∃ xs, ω1 p = some (.lst xs)) ∧ Te ρ ω1 fun y ω2 => ∃ q xs ys, y = .raw (.ref q) ∧ ω2 p = some (.lst xs) ∧ ω2 q = some (.lst ys) ∧ xs.length + ys.length ≤ sizeLine ∧ Q .non (oset ω2 p (.lst (xs ++ ys)))
theorem st_extO (h : Ta ρ ω fun x ω1 => ∃ p, x = .raw (.ref p) ∧ (∃ xs, ω1 p = some (.lst xs)) ∧ Te ρ ω1 fun y ω2 => ∃ q xs ys, y = .raw (.ref q) ∧ ω2 p = some (.lst xs) ∧ ω2 q = some (.lst ys) ∧ xs.length + ys.length ≤ sizeLine ∧ Q .non (oset ω2 p (.lst (xs ++ ys)))) : dExtO Ta Te ρ ω Q := h
variable {T : TAD} {QI : List D → (Om → Prop) → Om → Prop}
theorem st_rng2 (h : T ρ ω fun xs ω1 => ∃ m n : Int, xs = [.int m, .int n] ∧ (-(2 ^ 62) ≤ m ∧ m < 2 ^ 62 ∧ -(2 ^ 62) ≤ n ∧ n < 2 ^ 62) ∧ QI (rngD m (n - m).toNat) (fun _ => True) ω1) : dRng2 T ρ ω QI := h
end
end DL

/-! XE: errors over data: their way out, defs that let them out, calls of such defs. -/
namespace DL
open PySem PySem.Spec L2 PyProof.Rows PySem.W
/-- where the classes of errors lie, by their names -/
class Ers where
  ad : Str → Addr
/-- an error's fields, where it has a dict of its own -/
abbrev XF := Option (List (Str × D))
/-- an error's way out: its class by name, its fields, what is owned -/
abbrev DXQ := Str → XF → Om → Prop
/-- the same with the slots -/
abbrev DXS := Str → XF → Rho → Om → Prop
def noS (RX : DXQ) : DXS := fun x fs _ ω => RX x fs ω
def noW (E : XK) : WX := fun c d _ H => E c d H
section
variable [Ers] {K : PySem.W.Frag} {h : Fp} {H : Hp} {ω : Om} {R : DQ} {Q : VK} {RX : DXS} {W : WX}
/-- how an error's fields lie -/
def XAt (K : PySem.W.Frag) (f : Fp) (H : Hp) (fs : XF) (d : Option Addr) (H2 : Hp) : Prop := (fs = none ∧ d = none ∧ H2 = H) ∨ ∃ l dd fvs, fs = some l ∧ d = some dd ∧ H dd = none ∧ RpFs K f H l fvs ∧ H2 = upd H dd (.xd fvs)
theorem XAt.keep {f f' : Fp} {fs d H2} (k : Kp H f H f') : XAt K f H fs d H2 → XAt K f' H fs d H2
  | .inl z => .inl z
  | .inr ⟨l, dd, fvs, a, b, c, r, e⟩ => .inr ⟨l, dd, fvs, a, b, c, r.keep k, e⟩
def CntXS (K : PySem.W.Frag) (h : Fp) (H : Hp) (ω : Om) (RX : DXS) (W : WX) : Prop := ∀ (x : Str) (fs : XF) (ρ' : Rho) (σ' : L2.St) (ω' : Om) (H' : Hp) (d : Option Addr) (H2 : Hp), RX x fs ρ' ω' → Fr H ω H' ω' → @Wd amb0 K h H' ω' → Sl K (fre ω' h) H' σ' ρ' → XAt K (fre ω' h) H' fs d H2 → W (.ref (Ers.ad x)) d σ' H2
def CntX (K : PySem.W.Frag) (h : Fp) (H : Hp) (ω : Om) (RX : DXQ) (E : XK) : Prop := ∀ (x : Str) (fs : XF) (ω' : Om) (H' : Hp) (d : Option Addr) (H2 : Hp), RX x fs ω' → Fr H ω H' ω' → @Wd amb0 K h H' ω' → XAt K (fre ω' h) H' fs d H2 → E (.ref (Ers.ad x)) d H2
theorem CntX.s {RX : DXQ} {E : XK} (k : CntX K h H ω RX E) : CntXS K h H ω (noS RX) (noW E) := fun x fs _ _ ω' H' d H2 r f w _ z => k x fs ω' H' d H2 r f w z
/-- an ambient in which errors may be let out -/
class AmbX (K : PySem.W.Frag) (W : WX) (RX : DXS) extends Amb where
  out : ∀ {h : Fp} {H : Hp} {ω : Om} {x : Str} {fs : XF} {ρ : Rho} {σ : L2.St} {d : Option Addr} {H2 : Hp}, G h H ω → RX x fs ρ ω → @Wd amb0 K h H ω → Sl K (fre ω h) H σ ρ → XAt K (fre ω h) H fs d H2 → W (.ref (Ers.ad x)) d σ H2
/-- nothing is let out -/
instance (priority := low) ambF {K : PySem.W.Frag} : AmbX K (fun _ _ _ _ => False) (fun _ _ _ _ => False) := { amb0 with out := fun _ z => z.elim }
theorem fre_sub {h h0 : Fp} (s : ∀ b, h b → h0 b) : Kp H (fre ω h) H (fre ω h0) := fun b o x y => ⟨y, x.1, s b x.2⟩
theorem Wd.wide {h h0 : Fp} (s : ∀ b, h b → h0 b) (w : @Wd amb0 K h H ω) : @Wd amb0 K h0 H ω :=
  @Wd.mk amb0 _ _ _ _ (fun a c x => (@Wd.cell amb0 _ _ _ _ w a c x).keep rfl (fre_sub s)) (fun b x => s b (@Wd.open_ amb0 _ _ _ _ w b x)) (fun b vs n x => s b (@Wd.tup_ amb0 _ _ _ _ w b vs n x)) trivial
/-- the ambient of a body that starts at h0, H0, ω0 -/
@[reducible] def ambX {h0 : Fp} {H0 : Hp} {ω0 : Om} (k : CntXS K h0 H0 ω0 RX W) : AmbX K W RX where
  G h H ω := Fr H0 ω0 H ω ∧ ∀ b, h b → h0 b
  N p := h0 p ∧ (H0 p = none ∨ ω0 p ≠ none)
  mono g f := ⟨g.1.trans f, g.2⟩
  new {h H ω p} g e n := ⟨g.2 p n, by
    cases z : H0 p with
    | none => exact .inl rfl
    | some o =>
      refine .inr fun y => ?_
      have := (g.1 p o y z).1
      rw [e] at this
      cases this⟩
  hide g := ⟨g.1, fun b x => g.2 b x.1⟩
  show_ {h H ω p} n g := ⟨g.1, fun b x => by
    by_cases c : b = p
    · rw [c]; exact n.1
    · exact g.2 b ⟨x, c⟩⟩
  put {h H ω p o} n g := ⟨fun b u x y => by
    have c : b ≠ p := fun z => by
      rcases n.2 with q | q
      · rw [← z, y] at q; cases q
      · exact q (z ▸ x)
    rw [upd_ne c]
    exact g.1 b u x y, g.2⟩
  own {h H ω p c} n g := ⟨fun b u x y => by
    have d : b ≠ p := fun z => by
      rcases n.2 with q | q
      · rw [← z, y] at q; cases q
      · exact q (z ▸ x)
    rw [oset_ne d]
    exact g.1 b u x y, g.2⟩
  out {h H ω x fs ρ σ d H2} g r w sl z := k x fs ρ σ ω H d H2 r g.1 (w.wide g.2) (sl.keep (fre_sub g.2)) (z.keep (fre_sub g.2))
theorem ambX_start {h0 : Fp} {H0 : Hp} {ω0 : Om} (k : CntXS K h0 H0 ω0 RX W) (w : @Wd amb0 K h0 H0 ω0) : @Wd (ambX k).toAmb K h0 H0 ω0 := by
  letI := (ambX k).toAmb
  exact Wd.lift w ⟨Fr.refl, fun _ x => x⟩
abbrev SpDX := List D → Om → DQ → DXQ → Prop
def spUX (K : PySem.W.Frag) (S : SpDX) : Sp := fun vs H Q E => ∃ h ds ω R RX, RpAll K (fre ω h) H ds vs ∧ @Wd amb0 K h H ω ∧ S ds ω R RX ∧ @Cnt K amb0 h H ω R Q ∧ CntX K h H ω RX E
end
section
variable [Ers] {X : Cx} {W : WX} {RX : DXS} {x : Str} {p pos : Pos} {e : Expr} {es : List Expr} {T : TAD}
/-- a call, the errors taken with the very slots -/
theorem pe_callGS {k : Nat} {f : Addr} {fd : FuncData} {ps : List Str} {sp : Sp} {t : TA} (F : FnG X.prog X.w X.K X.mg X.base (L2.CX X.prog X.w) k f fd ps sp) (hr : Room k X.A) (gd : X.A.guards = some []) (hg : Gl X x) (hm : X.mg x = some (.ref f)) (hk : PySem.W.keepIn X.K (.ref f) = true)
    (hb : Binds X.K fd ps []) (tk : Takes X W) (ha : PA X (e :: es) t) (hdb : (x == ("__debug__" : Str)) = false := by decide)
    (e1 : starEach (e :: es) X.env = (false, eval e X.env) :: starEach es X.env := by rfl) (e2 : (backTo pos (starEach es X.env)).any (·.1) = false := by rfl) :
    PE X (.Call (.Name x p) (e :: es) [] pos) (fun σ H Q => t σ H fun vs H1 => sp (vs ++ []) H1 Q fun c d H2 => W c d σ H2) := by
  constructor
  intro pins s σ hp q I h
  refine wpAny_Call_Name_kw (ld_glob I hg hm ?_ hdb)
  refine PySem.W.callWith_K (h₀ := X.base) I.ok.mod.kin hk (thn (ha.run pos pins s σ hp _ I h) fun us s1 ⟨vs, hp1, I1, r, z⟩ => ⟨I1.kIn, ?_⟩) e1 e2
  have rr : Vals (vs ++ []) (us ++ []) := r.append .nil
  have ll : (us ++ []).length = ps.length := by rw [← rr.length]; exact F.arity _ _ _ _ z
  refine wpAny_call (codeAny_mono (F.goes X.A X.stack s1 hp1 ⟨us, []⟩ _ _ q _ hr gd I1.env0 (hb s1 us I1.kIn ll) rr z) fun res s' y => ?_)
  match res, y with
  | .error er, y => exact tk er s' (XE.of_call I1 (fun _ _ _ y => y) y)
  | .ok (.ret u), y => exact I1.after y
def dCallX (S : SpDX) (RX : DXS) (T : TAD) : TD := fun ρ ω Q => T ρ ω fun xs ω1 => S xs ω1 Q fun y fs ω2 => RX y fs ρ ω2
theorem de_fnX [I0 : AmbX X.K W RX] {k : Nat} {f : Addr} {fd : FuncData} {ps : List Str} {S : SpDX} (F : FnG X.prog X.w X.K X.mg X.base (L2.CX X.prog X.w) k f fd ps (spUX X.K S)) (hr : Room k X.A) (gd : X.A.guards = some []) (hg : Gl X x) (hm : X.mg x = some (.ref f)) (hk : PySem.W.keepIn X.K (.ref f) = true)
    (hb : Binds X.K fd ps []) (tk : Takes X W) (ha : DA X (e :: es) T) (hdb : (x == ("__debug__" : Str)) = false := by decide)
    (e1 : starEach (e :: es) X.env = (false, eval e X.env) :: starEach es X.env := by rfl) (e2 : (backTo pos (starEach es X.env)).any (·.1) = false := by rfl) : DE X (.Call (.Name x p) (e :: es) [] pos) (dCallX S RX T) := by
  refine PE.weak (pe_callGS F hr gd hg hm hk hb tk ha hdb e1 e2) fun σ H Q ⟨h, ρ, ω, R, sl, w, t, k⟩ => ?_
  refine ⟨h, ρ, ω, _, sl, w, t, fun xs ω1 vs H1 t1 f1 w1 rs => ?_⟩
  show spUX X.K S (vs ++ []) H1 Q fun c d H2 => W c d σ H2
  rw [List.append_nil]
  exact ⟨h, xs, ω1, R, _, rs, w1.drop, t1, (k.go f1).drop w1, fun y fs ω' H' d H2 r fr w' z => AmbX.out (Amb.mono w1.amb fr) r w' (sl.keep (f1.trans fr).kp) z⟩
end
/-- a def that may let errors out, by its body over data -/
theorem FnG.ofX [Ers] {P : Program} {w : World} {K : PySem.W.Frag} {mg : Str → Option Value} {base : Heap} {k : Nat} {x qual : Str} {st : Stmt} {f : Addr} {fd : FuncData} {N ps : List Str} {S : SpDX} {T : DXS → TSD}
    (F : Fun K x qual st f fd) (sc : FnScope N ps (defScope st)) (ar : ∀ ds ω R RX, S ds ω R RX → ds.length = ps.length)
    (b : ∀ (cdv : Value) (A : Around) (fs : List Env) (s : Shared) (hp : Hp) (e : XK) (RX : DXS) [AmbX K (noW e) RX], Room k (A.deeper (PyProof.Rows.envOfC qual (defScope st) s.heap.objs.size f cdv)) → A.guards = some [] →
      DSs (cxOf (L2.CX P w) P w K mg base N qual (defScope st) f cdv A fs s hp e) (defBody st) (T RX))
    (rd : ∀ ds ω R RX, S ds ω R RX → T (noS RX) { nx := fun _ ω' => R .non ω', rt := R } (startD N ds) ω) : FnG P w K mg base (L2.CX P w) (k + 1) f fd ps (spUX K S) := by
  refine FnG.body F sc (fun vs H Q e ⟨h, ds, ω, R, RX, r, _, s, _⟩ => by rw [← r.len]; exact ar ds ω R RX s) fun cdv A fs s hp vs q e room gd ⟨h, ds, ω, R, RX, r, w, sp, k, kx⟩ => ?_
  letI := ambX kx.s
  refine ⟨_, b cdv A fs s hp e (noS RX) room gd, h, startD N ds, ω, _, Sl.start r, ambX_start kx.s w, rd ds ω R RX sp, ?_, ?_, ?_, ?_⟩
  · exact fun ρ' ω' σ' H' z f' w' _ => k .non ω' .non H' z f' w'.drop .non
  · exact fun d ω' v H' z f' w' rp => k d ω' v H' z f' w'.drop rp
  · exact fun _ _ _ _ z => z.elim
  · exact fun _ _ _ _ z => z.elim
end DL

/-! XR: raise C(e), C a class of errors whose __init__ keeps one field. -/
namespace DL
open PySem PySem.Spec L2 PyProof.Rows PySem.W
variable [Ers]
def sp1 (C : Addr) (f : Str) : Sp := fun vs H Q _ => ∃ a v, vs = [.ref a, v] ∧ H a = some (exo a C none) ∧ ∀ dx, H dx = none → dx ≠ a → Q .non (upd (upd H dx (exd dx [(f, v)])) a (exo a C (some dx)))
theorem init_one {P : Program} {w : World} {K : PySem.W.Frag} {mg : Str → Option Value} {base : Heap} {C fI : Addr} {qual f v : Str} {st : Stmt} {fd : FuncData} {p1 p2 p3 p4 : Pos} {k : Nat} (T : OexC K C) (hno : PySem.W.findIn K (.ref C) f = some none)
    (F : Fun K "__init__" qual st fI fd) (sc : FnScope ["self", v] ["self", v] (defScope st)) (hb : defBody st = [.Assign [.Attribute (.Name "self" p1) f p2] (.Name v p3) p4]) (vs : Vis (defScope st) "self") (vv : Vis (defScope st) v)
    (hd : (v == ("__debug__" : Str)) = false) (hcd : (v == ("__classdict__" : Str)) = false)
    (hs : ∀ env : Env, swapsWith (.Name v p3) (some (.Attribute (.Name "self" p1) f p2)) p4.line env = pure false) : FnOk P w K mg base (L2.CX P w) (k + 1) fI fd ["self", v] (sp1 C f) := by
  refine F.okX sc (fun vs H Q E ⟨a, v, e, _⟩ => by rw [e]; rfl) fun cdv A outer s H us Q E hr ⟨a, u, e, ha, q⟩ => ?_
  subst e
  rw [hb]
  refine ⟨_, pss_one (ps_ost (pe_var (i := 0) rfl vs) (pe_var (i := 1) rfl vv hd hcd) (hs _)), ?_⟩
  exact ⟨u, rfl, .ref a, rfl, a, C, rfl, T, hno, .inl ⟨ha, fun dx n ne => q dx n ne⟩⟩
theorem mk_one {C : Addr} {f : Str} {v : V} {H1 : Hp} {Q : XK} (q : ∀ d, H1 d = none → Q (.ref C) (some d) (upd H1 d (.xd [(f, v)]))) : [v].length ≤ 1000 ∧ ∀ a, H1 a = none → sp1 C f (.ref a :: ([v] ++ [])) (upd H1 a (exo a C none))
    (fun u H2 => u = .non ∧ ∃ (d : Addr) (fs : List (Str × V)), H2 a = some (exo a C (some d)) ∧ H2 d = some (exd d fs) ∧ H1 d = none ∧ Q (.ref C) (some d) (upd (del H2 a) d (.xd fs))) (fun _ _ _ => False) := by
  refine ⟨by show 1 ≤ 1000; decide, fun a ha => ⟨a, v, rfl, upd_same, fun dx hn ne => ⟨rfl, dx, [(f, v)], upd_same, by rw [upd_ne ne, upd_same], by rw [upd_ne ne] at hn; exact hn, ?_⟩⟩⟩
  rw [upd_ne ne] at hn
  have e : upd (del (upd (upd (upd H1 a (exo a C none)) dx (exd dx [(f, v)])) a (exo a C (some dx))) a) dx (.xd [(f, v)]) = upd H1 dx (.xd [(f, v)]) := by
    funext b
    by_cases b1 : b = dx
    · rw [b1, upd_same, upd_same]
    · rw [upd_ne b1, upd_ne b1]
      by_cases b2 : b = a
      · rw [b2, del_same, ha]
      · rw [del_ne b2, upd_ne b2, upd_ne b1, upd_ne b2]
  rw [e]
  exact q dx hn
/-- raise C(e) -/
def dRaise (x f : Str) (Te : TD) (RX : DXS) : TSD := fun _ ρ ω => Te ρ ω fun d ω1 => RX x (some [(f, d)]) ρ ω1
/-- what a raise of x(e) leans on -/
structure ErrD (P : Program) (w : World) (K : PySem.W.Frag) (mg : Str → Option Value) (base : Heap) (k : Nat) (x f : Str) : Prop where
  oc : OexC K (Ers.ad x)
  gm : mg x = some (.ref (Ers.ad x))
  ini : ∃ fI fd v, PySem.W.findIn K (.ref (Ers.ad x)) "__init__" = some (some (.ref fI)) ∧ PySem.W.typeIn K (.ref fI) = some (.type "function") ∧ FnOk P w K mg base (L2.CX P w) k fI fd ["self", v] (sp1 (Ers.ad x) f) ∧ Binds K fd ["self", v] []
theorem ds_raise1 {X : Cx} {W : WX} {RX : DXS} [I0 : AmbX X.K W RX] {x f : Str} {k : Nat} {e : Expr} {Te : TD} {p pos pos2 : Pos} (hc : X.calm = true) (tk : Takes X W) (T : ErrD X.prog X.w X.K X.mg X.base k x f) (hr : Room (k + 1) X.A) (hg : Gl X x) (ha : DE X e Te)
    (hdb : (x == ("__debug__" : Str)) = false := by decide) (he : starEach (e :: []) X.env = (false, eval e X.env) :: starEach [] X.env := by rfl) (hpl : (backTo pos (starEach [] X.env)).any (·.1) = false := by rfl) :
    DS X (.Raise (some (.Call (.Name x p) [e] [] pos)) none pos2) (dRaise x f Te RX) := by
  obtain ⟨oc, hm, fI, fd, v, iC, tI, F1, hb⟩ := T
  refine PS.weak (ps_raise hc tk (pmk_oex oc iC tI F1 hr hb .nil passL hg hm (pa_cons ha pa_nil he) hdb he hpl)) fun D σ H ⟨h, ρ, ω, en, sl, w, t, _⟩ => ?_
  refine ⟨h, ρ, ω, _, sl, w, t, fun d ω1 u H1 t1 f1 w1 r1 => ?_⟩
  exact mk_one (C := Ers.ad x) (f := f) (v := u) (Q := fun c d H2 => W c d σ H2) fun dd hn => AmbX.out w1.amb t1 w1.drop (sl.keep f1.kp) (.inr ⟨_, dd, _, rfl, rfl, hn, .cons r1 .nil, rfl⟩)
end DL

/-! XT: try over data; what a suite asks of the error that it holds. -/
namespace DL
open PySem PySem.Spec L2 PyProof.Rows PySem.W
/-! ### the classes of errors, by their names -/
def lookNs : List Str := ["LookupError", "NoPlace", "NoPerson", "NoVersion"]
/-- whether the class x is y or derives from it -/
def subB (x y : Str) : Bool := x == y || (y == "LookupError" && lookNs.contains x) || ((y == "RopeError" || y == "ValueError") && !lookNs.contains x)
def blt (y : Str) : Bool := y == "LookupError" || y == "ValueError"
variable [Ers]
def clsU (y : Str) : Value := if blt y = true then .type y.toString else .ref (Ers.ad y)
def clsV (y : Str) : V := if blt y = true then .ty y.toString else .ref (Ers.ad y)
def clsD (y : Str) : D := .raw (clsV y)
/-- what the written part says of one class -/
structure ErrC (K : PySem.W.Frag) (C : Addr) : Prop where
  cl : (clsIn K C).isSome = true
  ga : findIn K (.ref C) "__getattribute__" = some (some (.builtin "BaseException.__getattribute__"))
  gg : findIn K (.ref C) "__getattr__" = some none
  sb : subIn K (.ref C) (.type "BaseException") = some true
  hd : hasDictIn K C = true
  cs : findIn K (.ref C) "__class__" = some (some (.builtin "object.__class__"))
  sp : specialIn K (.builtin "object.__class__") "__get__" = some (some (.builtin "getset_descriptor.__get__"))
  tk : takesIn K (.builtin "object.__class__") = some true
  mr : mroIn K C (.type "object") = some true
/-- what the written part says of the errors' classes x, of the classes y that are asked of them, and of the fields f -/
structure ErsK (K : PySem.W.Frag) (prs : List (Str × Str)) (fls : List Str) : Prop where
  ex : ∀ x y, (x, y) ∈ prs → exmOne K (.ref (Ers.ad x)) (clsU y) = some (subB x y)
  ki : ∀ x y, (x, y) ∈ prs → kitOne K (.ref (Ers.ad x)) (clsU y) = some (subB x y)
  cl : ∀ x y, (x, y) ∈ prs → ErrC K (Ers.ad x)
  no : ∀ x y f, (x, y) ∈ prs → f ∈ fls → findIn K (.ref (Ers.ad x)) f = some none
theorem ErrC.xf {K : PySem.W.Frag} {C : Addr} (T : ErrC K C) : XfC K C := ⟨T.ga, T.gg, T.sb, T.hd⟩
theorem ErrC.ex {K : PySem.W.Frag} {C : Addr} (T : ErrC K C) : ExcC K C := ⟨T.ga, T.gg, T.sb, T.hd, T.cs, T.sp, T.tk, T.mr⟩
/-- how an error's fields are owned in the suite -/
def XPut (ω : Om) (fs : XF) (d : Option Addr) (ω2 : Om) : Prop := (fs = none ∧ d = none ∧ ω2 = ω) ∨ ∃ l dd, fs = some l ∧ d = some dd ∧ ω dd = none ∧ ω2 = oset ω dd (.xd l)
/-- the clause's name goes -/
def dGone (i : Nat) (E : DEnds) : DEnds := { nx := fun ρ ω => E.nx (ρ.set i none) ω, rt := E.rt, bk := fun ρ ω => E.bk (ρ.set i none) ω, ct := fun ρ ω => E.ct (ρ.set i none) ω }
/-- the errors of a try's body: Ts x a d, the suite of an error of the class x at a with its dict at d -/
def dCatch (prs : List (Str × Str)) (c : Str) (i : Nat) (Ts : Str → Addr → Option Addr → TSD) (RXo : DXS) (E : DEnds) : DXS := fun x fs ρ ω => (x, c) ∈ prs ∧
  (subB x c = true → ∀ a d ω2, XPut ω fs d ω2 → Ts x a d (dGone i E) (ρ.set i (some (.raw (.ref a)))) ω2) ∧ (subB x c = false → RXo x fs ρ ω)
def dTry (prs : List (Str × Str)) (c : Str) (i : Nat) (Tb : DXS → TSD) (Ts : Str → Addr → Option Addr → TSD) (RXo : DXS) : TSD := fun E ρ ω => Tb (dCatch prs c i Ts RXo E) E ρ ω
section
variable {K : PySem.W.Frag} {h : Fp} {H H' H2 : Hp} {ω ω' : Om} {prs : List (Str × Str)} {fls : List Str} {c : Str} {i : Nat} {Ts : Str → Addr → Option Addr → TSD} {RXo : DXS} {Wout : WX}
theorem XAt.own (w : @Wd amb0 K h H ω) {fs : XF} {d : Option Addr} (z : XAt K (fre ω h) H fs d H2) : ∃ ω2, XPut ω fs d ω2 ∧ Fr H ω H2 ω2 ∧ @Wd amb0 K h H2 ω2 := by
  rcases z with ⟨e1, e2, e3⟩ | ⟨l, dd, fvs, e1, e2, n, r, e3⟩
  · subst e3
    exact ⟨ω, .inl ⟨e1, e2, rfl⟩, Fr.refl, w⟩
  · subst e3
    have n2 := @Wd.fresh _ _ _ _ amb0 w dd n
    refine ⟨oset ω dd (.xd l), .inr ⟨l, dd, e1, e2, n2, rfl⟩, Fr.own n, @Wd.own _ _ _ _ amb0 w dd _ _ n fun H' f' k e => ⟨fvs, e, r.keep k⟩⟩
/-- what the clause does with the errors, at the heap -/
def tsOf [Amb] (K : PySem.W.Frag) (prs : List (Str × Str)) (c : Str) (Ts : Str → Addr → Option Addr → TSD) : Addr → Value → Option Addr → TS := fun a cls d D σ H => ∃ x, cls = .ref (Ers.ad x) ∧ (x, c) ∈ prs ∧ upS K (Ts x a d) D σ H
theorem catch_cnt [I : AmbX K Wout RXo] (ek : ErsK K prs fls) {D : Ends} {e : DEnds} (w : Wd K h H ω) (k1 : CntS K h H ω e.nx D.nx) (k2 : Cnt K h H ω e.rt D.rt) (k3 : CntS K h H ω e.bk D.bk) (k4 : CntS K h H ω e.ct D.ct) :
    CntXS K h H ω (dCatch prs c i Ts RXo e) (wAs K (clsU c) i (tsOf K prs c Ts) Wout D) := by
  intro x fs ρ' σ' ω' H' d H2 ⟨m, r1, r2⟩ fr w' sl' z
  refine ⟨subB x c, ek.ex x c m, fun hb a na => ⟨x, rfl, m, ?_⟩, fun hb => AmbX.out (Amb.mono w.amb fr) (r2 hb) w' sl' z⟩
  obtain ⟨ω2, xp, f2, w2⟩ := XAt.own w' z
  have fa := fr.trans f2
  have gone : ∀ {R : Rho → Om → Prop} {Q : L2.St → Hp → Prop}, CntS K h H ω R Q → CntS K h H2 ω2 (fun ρ ω => R (ρ.set i none) ω) (fun σ H => Q (σ.set i none) H) := fun {R Q} k ρ5 ω5 σ5 H5 t5 f5 w5 sl5 => k _ _ _ _ t5 (fa.trans f5) w5 (sl5.forget i)
  exact ⟨h, ρ'.set i (some (.raw (.ref a))), ω2, dGone i e, (sl'.keep f2.kp).set (.raw _) i, Wd.lift w2 (Amb.mono w.amb fa), r1 hb a d ω2 xp, gone k1, k2.go fa, gone k3, gone k4⟩
end
section
variable {X : Cx} {Wout : WX} {RXo : DXS} {x n c : Str} {i : Nat} {body suite : List Stmt} {b₀ : Stmt} {np pos pos' : Pos} {prs : List (Str × Str)} {fls : List Str} {Tb : DXS → TSD} {Ts : Str → Addr → Option Addr → TSD}
theorem ds_try [I0 : AmbX X.K Wout RXo] (hs : X.stack = X.env :: X.outer) (hf : X.env.frame = some X.env.locals) (hN : X.N.Nodup) (hi : X.N[i]? = some n) (hln : X.env.kindOf n = some .local) (hc : Names X x (clsU c)) (tk : Takes X Wout) (ek : ErsK X.K prs fls)
    (hb : ∀ (W : WX) (RX : DXS) (pn : List (Addr × Obj)) (xe : Value → Shared → Prop) [AmbX X.K W RX], Takes (X.tr pn xe) W → PassesOwn (model X.prog X.w) X.A X.env xe → DSs (X.tr pn xe) body (Tb RX))
    (hsu : ∀ (y : Str) (a : Addr) (oe : Obj) (d : Option Addr) (pn : List (Addr × Obj)), (y, c) ∈ prs → Zc (.ref (Ers.ad y)) d oe → (∃ vs, oe.data = .fields vs) → DSs (X.suite a ((a, oe) :: pn)) (b₀ :: suite) (Ts y a d)) :
    DS X (.Try body [.ExceptHandler (some (.Name x np)) (some n) (b₀ :: suite) pos'] [] [] pos) (dTry prs c i Tb Ts RXo) := by
  refine PS.weak (ps_try_as (tb := fun W D σ H => ∃ (RX : DXS) (I : AmbX X.K W RX), @upS X.K I.toAmb (Tb RX) D σ H) (ts := tsOf X.K prs c Ts) hs hf hN hi hln hc tk (fun W pn xe tk2 pw => ⟨fun pins s σ H D J ⟨RX, I, u⟩ => (hb W RX pn xe tk2 pw).run pins s σ H D J u⟩)
    fun a oe cls d pn z hf => ⟨fun pins s σ H D J ⟨y, e, m, u⟩ => by subst e; exact (hsu y a oe d pn m z hf).run pins s σ H D J u⟩) fun D σ H ⟨h, ρ, ω, e, sl, w, t, k1, k2, k3, k4⟩ => ?_
  have kx := catch_cnt (c := c) (i := i) (Ts := Ts) ek w k1 k2 k3 k4
  refine ⟨_, ambX kx, h, ρ, ω, e, sl, ambX_start kx w.drop, t, ?_, ?_, ?_, ?_⟩
  · exact fun ρ5 ω5 σ5 H5 t5 f5 w5 sl5 => k1 _ _ _ _ t5 f5 (Wd.lift (@Wd.drop _ _ _ _ (ambX kx).toAmb w5) (Amb.mono w.amb f5)) sl5
  · exact fun d5 ω5 v5 H5 t5 f5 w5 r5 => k2 _ _ _ _ t5 f5 (Wd.lift (@Wd.drop _ _ _ _ (ambX kx).toAmb w5) (Amb.mono w.amb f5)) r5
  · exact fun ρ5 ω5 σ5 H5 t5 f5 w5 sl5 => k3 _ _ _ _ t5 f5 (Wd.lift (@Wd.drop _ _ _ _ (ambX kx).toAmb w5) (Amb.mono w.amb f5)) sl5
  · exact fun ρ5 ω5 σ5 H5 t5 f5 w5 sl5 => k4 _ _ _ _ t5 f5 (Wd.lift (@Wd.drop _ _ _ _ (ambX kx).toAmb w5) (Amb.mono w.amb f5)) sl5
end
/-! ### what a suite asks of its error -/
/-- isinstance(e, y) and isinstance(e, (y, ..)), e an error of the class x at a, its dict at d -/
def isOf (x : Str) (ys : List Str) : Bool := ys.any fun y => subB x y
def dIsX (prs : List (Str × Str)) (x : Str) (a : Addr) (d : Option Addr) : DOn := fun xs ω R => ∃ c ys, xs = [.raw (.ref a), c] ∧ (∀ y ∈ ys, (x, y) ∈ prs) ∧ ((∃ y, c = clsD y ∧ ys = [y]) ∨ c = .tup (ys.map clsD)) ∧ (∀ dd, d = some dd → ∃ l, ω dd = some (.xd l)) ∧ R (.bl (isOf x ys)) ω
def rIsX (K : PySem.W.Frag) (C a : Addr) (d : Option Addr) : List V → Hp → VK → Prop := fun xs H Q => ∃ (c : V) (b : Bool), xs = [.ref a, c] ∧ (∀ dd, d = some dd → ∃ fs, H dd = some (.xd fs)) ∧ Q (.bl b) H ∧
  ((∃ cv, (∀ u, RelV c u → u = cv) ∧ kitOne K (.ref C) cv = some b) ∨ ∃ (tp : Addr) (cs : List V) (cvs : List Value), c = .ref tp ∧ H tp = some (.tup cs) ∧ (∀ us, Vals cs us → us = cvs) ∧ kitAny K (.ref C) cvs = some b)
/-- e.f, e the error that the suite holds -/
def dXf (a : Addr) (d : Option Addr) (f : Str) (Te : TD) : TD := fun ρ ω Q => Te ρ ω fun x ω1 => x = .raw (.ref a) ∧ ∃ dd l v, d = some dd ∧ ω1 dd = some (.xd l) ∧ l.lookup f = some v ∧ Q v ω1
theorem RpFs.look {K : PySem.W.Frag} {f : Fp} {H : Hp} {k : Str} : ∀ {ds : List (Str × D)} {vs : List (Str × V)}, RpFs K f H ds vs → ∀ {d : D}, ds.lookup k = some d → ∃ v, vs.lookup k = some v ∧ Rp K f H d v
  | _, _, .nil, _, e => nomatch e
  | (k', _) :: _, _, .cons r t, d, e => by
    rw [List.lookup_cons] at e ⊢
    cases y : k == k' with
    | true => rw [y] at e; cases e; exact ⟨_, rfl, r⟩
    | false => rw [y] at e; exact t.look e
theorem de_xf [Amb] {X : Cx} {a : Addr} {oe : Obj} {x : Str} {d : Option Addr} {pn : List (Addr × Obj)} {e : Expr} {Te : TD} {pos : Pos} {f : Str} (T : ErrC X.K (Ers.ad x)) (hno : PySem.W.findIn X.K (.ref (Ers.ad x)) f = some none)
    (hz : Zc (.ref (Ers.ad x)) d oe) (hf : ∃ vs, oe.data = .fields vs) (he : DE (X.suite a ((a, oe) :: pn)) e Te) (hb : attributeBase e f X.env (eval e X.env) = eval e X.env := by rfl) :
    DE (X.suite a ((a, oe) :: pn)) (.Attribute e f pos) (dXf a d f Te) := by
  refine PE.weak (pe_xf T.xf hno hz hf he hb) fun σ H Q ⟨h, ρ, ω, R, sl, w, t, k⟩ => ?_
  refine ⟨h, ρ, ω, _, sl, w, t, fun x1 ω1 v1 H1 ⟨e1, dd, l, v, e2, e3, e4, r⟩ f1 w1 r1 => ?_⟩
  subst e1
  cases r1
  obtain ⟨fvs, z1, z2⟩ := w1.cell dd _ e3
  obtain ⟨u, l2, r2⟩ := z2.look e4
  exact ⟨rfl, rfl, dd, fvs, u, e2, z1, l2, k _ _ _ _ r f1 w1 r2⟩
end DL

/-! XL: x(lambda: body), the lambda's table told, and what its body lets out. -/
namespace DL
open PySem PySem.Spec L2 PyProof.Rows PySem.W LamX LK
section
variable {X : Cx} {Ng : List Str} {sg : Scope} {x a : Str} {g : Addr} {cdg : Value}
/-- the def that got the lambda -/
abbrev lamG (X : Cx) (Ng : List Str) (x : Str) (sg : Scope) (g : Addr) (cdg : Value) (s : Shared) (H : Hp) : Cx := cxOf C8.CX0 X.prog X.w X.K X.mg X.base Ng x sg g cdg X.A X.stack s H C8.E0
abbrev lamA (X : Cx) (x : Str) (sg : Scope) (g : Addr) (cdg : Value) (s : Shared) : Around := X.A.deeper (PyProof.Rows.envOfC x sg s.heap.objs.size g cdg)
/-- a() in that def: the very slots of the moment are told to whoever takes the errors -/
theorem pe_actS {k : Nat} {f c' : Addr} {pm ctv : Value} {params : Arguments} {body : Expr} {scope : Scope} {pn pins : List (Addr × Obj)} {xe : Value → Shared → Prop} {W : WX} {tb : XK → TE} {p1 p2 : Pos} {σ : L2.St} {H : Hp} {s : Shared}
    (I : Inv X pins σ H s) (L : LamS X.env.scope scope) (at0 : s.heap.get? f = some (kla_obj "<lambda>" (X.env.qual ++ "<lambda>") params body scope (cloFrom X.env.cells scope.names []) pm c' ctv)) (nf : H f = none) (far : f ∉ frs X.stack)
    (bnd : bindArgs (kla_fn "<lambda>" (X.env.qual ++ "<lambda>") params body scope (cloFrom X.env.cells scope.names []) pm (.ref c') ctv) ⟨[], []⟩ = pure []) (tk : Takes ((lamG X Ng x sg g cdg s H).tr pn xe) W) (room : Room (k + 1) (lamA X x sg g cdg s))
    (ok : ∀ (E : XK) (s1 : Shared) (H1 : Hp), Room k ((lamA X x sg g cdg s).deeper (lamEnv X scope s1.heap.objs.size f c')) → PE (lamCx X (lamA X x sg g cdg s) (PyProof.Rows.envOfC x sg s.heap.objs.size g cdg :: X.stack) s1 H1 E scope f c') body (tb E))
    (hN : Ng[0]? = some a) (hv : Vis sg a) (hd : (a == ("__debug__" : Str)) = false) (hcd : (a == ("__classdict__" : Str)) = false) :
    PE ((lamG X Ng x sg g cdg s H).tr pn xe) (.Call (.Name a p1) [] [] p2) (fun σZ HZ Q => σZ[0]? = some (some (.ref f)) ∧ HZ c' = some (CodeO c' (X.env.qual ++ "<lambda>")) ∧ tb (fun c d H2 => W c d σZ H2) σ HZ Q) := by
  constructor
  rintro pinsZ sZ σZ HZ Q IZ ⟨slot, hc, ht⟩
  have nm := (pe_var (X := (lamG X Ng x sg g cdg s H).tr pn xe) (pos := p1) (i := 0) hN hv hd hcd).run pinsZ sZ σZ HZ (fun v G => v = .ref f ∧ G = HZ) IZ ⟨_, slot, rfl, rfl⟩
  refine wpAny_Call_Name_kw (thn nm ?_)
  rintro u s1 ⟨v, G, J, rv, ev, eG⟩
  subst ev eG
  cases rv
  have here := J.base.keep f _ at0 nf far fun z => nomatch (show f ∈ ([] : List Addr) from z)
  refine callWith_F0 ⟨_, _, _, _, here⟩ ?_
  obtain ⟨⟨oc, vs, t, o1, o2, o3⟩, _, _⟩ := J.hok c' _ hc
  have go : codeAny (model X.prog X.w) (lamA X x sg g cdg s) (.call (.ref f) ⟨[], []⟩) (CR (L2.CX X.prog X.w) (PyProof.Rows.envOfC x sg s.heap.objs.size g cdg :: X.stack) X.prog X.w G s1 Q fun c d H2 => W c d σZ H2) s1 := by
    refine kla_callFunE room.depth here rfl L.co L.gen rfl ⟨c', oc, vs, t, rfl, o1, o2, o3⟩ ?_
    rw [bnd]
    refine wpAny_pure (wpAny_newFunctionEnv (fun y hy => (L.own y hy).2) (fun y hy => absurd hy List.not_mem_nil) (fun h1 ns sb => ⟨J.nolimit.fresh _ sb, ?_⟩) L.kind)
    have up : ∀ b o, s1.heap.get? b = some o → h1.get? b = some o := fun b o e => sb.extBut b o (Nat.ne_of_lt (Heap.lt_size e)) (Heap.get?_push_of_some _ e)
    have Jb := lam_start2 (E := fun c d H2 => W c d σZ H2) (f := f) (c' := c') (tk := s1.toks + ([] : List (Str × Value)).length) I L J.env0 room.hd J.base ns up
    refine kla_codeExpr (wpAny_mono ((ok _ s1 G (room.deeper _)).run [] _ _ G Q Jb ht) ?_ fun _ _ z => z)
    rintro v s' ⟨w', H', Je, rv, q⟩
    exact ⟨w', H', Je.os, Je.bare, Je.base, Je.hok, rv, q⟩
  refine wpAny_call (codeAny_mono go fun r s' hq => ?_)
  match r, hq with
  | .error e, hq => exact tk e s' (XE.of_call J (fun _ _ _ y => y) hq)
  | .ok (.ret u), hq => exact J.after hq
/-- the def that calls what it got: what it makes of the lambda's reading -/
def GivesX (X : Cx) (Ng : List Str) (x : Str) (sg : Scope) (g : Addr) (cdg : Value) (bg : List Stmt) (a q : Str) (TT : (XK → Hp → VK → Prop) → Hp → VK → Prop) : Prop :=
  ∀ (f c' : Addr) (s : Shared) (H : Hp) (Q : VK) (tl : XK → Hp → VK → Prop), (∀ (W : WX) (pn : List (Addr × Obj)) (xe : Value → Shared → Prop) (p1 p2 : Pos), Takes ((lamG X Ng x sg g cdg s H).tr pn xe) W →
      PE ((lamG X Ng x sg g cdg s H).tr pn xe) (.Call (.Name a p1) [] [] p2) (fun σZ HZ Q => σZ[0]? = some (some (.ref f)) ∧ HZ c' = some (CodeO c' q) ∧ tl (fun c d H2 => W c d σZ H2) HZ Q)) →
    H c' = some (CodeO c' q) → TT tl H Q → ∃ t, PSs (lamG X Ng x sg g cdg s H).nox bg t ∧ t { nx := fun _ H' => Q .non H', rt := Q } (L2.start Ng [.ref f]) H
def tLamX (P : Addr) (q : Str) (TT : (XK → Hp → VK → Prop) → Hp → VK → Prop) (t : XK → TE) : TE := fun σ H Q => TabS H P q ∧ ∀ H1, LamTo P q H H1 → TT (fun E H' Q' => t E σ H' Q') H1 Q
end
/-! ### what is told of a call that may be too large -/
variable [Ers]
def noX : DXS := fun _ _ _ _ => False
def largeE (Ng : List Str) (f : Addr) (prs : List (Str × Str)) (c : Str) (i : Nat) (Ts : Str → Addr → Option Addr → TSD) (R : DQ) : DXQ := fun x fs ω => dCatch prs c i Ts (fun _ _ _ _ => False) { nx := fun _ ω' => R .non ω', rt := R } x fs (startD Ng [.raw (.ref f)]) ω
/-- the errors of the lambda's body -/
def largeX (Ng : List Str) (prs : List (Str × Str)) (c : Str) (i : Nat) (Ts : Str → Addr → Option Addr → TSD) (R : DQ) : DXQ := fun x fs ω => ∀ f, largeE Ng f prs c i Ts R x fs ω
def TTL (K : PySem.W.Frag) (Ng : List Str) (prs : List (Str × Str)) (c : Str) (i : Nat) (Ts : Str → Addr → Option Addr → TSD) : (XK → Hp → VK → Prop) → Hp → VK → Prop := fun tl H Q => ∃ h ω R, @Wd amb0 K h H ω ∧ @Cnt K amb0 h H ω R Q ∧
  ∀ E, CntX K h H ω (largeX Ng prs c i Ts R) E → tl E H fun v H1 => [V.str "returned", v].length ≤ sizeLine ∧ ∀ p, H1 p = none → Q (.ref p) (upd H1 p (.lst [.str "returned", v]))
/-- x(lambda: body), x telling of a call that may be too large -/
def dLarge (P : Addr) (q : Str) (Ng : List Str) (prs : List (Str × Str)) (c : Str) (i : Nat) (Ts : Str → Addr → Option Addr → TSD) (Tl : DXS → TD) : TD := fun ρ ω R => ω P = some (.tab q) ∧ Tl (noS (largeX Ng prs c i Ts R)) ρ ω fun d ω' => R (.lst [.str "returned", d]) ω'
end DL

/-! XC: short forms: defs that let errors out as their callers have them, classes as values, lambdas handed to a def. -/
namespace DL
open PySem PySem.Spec L2 PyProof.Rows PySem.W LamX LK
/-- the j-th row of a class -/
def memb (s : Stmt) (j : Nat) : Stmt := match s with | .ClassDef _ _ _ body _ _ _ _ _ _ _ => body.getD j (.Pass ⟨0, 0, 0, 0⟩) | _ => .Pass ⟨0, 0, 0, 0⟩
variable [Ers]
instance (priority := low) ambN {K : PySem.W.Frag} : AmbX K (fun _ _ _ _ => False) noX := ambF
def CalX (P : Program) (w : World) (K : PySem.W.Frag) (mg : Str → Option Value) (base : Heap) (k : Nat) (x : Str) (ps : List Str) (S : SpDX) : Prop :=
  ∃ f fd, FnG P w K mg base (L2.CX P w) k f fd ps (spUX K S) ∧ mg x = some (.ref f) ∧ PySem.W.keepIn K (.ref f) = true ∧ Binds K fd ps []
theorem de_callX {X : Cx} {W : WX} {RX : DXS} [I0 : AmbX X.K W RX] {k : Nat} {x : Str} {ps : List Str} {S : SpDX} {p pos : Pos} {e : Expr} {es : List Expr} {T : TAD} (C : CalX X.prog X.w X.K X.mg X.base k x ps S) (hr : Room k X.A) (gd : X.A.guards = some []) (tk : Takes X W) (hg : Gl X x) (ha : DA X (e :: es) T) (hdb : (x == ("__debug__" : Str)) = false := by decide)
    (e1 : starEach (e :: es) X.env = (false, eval e X.env) :: starEach es X.env := by rfl) (e2 : (backTo pos (starEach es X.env)).any (·.1) = false := by rfl) : DE X (.Call (.Name x p) (e :: es) [] pos) (dCallX S RX T) := by
  obtain ⟨f, fd, F, hm, hk, hb⟩ := C
  exact de_fnX F hr gd hg hm hk hb tk ha hdb e1 e2
theorem CalX.mk {P : Program} {w : World} {K : PySem.W.Frag} {mg : Str → Option Value} {base : Heap} {k : Nat} {x : Str} {st : Stmt} {N ps : List Str} {S : SpDX} {T : DXS → TSD} (D : DefAt K mg x st) (sc : FnScope N ps (defScope st))
    (bi : ∀ (kV doc pm : Value) (an : Option Addr) (cdv ct : Value) (us : List Value), us.length = ps.length → bindArgs (PySem.W.fnOf x x (defArgs st) (defBody st) (defScope st) .none kV doc pm an cdv ct) ⟨us, []⟩ = pure (ps.zip us))
    (ar : ∀ ds ω R RX, S ds ω R RX → ds.length = ps.length)
    (b : ∀ (f : Addr) (cdv : Value) (A : Around) (fs : List Env) (s : Shared) (hp : Hp) (e : XK) (RX : DXS) [AmbX K (noW e) RX], Room k (A.deeper (PyProof.Rows.envOfC x (defScope st) s.heap.objs.size f cdv)) → A.guards = some [] →
      DSs (cxOf (L2.CX P w) P w K mg base N x (defScope st) f cdv A fs s hp e) (defBody st) (T RX))
    (rd : ∀ ds ω R RX, S ds ω R RX → T (noS RX) { nx := fun _ ω' => R .non ω', rt := R } (startD N ds) ω) : CalX P w K mg base (k + 1) x ps S := by
  obtain ⟨f, fd, hm, F⟩ := D
  exact ⟨f, fd, FnG.ofX F sc ar (b f) rd, hm, F.kp, F.binds bi⟩
theorem de_callK {X : Cx} {K : PySem.W.Frag} {W : WX} {RX : DXS} (I0 : AmbX K W RX) {k : Nat} {x : Str} {ps : List Str} {S : SpDX} {p pos : Pos} {e : Expr} {es : List Expr} {T : TAD} (C : CalX X.prog X.w X.K X.mg X.base k x ps S) (hr : Room k X.A) (gd : X.A.guards = some []) (tk : Takes X W) (hg : Gl X x) (ha : @DA I0.toAmb X (e :: es) T) (hdb : (x == ("__debug__" : Str)) = false := by decide)
    (e1 : starEach (e :: es) X.env = (false, eval e X.env) :: starEach es X.env := by rfl) (e2 : (backTo pos (starEach es X.env)).any (·.1) = false := by rfl) (hK : X.K = K := by rfl) : @DE I0.toAmb X (.Call (.Name x p) (e :: es) [] pos) (dCallX S RX T) := by
  subst hK
  exact de_callX (I0 := I0) C hr gd tk hg ha hdb e1 e2
theorem ds_raiseK {X : Cx} {K : PySem.W.Frag} {W : WX} {RX : DXS} (I0 : AmbX K W RX) {x f : Str} {k : Nat} {e : Expr} {Te : TD} {p pos pos2 : Pos} (hc : X.calm = true) (tk : Takes X W) (T : ErrD X.prog X.w X.K X.mg X.base k x f) (hr : Room (k + 1) X.A) (hg : Gl X x) (ha : @DE I0.toAmb X e Te)
    (hdb : (x == ("__debug__" : Str)) = false := by decide) (he : starEach (e :: []) X.env = (false, eval e X.env) :: starEach [] X.env := by rfl) (hpl : (backTo pos (starEach [] X.env)).any (·.1) = false := by rfl) (hK : X.K = K := by rfl) :
    @DS I0.toAmb X (.Raise (some (.Call (.Name x p) [e] [] pos)) none pos2) (dRaise x f Te RX) := by
  subst hK
  exact ds_raise1 (I0 := I0) hc tk T hr hg ha hdb he hpl
theorem ds_tryK {X : Cx} {K : PySem.W.Frag} {Wout : WX} {RXo : DXS} (I0 : AmbX K Wout RXo) {x n c : Str} {i : Nat} {body suite : List Stmt} {b₀ : Stmt} {np pos pos' : Pos} {prs : List (Str × Str)} {fls : List Str} {Tb : DXS → TSD} {Ts : Str → Addr → Option Addr → TSD}
    (hs : X.stack = X.env :: X.outer) (hf : X.env.frame = some X.env.locals) (hN : X.N.Nodup) (hi : X.N[i]? = some n) (hln : X.env.kindOf n = some .local) (hc : Names X x (clsU c)) (tk : Takes X Wout) (ek : ErsK X.K prs fls)
    (hb : ∀ (W : WX) (RX : DXS) (pn : List (Addr × Obj)) (xe : Value → Shared → Prop) (I : AmbX K W RX), Takes (X.tr pn xe) W → PassesOwn (model X.prog X.w) X.A X.env xe → @DSs I.toAmb (X.tr pn xe) body (Tb RX))
    (hsu : ∀ (y : Str) (a : Addr) (oe : Obj) (d : Option Addr) (pn : List (Addr × Obj)), (y, c) ∈ prs → Zc (.ref (Ers.ad y)) d oe → (∃ vs, oe.data = .fields vs) → @DSs I0.toAmb (X.suite a ((a, oe) :: pn)) (b₀ :: suite) (Ts y a d)) (hK : X.K = K := by rfl) :
    @DS I0.toAmb X (.Try body [.ExceptHandler (some (.Name x np)) (some n) (b₀ :: suite) pos'] [] [] pos) (dTry prs c i Tb Ts RXo) := by
  subst hK
  exact ds_try hs hf hN hi hln hc tk ek (fun W RX pn xe => fun [I : AmbX X.K W RX] t pw => hb W RX pn xe I t pw) hsu
/-- a class of the program, by name -/
theorem de_cls [Amb] {X : Cx} {y : Str} {pos : Pos} (hg : Gl X y) (hm : X.mg y = some (.ref (Ers.ad y))) (hb : blt y = false := by decide) (hd : (y == ("__debug__" : Str)) = false := by decide) : DE X (.Name y pos) (dC (clsD y)) := by
  have e : clsD y = .raw (.ref (Ers.ad y)) := by unfold clsD clsV; rw [hb]; rfl
  rw [e]
  exact PE.weak (pe_glob (v := .ref (Ers.ad y)) hg hm rfl hd) fun _ _ _ ⟨_, _, _, _, _, w, q, k⟩ => k.self w q (.raw _)
/-- a built-in class of errors, by name -/
theorem de_clsB [Amb] {X : Cx} {y : Str} {pos : Pos} (hg : Gl X y) (hm : X.mg y = none) (hv : bootBuiltins y = some (.type y.toString)) (hb : blt y = true := by decide) (hn : y ≠ "__name__" := by decide) (hd : (y == ("__debug__" : Str)) = false := by decide) : DE X (.Name y pos) (dC (clsD y)) := by
  have e : clsD y = .raw (.ty y.toString) := by unfold clsD clsV; rw [hb]; rfl
  rw [e]
  exact PE.weak (pe_bltn (v := .ty y.toString) hg hm hv rfl hn hd) fun _ _ _ ⟨_, _, _, _, _, w, q, k⟩ => k.self w q (.raw _)
/-- an except clause's class -/
theorem names_cls {X : Cx} {y : Str} (hg : Gl X y) (hm : X.mg y = some (.ref (Ers.ad y))) (hb : blt y = false := by decide) (hd : (y == ("__debug__" : Str)) = false := by decide) : Names X y (clsU y) := by
  have e : clsU y = .ref (Ers.ad y) := by unfold clsU; rw [hb]; rfl
  rw [e]
  exact ⟨hg, hd, .inl hm⟩
section
variable {ρ : Rho} {ω : Om} {Q : DQ} {T : TAD}
theorem st_callX {S : SpDX} {RX : DXS} (h : T ρ ω fun xs ω1 => S xs ω1 Q fun y fs ω2 => RX y fs ρ ω2) : dCallX S RX T ρ ω Q := h
theorem st_raise {x f : Str} {Te : TD} {RX : DXS} {E : DEnds} (h : Te ρ ω fun d ω1 => RX x (some [(f, d)]) ρ ω1) : dRaise x f Te RX E ρ ω := h
theorem st_xf {a dd : Addr} {f : Str} {Te : TD} (h : Te ρ ω fun x ω1 => x = .raw (.ref a) ∧ ∃ l v, ω1 dd = some (.xd l) ∧ l.lookup f = some v ∧ Q v ω1) : dXf a (some dd) f Te ρ ω Q := by
  unfold dXf
  have e : (fun (x : D) (ω1 : Om) => x = .raw (.ref a) ∧ ∃ l v, ω1 dd = some (.xd l) ∧ l.lookup f = some v ∧ Q v ω1) = fun x ω1 => x = .raw (.ref a) ∧ ∃ dd', ∃ (l : List (Str × D)) (v : D), some dd = some dd' ∧ ω1 dd' = some (.xd l) ∧ l.lookup f = some v ∧ Q v ω1 := by
    funext x ω1
    refine propext ⟨fun ⟨e, l, v, z⟩ => ⟨e, dd, l, v, rfl, z⟩, fun ⟨e, d', l, v, e2, z⟩ => ?_⟩
    cases e2
    exact ⟨e, l, v, z⟩
  rw [← e]
  exact h
end
end DL

/-! TB: sorted(set(xs)) of a list of up to 4000 ints. -/
namespace DL
open PySem PySem.Spec PyProof.Rows L2 HT
section
variable {P : Program} {w : World} {A : Around} {E : Value → Shared → Prop} {s : Shared} {a : Addr}
end
section
variable {X : Cx} {a : Expr} {Ta : TD} {p p1 p2 pos : Pos} {K : PySem.W.Frag}
def rSortedSB (w : World) : List V → Hp → VK → Prop := fun vs H Q => ∃ (a : Addr) (S : Int → Bool) (n : Nat), vs = [V.ref a] ∧ H a = some (SetO w a S n) ∧ n ≤ 4000 ∧
  ∀ (ns : List Int) (p : Addr), ns.Pairwise (· < ·) → (∀ k : Int, k ∈ ns ↔ S k = true) → ns.length = n → H p = none → Q (.ref p) (upd H p (.lst (ns.map V.int)))
def rSetB (K : PySem.W.Frag) (w : World) : List V → Hp → VK → Prop := fun vs H Q => ∃ (l : Addr) (ns : List Int), vs = [V.ref l] ∧ SqL K H l (ns.map V.int) ∧ ns.length ≤ 4000 ∧
  ∀ a n, H a = none → n ≤ ns.length → Q (.ref a) (upd H a (SetO w a (fun j => decide (j ∈ ns)) n))
/-- sorted(set(xs)), xs a long list -/
def dSoSetB (Ta : TD) : TD := fun ρ ω Q => Ta ρ ω fun x ω1 => ∃ ns : List Int, lstOf ω1 x = some (ns.map D.int) ∧ ns.length ≤ 4000 ∧ ∀ ns' : List Int, ns'.Pairwise (· < ·) → (∀ k : Int, k ∈ ns' ↔ k ∈ ns) → ns'.length ≤ ns.length → Q (.lst (ns'.map D.int)) ω1
end
section
variable {ρ : Rho} {ω : Om} {Q : DQ} {Ta : TD}
theorem st_soSetB (h : Ta ρ ω fun x ω1 => ∃ ns : List Int, lstOf ω1 x = some (ns.map D.int) ∧ ns.length ≤ 4000 ∧ ∀ ns' : List Int, ns'.Pairwise (· < ·) → (∀ k : Int, k ∈ ns' ↔ k ∈ ns) → ns'.length ≤ ns.length → Q (.lst (ns'.map D.int)) ω1) : dSoSetB Ta ρ ω Q := h
end
end DL

/-! XK: the facts of the errors' classes, gathered. -/
namespace DL
open PySem PySem.Spec L2 PyProof.Rows PySem.W
section
variable [Ers] {P : Program} {w : World} {K : PySem.W.Frag} {mg : Str → Option Value} {base : Heap} {fls : List Str} {x y : Str}
structure PairK (K : PySem.W.Frag) (fls : List Str) (x y : Str) : Prop where
  ex : exmOne K (.ref (Ers.ad x)) (clsU y) = some (subB x y)
  ki : kitOne K (.ref (Ers.ad x)) (clsU y) = some (subB x y)
  cl : ErrC K (Ers.ad x)
  no : ∀ f ∈ fls, findIn K (.ref (Ers.ad x)) f = some none
theorem pk_nil : ∀ p ∈ ([] : List (Str × Str)), PairK K fls p.1 p.2 := fun _ h => nomatch h
theorem pk_cons {l : List (Str × Str)} (h : PairK K fls x y) (t : ∀ p ∈ l, PairK K fls p.1 p.2) : ∀ p ∈ (x, y) :: l, PairK K fls p.1 p.2 := fun p hp => by
  rcases List.mem_cons.mp hp with rfl | z
  · exact h
  · exact t p z
theorem ersK_of {prs : List (Str × Str)} (h : ∀ p ∈ prs, PairK K fls p.1 p.2) : ErsK K prs fls :=
  ⟨fun x y m => (h _ m).ex, fun x y m => (h _ m).ki, fun x y m => (h _ m).cl, fun x y f m hf => (h _ m).no f hf⟩
theorem pairK {C : Addr} {cv : Value} {b : Bool} (e : Ers.ad x = C) (e2 : clsU y = cv) (hb : subB x y = b) (ex : exmOne K (.ref C) cv = some b) (ki : kitOne K (.ref C) cv = some b) (cl : ErrC K C) (no : ∀ f ∈ fls, findIn K (.ref C) f = some none) : PairK K fls x y := by
  subst e e2 hb
  exact ⟨ex, ki, cl, no⟩
theorem exm_cls {C : Addr} {t : Value} {b : Bool} (h1 : subIn K (.ref C) (.type "BaseException") = some true) (h2 : isClsIn K C = true) (h3 : typeIn K (.ref C) = some (.type "type")) (h4 : subIn K t (.ref C) = some b) : exmOne K t (.ref C) = some b := by
  have e1 : (subIn K (.ref C) (.type "BaseException") == some true) = true := by rw [h1] <;> rfl
  have h2 : (clsIn K C).isSome = true := h2
  have e2 : ((clsIn K C).isSome && typeIn K (.ref C) == some (.type "type")) = true := by rw [h2, h3] <;> rfl
  unfold exmOne
  rw [if_pos e1]
  exact (if_pos e2).trans h4
theorem kit_clsR {A C : Addr} {b : Bool} (hs : subIn K (.ref A) (.ref A) = some true) (h2 : isClsIn K C = true) (h3 : typeIn K (.ref C) = some (.type "type")) (h4 : subIn K (.ref A) (.ref C) = some b) : kitOne K (.ref A) (.ref C) = some b := by
  have h2 : (clsIn K C).isSome = true := h2
  have e2 : ((clsIn K C).isSome && typeIn K (.ref C) == some (.type "type")) = true := by rw [h2, h3] <;> rfl
  unfold kitOne
  split
  · rename_i c
    have e : A = C := Value.ref.inj (beq_iff_eq.mp c)
    rw [← e, hs] at h4
    exact h4
  · exact (if_pos e2).trans h4
theorem clsU_ref {C : Addr} (e : Ers.ad y = C) (h : blt y = false := by decide) : clsU y = .ref C := by
  unfold clsU
  rw [h, e]
  rfl
theorem no_nil {C : Addr} : ∀ f ∈ ([] : List Str), findIn K (.ref C) f = some none := fun _ h => nomatch h
theorem no_cons {C : Addr} {f : Str} {l : List Str} (h : findIn K (.ref C) f = some none) (t : ∀ f ∈ l, findIn K (.ref C) f = some none) : ∀ g ∈ f :: l, findIn K (.ref C) g = some none := fun g hg => by
  rcases List.mem_cons.mp hg with rfl | z
  · exact h
  · exact t g z
theorem errD_of {C fI : Addr} {f qual v : Str} {st : Stmt} {p1 p2 p3 p4 : Pos} {oc : Value} {od an : Option Addr} {osl : Array (Option Value)} {kV doc pm cdv ct : Value} (e : Ers.ad x = C) (T : OexC K C) (gm : mg x = some (.ref C)) (hno : findIn K (.ref C) f = some none)
    (iC : findIn K (.ref C) "__init__" = some (some (.ref fI))) (tI : typeIn K (.ref fI) = some (.type "function"))
    (l : K.lookup fI = some ⟨oc, od, .func (PySem.W.fnOf "__init__" qual (defArgs st) (defBody st) (defScope st) .none kV doc pm an cdv ct), osl⟩) (cc : codeIn K cdv qual = true) (kp : keepIn K (.ref fI) = true)
    (sc : FnScope ["self", v] ["self", v] (defScope st)) (hb : defBody st = [.Assign [.Attribute (.Name "self" p1) f p2] (.Name v p3) p4]) (vs : Vis (defScope st) "self") (vv : Vis (defScope st) v)
    (hd : (v == ("__debug__" : Str)) = false) (hcd : (v == ("__classdict__" : Str)) = false)
    (hs : ∀ env : Env, swapsWith (.Name v p3) (some (.Attribute (.Name "self" p1) f p2)) p4.line env = pure false)
    (bi : ∀ (kV doc pm : Value) (an : Option Addr) (cdv ct : Value) (us : List Value), us.length = (["self", v] : List Str).length → bindArgs (PySem.W.fnOf "__init__" qual (defArgs st) (defBody st) (defScope st) .none kV doc pm an cdv ct) ⟨us, []⟩ = pure ((["self", v] : List Str).zip us)) : ErrD P w K mg base 1 x f := by
  subst e
  have F := fun_mk (st := st) l cc kp
  exact ⟨T, gm, fI, _, v, iC, tI, init_one T hno F sc hb vs vv hd hcd hs, F.binds bi⟩
end
end DL

/-! TC: a < b < c < d as a test. -/
namespace DL
open PySem PySem.Spec PyProof.Rows L2
section
variable {X : Cx} {a b c d : Expr} {pos : Pos} {op1 op2 op3 : CmpOp}
def tCh3 (r1 r2 r3 : R2) (ta tb tc td : TE) : TT := fun σ H Q => ta σ H fun x H1 => tb σ H1 fun y H2 => r1 x y H2 fun z H3 => ∃ k, z = .bl k ∧ if k = true then
    tc σ H3 fun u H4 => r2 y u H4 fun z2 H5 => ∃ k2, z2 = .bl k2 ∧ if k2 = true then td σ H5 fun v H6 => r3 u v H6 fun z3 H7 => ∃ k3, z3 = .bl k3 ∧ Q k3 H7 else Q false H5
  else Q false H3
def dCh3 (o1 o2 o3 : DO2) (Ta Tb Tc Td : TD) : TTD := fun ρ ω Q => Ta ρ ω fun x ω1 => Tb ρ ω1 fun y ω2 => o1 x y ω2 fun z ω3 => ∃ k, z = .bl k ∧ if k = true then
    Tc ρ ω3 fun u ω4 => o2 y u ω4 fun z2 ω5 => ∃ k2, z2 = .bl k2 ∧ if k2 = true then Td ρ ω5 fun v ω6 => o3 u v ω6 fun z3 ω7 => ∃ k3, z3 = .bl k3 ∧ Q k3 ω7 else Q false ω5
  else Q false ω3
variable {ρ : Rho} {ω : Om} {QT : Bool → Om → Prop} {o1 o2 o3 : DO2} {Ta Tb Tc Td : TD}
theorem st_ch3 (h : Ta ρ ω fun x ω1 => Tb ρ ω1 fun y ω2 => o1 x y ω2 fun z ω3 => ∃ k, z = .bl k ∧ if k = true then
    Tc ρ ω3 fun u ω4 => o2 y u ω4 fun z2 ω5 => ∃ k2, z2 = .bl k2 ∧ if k2 = true then Td ρ ω5 fun v ω6 => o3 u v ω6 fun z3 ω7 => ∃ k3, z3 = .bl k3 ∧ QT k3 ω7 else QT false ω5
  else QT false ω3) : dCh3 o1 o2 o3 Ta Tb Tc Td ρ ω QT := h
end
end DL

/-! TG: plans as data that is compared and shown; the word of a certificate. -/
namespace DL
open PySem PySem.Spec L2 PyProof.Rows
/-- what the law leans on -/
theorem flat_mvs : ∀ ms : List Mv, flatAll (ms.map mvD) = true
  | [] => rfl
  | m :: ms => by
    have z := flat_pair m.1 m.2
    unfold pairD at z
    simp [flatAll, flat_mvs ms, mvD, z]
def wordS (x : Int) (ws g h : List Int) : Str := if g = h then "plan" else if wt ws h ≤ wt ws g then "light" else if (gapL x (btw ws (wt ws g) (wt ws h))).isNone = true then "plan" else "gap"
end DL

/-! TH: an owned dict keyed by numbers: i in d, d.get(i, e). -/
namespace DL
open PySem PySem.Spec L2 PyProof.Rows
section
variable {X : Cx} {a e f : Expr} {pos : Pos} {Ta Te Tv : TD}
/-- i in d, i not in d -/
def dDInK (neg : Bool) (Ty Td : TD) : TD := fun ρ ω Q => Ty ρ ω fun y ω1 => Td ρ ω1 fun x ω2 => ∃ (p : Addr) (i : Int) (kds : List (L2.Key × D)), x = .raw (.ref p) ∧ y = .int i ∧ ω2 p = some (.dK kds) ∧ Q (.bl (if neg then !(lookI kds i).isSome else (lookI kds i).isSome)) ω2
/-- d.get(i, e), d owned, keyed by numbers -/
def dDGetN (Ta Te Tv : TD) : TD := fun ρ ω Q => Ta ρ ω fun x ω1 => ∃ p, x = .raw (.ref p) ∧ (∃ kds, ω1 p = some (.dK kds)) ∧ Te ρ ω1 fun y ω2 => Tv ρ ω2 fun z ω3 => ∃ (i : Int) (kds : List (L2.Key × D)), y = .int i ∧ ω3 p = some (.dK kds) ∧ Q ((lookI kds i).getD z) ω3
variable {ρ : Rho} {ω : Om} {Q : DQ}
theorem st_dinK {neg : Bool} (h : Ta ρ ω fun y ω1 => Te ρ ω1 fun x ω2 => ∃ (p : Addr) (i : Int) (kds : List (L2.Key × D)), x = .raw (.ref p) ∧ y = .int i ∧ ω2 p = some (.dK kds) ∧ Q (.bl (if neg then !(lookI kds i).isSome else (lookI kds i).isSome)) ω2) : dDInK neg Ta Te ρ ω Q := h
theorem st_dgetN (h : Ta ρ ω fun x ω1 => ∃ p, x = .raw (.ref p) ∧ (∃ kds, ω1 p = some (.dK kds)) ∧ Te ρ ω1 fun y ω2 => Tv ρ ω2 fun z ω3 => ∃ (i : Int) (kds : List (L2.Key × D)), y = .int i ∧ ω3 p = some (.dK kds) ∧ Q ((lookI kds i).getD z) ω3) : dDGetN Ta Te Tv ρ ω Q := h
end
end DL
namespace DL
open PySem PySem.Spec L2
/-! ### the least number of steps, one stop after another -/
theorem way_last {S : Int → Prop} {x : Int} : ∀ {k : Nat} {s t : Int}, Way S x (k + 1) s t → ∃ r, (r = s ∨ S r) ∧ Way S x k s r ∧ 1 ≤ t - r ∧ t - r ≤ x ∧ S t
  | 0, s, t, ⟨t', st, a, b, e⟩ => by
    have e : t' = t := e
    subst e
    exact ⟨s, .inl rfl, rfl, a, b, st⟩
  | k + 1, s, t, ⟨t', st, a, b, w⟩ => by
    obtain ⟨r, hr, w2, c, d, f⟩ := way_last w
    exact ⟨r, .inr (hr.elim (fun z => z ▸ st) id), ⟨t', st, a, b, w2⟩, c, d, f⟩
/-- the least number of steps to a stop, the first one too -/
def fwI (x : Int) (ws : List Int) (lo s : Int) : Option Nat := if s = lo then some 0 else fewW x ws lo s
end DL

/-! TJ: the widest gap; weights times a number. -/
namespace DL
open PySem PySem.Spec L2
/-- the widest step between neighbours -/
def IsW (L : List Int) (m : Int) : Prop := (∃ p ∈ adj L, p.2 - p.1 = m) ∧ ∀ p ∈ adj L, p.2 - p.1 ≤ m
theorem fewN_lt {x : Int} {ws g h : List Int} (lt : wt ws g < wt ws h) : fewN x ws g h = fewW x ws (wt ws g) (wt ws h) := by
  unfold fewN
  rw [if_neg (fun e => by rw [e] at lt; omega), if_neg (by omega)]
/-! ### weights times a number -/
end DL

/-! TI: xs.index(i), xs owned, of numbers. -/
namespace DL
open PySem PySem.Spec L2 PyProof.Rows
section
variable {X : Cx} {a e : Expr} {pos : Pos} {Ta Te : TD}
def rIdxI : V → List V → Hp → VK → Prop := fun x vs H Q => ∃ (l : Addr) (ns : List Int) (i : Int), x = .ref l ∧ vs = [.int i] ∧ H l = some (.lst (ns.map V.int)) ∧ ns.length ≤ sizeLine ∧ i ∈ ns ∧ Q (.int (ns.idxOf i : Nat)) H
/-- xs.index(i), xs owned, of numbers -/
def dIdx (Ta Te : TD) : TD := fun ρ ω Q => Ta ρ ω fun x ω1 => ∃ p, x = .raw (.ref p) ∧ (∃ xs, ω1 p = some (.lst xs)) ∧ Te ρ ω1 fun y ω2 => ∃ (ns : List Int) (i : Int), y = .int i ∧ ω2 p = some (.lst (ns.map D.int)) ∧ ns.length ≤ sizeLine ∧ i ∈ ns ∧ Q (.int (ns.idxOf i : Nat)) ω2
variable {ρ : Rho} {ω : Om} {Q : DQ}
theorem st_idx (h : Ta ρ ω fun x ω1 => ∃ p, x = .raw (.ref p) ∧ (∃ xs, ω1 p = some (.lst xs)) ∧ Te ρ ω1 fun y ω2 => ∃ (ns : List Int) (i : Int), y = .int i ∧ ω2 p = some (.lst (ns.map D.int)) ∧ ns.length ≤ sizeLine ∧ i ∈ ns ∧ Q (.int (ns.idxOf i : Nat)) ω2) : dIdx Ta Te ρ ω Q := h
end
end DL
namespace DL
open PySem PySem.Spec L2
/-! ### routes joined -/
theorem climb_join {x k : Int} : ∀ {l t : List Int}, ClimbI x (l ++ [k]) → ClimbI x (k :: t) → ClimbI x (l ++ k :: t)
  | [], _, _, h => h
  | [a], t, h, h2 => ⟨h.1, h2⟩
  | a :: b :: l, t, h, h2 => ⟨h.1, climb_join (l := b :: l) h.2 h2⟩
theorem mvs_join (k : List Int) : ∀ (l t : List (List Int)), mvsOf (l ++ k :: t) = mvsOf (l ++ [k]) ++ mvsOf (k :: t)
  | [], _ => rfl
  | [a], t => by
    show mvAt a k :: mvsOf (k :: t) = [mvAt a k] ++ mvsOf (k :: t)
    rfl
  | a :: b :: l, t => by
    show mvAt a b :: mvsOf (b :: l ++ k :: t) = (mvAt a b :: mvsOf (b :: l ++ [k])) ++ mvsOf (k :: t)
    rw [mvs_join k (b :: l) t]
    rfl
theorem Route.join [Amb] {x : Int} {ws g k h : List Int} {r1 r2 : List (List Int)} (a : Route x ws g k r1) (b : Route x ws k h r2) : ∃ r, Route x ws g h r ∧ mvsOf r = mvsOf r1 ++ mvsOf r2 ∧ r.length = r1.length + r2.length - 1 := by
  obtain ⟨l, rfl⟩ := List.getLast?_eq_some_iff.mp a.la
  obtain ⟨t, rfl⟩ : ∃ t, r2 = k :: t := by
    have := b.hd
    cases r2 with
    | nil => cases this
    | cons y t => cases this; exact ⟨t, rfl⟩
  refine ⟨l ++ k :: t, ⟨?_, ?_, fun y hy => ?_, ?_⟩, mvs_join k l t, by rw [List.length_append, List.length_append]; simp only [List.length_cons, List.length_nil]; omega⟩
  · have := a.hd
    cases l with
    | nil => exact this
    | cons y l => exact this
  · rw [List.getLast?_append, b.la]
    rfl
  · rcases List.mem_append.mp hy with z | z
    · exact a.grp y (List.mem_append_left _ z)
    · exact b.grp y z
  · have u1 : ClimbI x ((l ++ [k]).map (wt ws)) := a.up
    have u2 : ClimbI x ((k :: t).map (wt ws)) := b.up
    show ClimbI x ((l ++ k :: t).map (wt ws))
    rw [List.map_append] at u1 ⊢
    exact climb_join u1 u2
/-! ### the word of a certificate -/
/-! ### renumbered -/
/-- the places of a group's people in a row -/
def reG (ms g : List Int) : List Int := (ups ms.length).filter fun i => decide (wAt ms i ∈ g)
theorem reG_grp (ms g : List Int) : GrpI ms.length (reG ms g) := ⟨fun k hk => mem_ups.mp (List.mem_filter.mp hk).1, (ups_lt _).filter _⟩
theorem idx_at {ms : List Int} (nd : ms.Nodup) {k : Int} (h : k ∈ ms) : wAt ms ((ms.idxOf k : Nat) : Int) = k ∧ ms.idxOf k < ms.length := by
  have l := List.idxOf_lt_length_of_mem h
  refine ⟨?_, l⟩
  unfold wAt
  rw [Int.toNat_natCast, List.getD_eq_getElem?_getD, List.getElem?_eq_getElem l, List.getElem_idxOf l]
  rfl
theorem idx_back {ms : List Int} (nd : ms.Nodup) {i : Int} (i0 : 0 ≤ i) (i1 : i < ms.length) : ((ms.idxOf (wAt ms i) : Nat) : Int) = i ∧ wAt ms i ∈ ms := by
  obtain ⟨j, rfl⟩ := Int.eq_ofNat_of_zero_le i0
  have l : j < ms.length := by omega
  have e : wAt ms (j : Int) = ms[j] := by
    unfold wAt
    rw [Int.toNat_natCast, List.getD_eq_getElem?_getD, List.getElem?_eq_getElem l]
    rfl
  rw [e]
  refine ⟨?_, List.getElem_mem l⟩
  rw [nd.idxOf_getElem j l]
theorem reG_perm {ms g : List Int} (nd : ms.Nodup) (hs : ∀ k ∈ g, k ∈ ms) (ng : g.Nodup) : (g.map fun k => ((ms.idxOf k : Nat) : Int)).Perm (reG ms g) := by
  refine (List.perm_ext_iff_of_nodup ?_ (lt_nodup ((ups_lt _).filter _))).mpr fun i => ?_
  · refine List.pairwise_map.mpr (List.Pairwise.imp_of_mem (fun {a b} ha hb ne e => ne ?_) ng)
    have x := (idx_at nd (hs a ha)).1
    rw [e, (idx_at nd (hs b hb)).1] at x
    exact x.symm
  · rw [List.mem_map, List.mem_filter, mem_ups, decide_eq_true_eq]
    constructor
    · rintro ⟨k, hk, rfl⟩
      obtain ⟨e, l⟩ := idx_at nd (hs k hk)
      rw [e]
      exact ⟨⟨by omega, by omega⟩, hk⟩
    · rintro ⟨⟨a, b⟩, c⟩
      exact ⟨_, c, (idx_back nd a b).1⟩
/-- the same weights in another order -/
theorem wt_re {ws ms g : List Int} (nd : ms.Nodup) (hs : ∀ k ∈ g, k ∈ ms) (ng : g.Nodup) : wt (ms.map (wAt ws)) (reG ms g) = wt ws g := by
  rw [← wt_perm _ (reG_perm nd hs ng)]
  unfold wt
  rw [List.map_map]
  refine congrArg List.sum (List.map_congr_left fun k hk => ?_)
  obtain ⟨e, l⟩ := idx_at nd (hs k hk)
  show (ms.map (wAt ws)).getD ((ms.idxOf k : Nat) : Int).toNat 0 = ws.getD k.toNat 0
  rw [Int.toNat_natCast, List.getD_eq_getElem?_getD, List.getElem?_map, List.getElem?_eq_getElem l, List.getElem_idxOf l]
  rfl
structure Ren (n : Nat) (ms : List Int) : Prop where
  perm : ms.Perm (ups n)
theorem Ren.nd {n : Nat} {ms : List Int} (h : Ren n ms) : ms.Nodup := h.perm.nodup_iff.mpr (lt_nodup (ups_lt n))
theorem Ren.len {n : Nat} {ms : List Int} (h : Ren n ms) : ms.length = n := by rw [h.perm.length_eq, ups_len]
theorem Ren.mem {n : Nat} {ms : List Int} (h : Ren n ms) {k : Int} : k ∈ ms ↔ 0 ≤ k ∧ k < n := by rw [h.perm.mem_iff, mem_ups]
theorem Ren.sub {n : Nat} {ms g : List Int} (h : Ren n ms) (hg : GrpI n g) : ∀ k ∈ g, k ∈ ms := fun k hk => h.mem.mpr (hg.1 k hk)
/-- a group of places comes from a group -/
theorem reG_onto {n : Nat} {ms g' : List Int} (r : Ren n ms) (hg : GrpI n g') : ∃ g, GrpI n g ∧ reG ms g = g' := by
  refine ⟨(ups n).filter fun k => decide (((ms.idxOf k : Nat) : Int) ∈ g'), ⟨fun k hk => mem_ups.mp (List.mem_filter.mp hk).1, (ups_lt _).filter _⟩, ?_⟩
  refine sorted_eq (reG_grp _ _).2 hg.2 fun i => ?_
  unfold reG
  rw [List.mem_filter, mem_ups, decide_eq_true_eq, List.mem_filter, mem_ups, decide_eq_true_eq, r.len]
  constructor
  · rintro ⟨⟨a, b⟩, _, c⟩
    rw [(idx_back r.nd a (by rw [r.len]; exact b)).1] at c
    exact c
  · intro c
    obtain ⟨a, b⟩ := hg.1 i c
    obtain ⟨e, m⟩ := idx_back r.nd a (by rw [r.len]; exact b)
    refine ⟨⟨a, b⟩, r.mem.mp m, by rw [e]; exact c⟩
end DL
namespace DL
open PySem PySem.Spec L2
/-! ### turned: those who are not in the group -/
def cmpl (n : Nat) (g : List Int) : List Int := (ups n).filter fun k => !decide (k ∈ g)
theorem cmpl_grp (n : Nat) (g : List Int) : GrpI n (cmpl n g) := ⟨fun k hk => mem_ups.mp (List.mem_filter.mp hk).1, (ups_lt _).filter _⟩
theorem ups_in {n : Nat} {g : List Int} (hg : GrpI n g) : (ups n).filter (fun k => decide (k ∈ g)) = g := sorted_eq ((ups_lt _).filter _) hg.2 fun k => by
  rw [List.mem_filter, mem_ups, decide_eq_true_eq]
  exact ⟨fun h => h.2, fun h => ⟨hg.1 k h, h⟩⟩
theorem wt_cmpl {ws g : List Int} (hg : GrpI ws.length g) : wt ws (cmpl ws.length g) = ws.sum - wt ws g := by
  have a := wt_split ws (fun k => decide (k ∈ g)) (ups ws.length)
  rw [wt_ups, ups_in hg] at a
  unfold cmpl
  omega
theorem climb_turn {x T : Int} : ∀ {l : List Int}, ClimbI x l → ClimbI x (l.map (T - ·)).reverse
  | [], _ => trivial
  | [_], _ => trivial
  | a :: b :: l, h => by
    have ih := climb_turn (T := T) (l := b :: l) h.2
    rw [List.map_cons, List.reverse_cons] at ih ⊢
    rw [List.map_cons, List.reverse_cons, List.append_assoc]
    exact climb_join ih ⟨⟨by have := h.1.1; omega, by have := h.1.2; omega⟩, trivial⟩
theorem Route.turn [Amb] {x : Int} {ws g h : List Int} {r : List (List Int)} (rt : Route x ws g h r) : Route x ws (cmpl ws.length h) (cmpl ws.length g) (r.map (cmpl ws.length)).reverse := by
  refine ⟨by rw [List.head?_reverse, List.getLast?_map, rt.la]; rfl, by rw [List.getLast?_reverse, List.head?_map, rt.hd]; rfl, fun k hk => ?_, ?_⟩
  · rw [List.mem_reverse] at hk
    obtain ⟨y, _, rfl⟩ := List.mem_map.mp hk
    exact cmpl_grp _ y
  · have u : ClimbI x (r.map (wt ws)) := rt.up
    have := climb_turn (T := ws.sum) u
    show ClimbI x ((r.map (cmpl ws.length)).reverse.map (wt ws))
    rw [List.map_reverse, List.map_map]
    rw [List.map_map] at this
    have e : r.map (wt ws ∘ cmpl ws.length) = r.map ((fun s => ws.sum - s) ∘ wt ws) := List.map_congr_left fun k hk => wt_cmpl (rt.grp k hk)
    rw [e]
    exact this
/-! ### one more, heavier than all -/
end DL

/-! TA: an owned dict keyed by tuples of numbers: d[t], d.get(t, e), d[t] = v over what is there. -/
namespace DL
open PySem PySem.Spec L2 PyProof.Rows
/-- what a tuple leads to -/
def lookT : List (List Int × D) → List Int → Option D
  | [], _ => none
  | (k, d) :: kds, i => if k = i then some d else lookT kds i
/-- in its place, or at the end -/
def setT : List (List Int × D) → List Int → D → List (List Int × D)
  | [], i, v => [(i, v)]
  | (k, d) :: kds, i, v => if k = i then (k, v) :: kds else (k, d) :: setT kds i v
section
variable {X : Cx} {K : PySem.W.Frag} {h : Fp} {H : Hp} {ω : Om} {a e f value : Expr} {pos : Pos} {Ta Te Tv : TD}
/-- d[t] -/
def dDGetT (Ta Te : TD) : TD := fun ρ ω Q => Ta ρ ω fun x ω1 => Te ρ ω1 fun y ω2 => ∃ (p : Addr) (ns : List Int) (kds : List (List Int × D)) (d : D), x = .raw (.ref p) ∧ y = .tup (ns.map D.int) ∧ ω2 p = some (.dT kds) ∧ lookT kds ns = some d ∧ Q d ω2
/-- d.get(t, e) -/
def dDGetTN (Ta Te Tv : TD) : TD := fun ρ ω Q => Ta ρ ω fun x ω1 => ∃ p, x = .raw (.ref p) ∧ (∃ kds, ω1 p = some (.dT kds)) ∧ Te ρ ω1 fun y ω2 => Tv ρ ω2 fun z ω3 => ∃ (ns : List Int) (kds : List (List Int × D)), y = .tup (ns.map D.int) ∧ ω3 p = some (.dT kds) ∧ Q ((lookT kds ns).getD z) ω3
/-- d[t] = v, t there or not -/
def dDSetT (Ta Te Tv : TD) : TSD := fun E ρ ω => Tv ρ ω fun v ω1 => Ta ρ ω1 fun x ω2 => Te ρ ω2 fun y ω3 => ∃ (p : Addr) (ns : List Int) (kds : List (List Int × D)), x = .raw (.ref p) ∧ y = .tup (ns.map D.int) ∧ ω3 p = some (.dT kds) ∧ (kds.map (·.1)).Nodup ∧ kds.length < sizeLine ∧ E.nx ρ (oset ω3 p (.dT (setT kds ns v)))
variable {ρ : Rho} {Q : DQ}
theorem st_dgetT (h : Ta ρ ω fun x ω1 => Te ρ ω1 fun y ω2 => ∃ (p : Addr) (ns : List Int) (kds : List (List Int × D)) (d : D), x = .raw (.ref p) ∧ y = .tup (ns.map D.int) ∧ ω2 p = some (.dT kds) ∧ lookT kds ns = some d ∧ Q d ω2) : dDGetT Ta Te ρ ω Q := h
theorem st_dgetTN (h : Ta ρ ω fun x ω1 => ∃ p, x = .raw (.ref p) ∧ (∃ kds, ω1 p = some (.dT kds)) ∧ Te ρ ω1 fun y ω2 => Tv ρ ω2 fun z ω3 => ∃ (ns : List Int) (kds : List (List Int × D)), y = .tup (ns.map D.int) ∧ ω3 p = some (.dT kds) ∧ Q ((lookT kds ns).getD z) ω3) : dDGetTN Ta Te Tv ρ ω Q := h
theorem st_dsetT {E : DEnds} (h : Tv ρ ω fun v ω1 => Ta ρ ω1 fun x ω2 => Te ρ ω2 fun y ω3 => ∃ (p : Addr) (ns : List Int) (kds : List (List Int × D)), x = .raw (.ref p) ∧ y = .tup (ns.map D.int) ∧ ω3 p = some (.dT kds) ∧ (kds.map (·.1)).Nodup ∧ kds.length < sizeLine ∧ E.nx ρ (oset ω3 p (.dT (setT kds ns v)))) : dDSetT Ta Te Tv E ρ ω := h
end
end DL

/-! TO: dict(xs) of a list of pairs, the keys tuples, all different. -/
namespace L2
open PySem PySem.Spec PyProof.Rows
section
variable {prog : Program} {w : World} {A : Around} {E : Value → Shared → Prop} {K : Type} [DecidableEq K] {knd : HeapKind prog w K}
/-- all but two places stand -/
abbrev Kep (S I : Addr) (h h' : Heap) : Prop := ∀ (c : Addr) (o : Obj), c ≠ S → c ≠ I → h.get? c = some o → h'.get? c = some o
def Stay (knd : HeapKind prog w K) (S I : Addr) (h : Heap) (k : K) (b : Addr) : Prop := ∀ h', Kep S I h h' → knd.is h' k b
theorem Stay.go {S I : Addr} {h h' : Heap} {k : K} {b : Addr} (x : Stay knd S I h k b) (y : Kep S I h h') : Stay knd S I h' k b := fun h2 z => x h2 fun c o a d e => z c o a d (y c o a d e)
theorem dictH_keep {S I : Addr} {h h' : Heap} {xs : List (K × Addr × Value)} (hm : h.DictOfH knd S xs) (st : ∀ q ∈ xs, Stay knd S I h q.1 q.2.1) (y : Kep S I h h') (e : ∀ o, h.get? S = some o → h'.get? S = some o) : h'.DictOfH knd S xs := by
  obtain ⟨o, es, ep, ho, hc, hd, he, his, hn⟩ := hm
  exact ⟨o, es, ep, e o ho, hc, hd, he, fun x hx => st x hx h' y, hn⟩
theorem atKey_new {xs : List (K × Addr × Value)} {k : K} (h : k ∉ xs.map (·.1)) : atKey xs k = none :=
  atKey_none_of_get fun j p e => h (List.mem_map.mpr ⟨(k, p), List.mem_of_getElem? e, rfl⟩)
/-- the walk over the pairs -/
theorem upd_loopH (hu : knd.room A.in1) {R : Result → Shared → Prop} {S I l : Addr} {items : Array Value} {res : Value} (hh : A.handled = none) (hlI : l ≠ I) (hSI : S ≠ I) (hSl : S ≠ l) :
    ∀ (rest : List (K × Addr × Value)) (i : Nat) (acc : List (K × Addr × Value)) (ix : Int) (t : Tok) (s : Shared), items.size = i + rest.length → acc.length + rest.length ≤ sizeLine →
      (∀ (j : Nat) (q : K × Addr × Value), rest[j]? = some q → ∃ (b : Addr), items[i + j]? = some (.ref b) ∧ b ≠ S ∧ b ≠ I ∧ IsTup s.heap b #[.ref q.2.1, q.2.2]) →
      (∀ q ∈ acc ++ rest, Stay knd S I s.heap q.1 q.2.1) → ((acc ++ rest).map (·.1)).Nodup →
      s.heap.IsListIter I l i → s.heap.IsList l items → s.heap.DictOfH knd S acc →
      (∀ h' tk, h'.DictOfH knd S (acc ++ rest) → Kep S I s.heap h' → R (.ok (.ret res)) { s with heap := h', toks := tk }) →
      codeAny (model prog w) A (.builtin "dict.update.loop" ⟨[.ref S, .ref I, .int ix t, res], []⟩) R s
  | [], i, acc, ix, t, s, hsz, hln, ht, hst, hnd, hit, hl, hm, hR => by
    refine codeAny_builtin ud_entry ?_
    rw [Around.under_plainId ud_plain _]
    show wpAny _ A.in1 (pyNext (.ref I) >>= _) _ _ s
    refine wpAny_bind (wpAny_pyNext_list_end (A := A.in1) hh hit hl (by first | exact Array.getElem?_eq_none (Nat.le_of_eq hsz) | (simp at hsz; simp; omega)) fun h' he => ?_)
    show wpAny _ A.in1 (Builtin.Dict.addKeywords S [] >>= _) _ _ _
    refine wpAny_bind (wpAny_pure (wpAny_pure ?_))
    have kp : Kep S I s.heap h' := fun b o _ hb e => he b o hb e
    rw [List.append_nil] at hst hR
    exact hR h' s.toks (dictH_keep hm hst kp fun o e => he S o hSI e) kp
  | q :: rest, i, acc, ix, t, s, hsz, hln, ht, hst, hnd, hit, hl, hm, hR => by
    obtain ⟨b, hb, hbS, hbI, htup⟩ := ht 0 q rfl
    rw [List.length_cons] at hsz hln
    refine codeAny_builtin ud_entry ?_
    rw [Around.under_plainId ud_plain _]
    show wpAny _ A.in1 (pyNext (.ref I) >>= _) _ _ s
    refine wpAny_bind (wpAny_pyNext_list_item (x := .ref b) hit hl (by simpa using hb) fun h1 hit1 hs1 => ?_)
    have k1 : Kep S I s.heap h1 := fun c o _ hc e => hs1.extBut c o hc e
    have ht1 : IsTup h1 b #[.ref q.2.1, q.2.2] := htup.extBut hs1.extBut hbI
    have hl1 : h1.IsList l items := hl.extBut hs1.extBut hlI
    have hm1 : h1.DictOfH knd S acc := dictH_keep hm (fun x hx => hst x (List.mem_append_left _ hx)) k1 fun o e => hs1.extBut S o hSI e
    obtain ⟨o, ho, hc, n, hd⟩ := id ht1
    show wpAny _ A.in1 (holding [Value.ref b] _ >>= _) _ _ _
    refine wpAny_bind (wpAny_holding ?_)
    refine wpAny_bind (wpAny_tryCatch ?_)
    unfold Builtin.Dict.pairItems
    refine wpAny_bind (wpAny_typeOf (T := "tuple") ⟨o, ho, hc⟩ ?_)
    rw [if_pos (by first | decide | rfl | simp)]
    refine wpAny_bind (wpAny_seqItems ho hd (wpAny_pure ?_))
    show wpAny _ A.in1 (holding [.ref q.2.1, q.2.2] (dictSet S (.ref q.2.1) q.2.2)) _ _ _
    have hq : q ∈ acc ++ q :: rest := List.mem_append_right _ List.mem_cons_self
    have nq : q.1 ∉ acc.map (·.1) := fun z => by
      rw [List.map_append, List.map_cons] at hnd
      exact (List.nodup_append.mp hnd).2.2 _ z _ List.mem_cons_self rfl
    refine wpAny_holding (wpAny_dictSet_heap (knd := knd) (k := q.1) hu (hst q hq h1 k1) hm1 (fun h2 hm2 hs2 => ?_) (by omega))
    rw [storedH_new (atKey_new nq)] at hm2
    have k2 : Kep S I s.heap h2 := fun c o a d e => hs2.extBut c o a (k1 c o a d e)
    refine wpAny_pure ⟨plainId_quiet ud_plain _, upd_loopH hu (items := items) hh hlI hSI hSl rest (i + 1) (acc ++ [(q.1, q.2.1, q.2.2)]) (ix + 1) 0 _ (show items.size = i + 1 + rest.length by omega) ?_ (fun j q' e => ?_) ?_ ?_ ?_ ?_ hm2 fun h' tk hd' k => ?_⟩
    · rw [List.length_append]
      show acc.length + 1 + rest.length ≤ _
      omega
    · obtain ⟨b', hb', hbS', hbI', htup'⟩ := ht (j + 1) q' (by simpa using e)
      refine ⟨b', ?_, hbS', hbI', (htup'.extBut hs1.extBut hbI').extBut hs2.extBut hbS'⟩
      rw [show i + 1 + j = i + (j + 1) by omega]
      exact hb'
    · intro x hx
      rw [List.append_assoc] at hx
      exact (hst x hx).go k2
    · rw [List.append_assoc]
      exact hnd
    · exact hit1.at fun o' e => hs2.extBut I o' (Ne.symm hSI) e
    · exact hl1.extBut hs2.extBut (Ne.symm hSl)
    · rw [List.append_assoc] at hd'
      exact hR h' tk hd' fun c oc a d e => k c oc a d (k2 c oc a d e)
/-- dict(l) of a list of pairs -/
theorem call_dict_pairsH (hu : knd.room A.in1.in1) {s : Shared} {l : Addr} {ol : Obj} {items : Array Value} {n : Nat} {prs : List (K × Addr × Value)} {Q : Value → Shared → Prop} (hh : A.handled = none) (hl : s.heap.get? l = some ol) (hc : ol.cls = .type "list") (hd : ol.dict = none)
    (hdat : ol.data = .seq items n) (hsz : items.size = prs.length) (hln : prs.length ≤ sizeLine)
    (ht : ∀ (j : Nat) (q : K × Addr × Value), prs[j]? = some q → ∃ (b : Addr), items[j]? = some (.ref b) ∧ IsTup s.heap b #[.ref q.2.1, q.2.2])
    (hst : ∀ q ∈ prs, ∀ h', (∀ b o, s.heap.get? b = some o → h'.get? b = some o) → knd.is h' q.1 q.2.1) (hnd : (prs.map (·.1)).Nodup)
    (h : ∀ h' tk, h'.DictOfH knd s.heap.objs.size prs → (∀ b o, s.heap.get? b = some o → h'.get? b = some o) → Q (.ref s.heap.objs.size) { s with heap := h', toks := tk }) :
    wpAny (model prog w) A (call (.type "dict") [.ref l]) Q E s := by
  refine callType_codes (Q₁ := fun obj s₁ => obj = .ref s.heap.objs.size ∧ s₁ = { s with heap := s.heap.push { cls := .type "dict", data := .dict #[] } }) PySem.F.kt_called_dict (PySem.F.kt_typeCall_dict_1 _) PySem.F.entry_dict_init (kt_code_dict_new _ ⟨rfl, rfl⟩) ?_
  rintro obj s₁ ⟨rfl, rfl⟩
  have hnew : (s.heap.push { cls := .type "dict", data := .dict #[] }).DictOfH knd s.heap.objs.size [] := Heap.DictOfH.new s.heap
  have k0 : ∀ b o, s.heap.get? b = some o → (s.heap.push { cls := .type "dict", data := .dict #[] }).get? b = some o := fun b o e => Heap.get?_push_of_some _ e
  have tyS : ∀ s' : Shared, s'.heap = s.heap.push { cls := .type "dict", data := .dict #[] } → s'.TypeIs (.ref s.heap.objs.size) "dict" := fun s' e => ⟨_, by rw [e]; exact Heap.get?_push_size _ rfl, rfl⟩
  refine ⟨tyS _ rfl, PySem.F.args_dict_init_2 _ _, ?_⟩
  unfold Builtin.«dict.__init__»
  refine wpAny_bind ?_
  unfold Builtin.Dict.selfAndRest
  refine wpAny_bind (wpAny_notOrdered_dict (tyS _ rfl) ?_)
  show wpAny _ _ (pure (s.heap.objs.size, [Value.ref l])) _ _ _
  refine wpAny_pure ?_
  show wpAny _ _ (Builtin.Dict.updateFrom "dict.__init__" s.heap.objs.size (.ref l) [] .none) _ _ _
  unfold Builtin.Dict.updateFrom
  refine wpAny_bind (wpAny_typeOf (T := "list") ⟨ol, k0 _ _ hl, hc⟩ ?_)
  rw [if_pos (by first | decide | rfl | simp)]
  refine wpAny_bind (miss_list (k0 _ _ hl) hc hdat hd hh fun h1 tk1 hk1 => ?_)
  rw [if_pos (show (none : Option Value).isNone = true from rfl)]
  refine wpAny_bind (wpAny_rule ?_)
  have hl1 : h1.IsList l items := ⟨ol, hk1 _ _ (k0 _ _ hl), hc, n, hdat⟩
  have hS1 : s.heap.objs.size < h1.objs.size := by
    have e : (s.heap.push { cls := .type "dict", data := .dict #[] }).get? s.heap.objs.size = some { cls := .type "dict", data := .dict #[] } := Heap.get?_push_size _ rfl
    exact Heap.lt_size (hk1 _ _ e)
  refine wpAny_bind (wpAny_pyIter_list hl1 ?_)
  have k2 : ∀ b o, h1.get? b = some o → (h1.push { cls := .type "list_iterator", data := .fields #[.ref l, .int 0 0] }).get? b = some o := fun b o e => Heap.get?_push_of_some _ e
  have hlt : l < s.heap.objs.size := Heap.lt_size hl
  have nI : ∀ {b o}, s.heap.get? b = some o → b ≠ h1.objs.size := fun e => Nat.ne_of_lt (Nat.lt_trans (Heap.lt_size e) hS1)
  have nS : ∀ {b o}, s.heap.get? b = some o → b ≠ s.heap.objs.size := fun e => Nat.ne_of_lt (Heap.lt_size e)
  have hnew2 : (h1.push { cls := .type "list_iterator", data := .fields #[.ref l, .int 0 0] }).DictOfH knd s.heap.objs.size [] :=
    dictH_keep (S := s.heap.objs.size) (I := h1.objs.size) hnew (fun q hq => nomatch hq) (fun c o _ _ e => k2 _ _ (hk1 _ _ e)) fun o e => k2 _ _ (hk1 _ _ e)
  have key := upd_loopH (prog := prog) (w := w) (A := A.in1) (knd := knd) hu (R := wants (fun r s₂ => r = .none ∧ Q (.ref s.heap.objs.size) s₂) E) (S := s.heap.objs.size) (I := h1.objs.size) (l := l) (items := items) (res := Value.none) hh
    (Nat.ne_of_lt (Nat.lt_trans hlt hS1)) (Nat.ne_of_lt hS1) (Nat.ne_of_gt hlt) prs 0 [] 0 0
    { s with heap := h1.push { cls := .type "list_iterator", data := .fields #[.ref l, .int 0 0] }, toks := tk1 } (by rw [hsz, Nat.zero_add]) (by rw [List.length_nil, Nat.zero_add]; exact hln)
    (fun j q e => by
      obtain ⟨b, e1, e2⟩ := ht j q e
      have hb : b < s.heap.objs.size := e2.lt
      exact ⟨b, by rw [Nat.zero_add]; exact e1, Nat.ne_of_lt hb, Nat.ne_of_lt (Nat.lt_trans hb hS1), e2.keeps fun c o z => k2 _ _ (hk1 _ _ (k0 _ _ z))⟩)
    (fun q hq h' kp => hst q (by simpa using hq) h' fun b o e => kp b o (nS e) (nI e) (k2 _ _ (hk1 _ _ (k0 _ _ e))))
    (by simpa using hnd)
    ⟨_, Heap.get?_push_size _ rfl, rfl, rfl⟩ (hl1.at fun o e => k2 _ _ e) hnew2
    (fun h' tk hd' k => ⟨rfl, h h' tk (by simpa using hd') fun b o e => k b o (nS e) (nI e) (k2 _ _ (hk1 _ _ (k0 _ _ e)))⟩)
  first
    | exact wpAny_pure ⟨plainId_quiet ud_plain _, key⟩
    | exact wpAny_bind (wpAny_pure (wpAny_pure ⟨plainId_quiet ud_plain _, key⟩))
end
end L2
namespace L2
open PySem PySem.Spec PyProof.Rows
section
variable {X : Cx}
/-- dict(xs) of a list of pairs (tuple, value), the tuples all different -/
def rDictPT (K : PySem.W.Frag) : List V → Hp → VK → Prop := fun xs H Q => ∃ (a : Addr) (ps : List Addr) (qs : List (List Key × Addr × V)), xs = [.ref a] ∧ SqL K H a (ps.map V.ref) ∧ Paired (fun p q => SqT K H p [V.ref q.2.1, q.2.2] ∧ H q.2.1 = some (.tup (q.1.map kV))) ps qs ∧ (qs.map (·.1)).Nodup ∧
    ∀ p, H p = none → Q (.ref p) (upd H p (.dT (qs.map fun q => (q.1, q.2.2))))
end
end L2
namespace DL
open PySem PySem.Spec L2 PyProof.Rows
section
variable {K : PySem.W.Frag} {h : Fp} {H : Hp} {ω : Om}
/-- dict(xs) of a list of pairs, keyed by tuples that are all different; owned -/
def dDictP : DOn := fun xs ω Q => ∃ (x : D) (kds : List (List Int × D)), xs = [x] ∧ lstOf ω x = some (kds.map fun q => .tup [.tup (q.1.map D.int), q.2]) ∧ (kds.map (·.1)).Nodup ∧ ∀ p, ω p = none → Q (.raw (.ref p)) (oset ω p (.dT kds))
end
end DL
namespace DL
open PySem PySem.Spec L2 PyProof.Rows
section
variable {K : PySem.W.Frag}
/-- a comprehension with two names, over lists of two -/
theorem gok_twoL [Amb] {i j : Nat} {vs : List Nat} (hi : i ∈ vs) (hj : j ∈ vs) : GOk K (gLst K 2 (gCons (gName i) (gCons (gName j) gNil))) (dgLst 2 (dgCons (dgName i) (dgCons (dgName j) dgNil))) vs := ⟨fun h σ ρ ω d v H R Q sl w r t k => by
  obtain ⟨xs, e, l, x, xs', rfl, y, ys', e2, e3, t⟩ := t
  cases e2
  cases e3
  obtain ⟨a, us, rfl, sx, ra⟩ := lstOf_sq w e r
  obtain ⟨v1, v2, rfl, r1, r2⟩ := ra.two
  refine ⟨_, _, rfl, sx, rfl, _, _, rfl, _, _, rfl, rfl, ?_⟩
  refine k _ _ ?_ t ((sl.set r1 i).set r2 j)
  rw [wipe_set hj, wipe_set hi, wipe_wipe σ vs vs fun _ z => z]⟩
end
end DL

/-! TN: the least number of moves level by level, over groups. -/
namespace DL
open PySem PySem.Spec L2
/-- a move leads from one group to another -/
def Stp (x : Int) (ws o h : List Int) : Prop := 1 ≤ wt ws h - wt ws o ∧ wt ws h - wt ws o ≤ x
theorem fewN_zero {x : Int} {ws g h : List Int} : fewN x ws g h = some 0 ↔ g = h := by
  unfold fewN
  constructor
  · intro e
    split at e
    · assumption
    · split at e
      · cases e
      · unfold fewW at e
        split at e
        · cases e
        · cases e
  · intro e
    rw [if_pos e]
theorem fewN_way {x : Int} {ws g h : List Int} {k : Nat} (x0 : 0 ≤ x) (h1 : ∀ w ∈ ws, 1 ≤ w) (hg : GrpI ws.length g) (hh : GrpI ws.length h) (e : fewN x ws g h = some k) : Way (· ∈ sumsL ws) x k (wt ws g) (wt ws h) := by
  unfold fewN at e
  split at e
  · rename_i c
    cases e
    rw [c]
    rfl
  · split at e
    · cases e
    · rename_i c
      exact (fewW_some ((mem_sumsL h1).mpr ⟨g, hg, rfl⟩) ((mem_sumsL h1).mpr ⟨h, hh, rfl⟩) (by omega) x0 e).1
/-- a way to a heavier group: the least number is there, and at most this -/
theorem fewN_most {x : Int} {ws g h : List Int} {k : Nat} (x0 : 0 ≤ x) (h1 : ∀ w ∈ ws, 1 ≤ w) (hg : GrpI ws.length g) (hh : GrpI ws.length h) (w : Way (· ∈ sumsL ws) x (k + 1) (wt ws g) (wt ws h)) : ∃ j, fewN x ws g h = some j ∧ j ≤ k + 1 := by
  have lt := w.le
  rw [fewN_lt (by omega)]
  have sg := (mem_sumsL h1).mpr ⟨g, hg, rfl⟩
  have sh := (mem_sumsL h1).mpr ⟨h, hh, rfl⟩
  cases z : fewW x ws (wt ws g) (wt ws h) with
  | none => exact (fewW_none z _ w).elim
  | some j => exact ⟨j, rfl, (fewW_some sg sh (by omega) x0 z).2 _ w⟩
theorem few_level {x : Int} {ws g h : List Int} {k : Nat} (x0 : 0 ≤ x) (h1 : ∀ w ∈ ws, 1 ≤ w) (hg : GrpI ws.length g) (hh : GrpI ws.length h) :
    fewN x ws g h = some (k + 1) ↔ (∃ o, GrpI ws.length o ∧ fewN x ws g o = some k ∧ Stp x ws o h) ∧ ∀ j, j ≤ k → fewN x ws g h ≠ some j := by
  constructor
  · intro e
    refine ⟨?_, fun j hj z => by rw [e] at z; cases z; omega⟩
    have w := fewN_way x0 h1 hg hh e
    have least : ∀ j, Way (· ∈ sumsL ws) x (j + 1) (wt ws g) (wt ws h) → k ≤ j := fun j w => by
      obtain ⟨i, ei, hi⟩ := fewN_most x0 h1 hg hh w
      rw [e] at ei
      cases ei
      omega
    obtain ⟨r, hr, w2, a, b, st⟩ := way_last w
    have rle := w2.le
    by_cases c : r = wt ws g
    · subst c
      have k0 : k = 0 := by omega
      subst k0
      exact ⟨g, hg, fewN_zero.mpr rfl, a, b⟩
    · obtain ⟨o, ho, rfl⟩ := (mem_sumsL h1).mp (hr.elim (fun z => absurd z c) id)
      cases k with
      | zero => exact absurd (show wt ws g = wt ws o from w2).symm c
      | succ k =>
        obtain ⟨j, ej, hj⟩ := fewN_most x0 h1 hg ho w2
        have wj := fewN_way x0 h1 hg ho ej
        have := least j (wj.trans (j := 1) ⟨wt ws h, st, a, b, rfl⟩)
        exact ⟨o, ho, by rw [ej, show j = k + 1 by omega], a, b⟩
  · rintro ⟨⟨o, ho, eo, a, b⟩, no⟩
    have w := (fewN_way x0 h1 hg ho eo).trans (j := 1) ⟨wt ws h, (mem_sumsL h1).mpr ⟨h, hh, rfl⟩, a, b, rfl⟩
    obtain ⟨j, ej, hj⟩ := fewN_most x0 h1 hg hh w
    by_cases c : j ≤ k
    · exact absurd ej (no j c)
    · rw [ej, show j = k + 1 by omega]
/-- where a level is empty nothing lies beyond -/
theorem few_none {x : Int} {ws g : List Int} {k : Nat} (x0 : 0 ≤ x) (h1 : ∀ w ∈ ws, 1 ≤ w) (hg : GrpI ws.length g) (e : ∀ o, GrpI ws.length o → fewN x ws g o ≠ some k) : ∀ (d : Nat) (h : List Int), GrpI ws.length h → fewN x ws g h ≠ some (k + d)
  | 0, h, hh => e h hh
  | d + 1, h, hh => fun z => by
    obtain ⟨⟨o, ho, eo, _⟩, _⟩ := (few_level x0 h1 hg hh (k := k + d)).mp z
    exact few_none x0 h1 hg e d o ho eo
/-- what is found after k rounds -/
def fndN (x : Int) (ws g : List Int) (k : Nat) (h : List Int) : Option D := match fewN x ws g h with
  | some j => if j ≤ k then some (.int j) else none
  | none => none
end DL

/-! XO: instances of the program's own classes: made, their fields, properties, methods; as data or owned. -/
namespace DL
open PySem PySem.Spec L2 PyProof.Rows PySem.W
variable [Ers]
/-! ### fields -/
def dput (f : Str) (d : D) : List (Str × D) → List (Str × D)
  | [] => [(f, d)]
  | (g, x) :: r => if g = f then (g, d) :: r else (g, x) :: dput f d r
theorem RpFs.put {K : PySem.W.Frag} {p : Fp} {H : Hp} {f : Str} {d : D} {v : V} (r : Rp K p H d v) : ∀ {ds : List (Str × D)} {vs : List (Str × V)}, RpFs K p H ds vs → RpFs K p H (dput f d ds) (putF f v vs)
  | _, _, .nil => .cons r .nil
  | (g, x) :: ds, (_, y) :: vs, .cons q t => by
    show RpFs K p H (if g = f then (g, d) :: ds else (g, x) :: dput f d ds) (if g = f then (g, v) :: vs else (g, y) :: putF f v vs)
    by_cases c : g = f
    · rw [if_pos c, if_pos c]; exact .cons r t
    · rw [if_neg c, if_neg c]; exact .cons q (RpFs.put r t)
theorem RpFs.len {K : PySem.W.Frag} {p : Fp} {H : Hp} : ∀ {ds : List (Str × D)} {vs : List (Str × V)}, RpFs K p H ds vs → ds.length = vs.length
  | _, _, .nil => rfl
  | _, _, .cons _ t => by rw [List.length_cons, List.length_cons, RpFs.len t]
/-- the fields of an instance, as data or owned -/
def FsOf (c : Str) (x : D) (ω : Om) (fds : List (Str × D)) : Prop := x = .obj (Ers.ad c) fds ∨ ∃ a dx, x = .raw (.ref a) ∧ ω a = some (.ins (Ers.ad c) dx fds)
theorem FsOf.at_ [Amb] {K : PySem.W.Frag} {h : Fp} {H : Hp} {ω : Om} {c : Str} {x : D} {v : V} {fds : List (Str × D)} (F : FsOf c x ω fds) (w : Wd K h H ω) (r : Rp K (fre ω h) H x v) : ∃ a dx fvs, v = .ref a ∧ H a = some (.ins (Ers.ad c) dx fvs) ∧ RpFs K (fre ω h) H fds fvs := by
  rcases F with rfl | ⟨a, dx, rfl, e⟩
  · cases r with
    | obj fa ha rf => exact ⟨_, _, _, rfl, ha, rf⟩
  · cases r
    obtain ⟨fvs, z1, z2⟩ := w.cell a _ e
    exact ⟨a, dx, fvs, rfl, z1, z2⟩
section
variable {X : Cx} {c f m : Str} {e o value a b : Expr} {pos pos' apos p : Pos} {Te To Tv Ta Tb : TD}
/-- o.f = e, o owned -/
def dFldS (c f : Str) (To Tv : TD) : TSD := fun E ρ ω => Tv ρ ω fun d ω1 => To ρ ω1 fun o ω2 => ∃ x dx fds, o = .raw (.ref x) ∧ ω2 x = some (.ins (Ers.ad c) dx fds) ∧ fds.length < 1000 ∧ E.nx ρ (oset ω2 x (.ins (Ers.ad c) dx (dput f d fds)))
theorem ds_fldS [Amb] (hC : Cls X.K (Ers.ad c)) (n : NoAttr X.K (Ers.ad c) f) (ho : DE X o To) (hv : DE X value Tv) (hs : swapsWith value (some (.Attribute o f pos')) pos.line X.env = pure false := by rfl) : DS X (.Assign [.Attribute o f pos'] value pos) (dFldS c f To Tv) := by
  refine PS.weak (ps_fld ho hv hs) fun E σ H ⟨h, ρ, ω, e, sl, w, t, k1, k2, k3, k4⟩ => ?_
  refine ⟨h, ρ, ω, _, sl, w, t, fun d ω1 v H1 t1 f1 w1 r1 => ?_⟩
  refine ⟨h, ρ, ω1, _, sl.keep f1.kp, w1, t1, fun o ω2 ov H2 t2 f2 w2 r2 => ?_⟩
  obtain ⟨x, dx, fds, e1, e2, e3, q⟩ := t2
  subst e1
  cases r2
  obtain ⟨fvs, z1, z2⟩ := w2.cell x _ e2
  exact ⟨x, _, dx, fvs, rfl, z1, hC, n, by rw [← z2.len]; exact e3, k1 _ _ _ _ q (f1.trans (f2.trans (Fr.put e2))) (w2.put e2 fun H' f' kp hp => ⟨_, hp, (z2.put (r1.keep f2.kp)).keep kp⟩) (sl.keep (f1.trans (f2.trans (Fr.put e2))).kp)⟩
/-- e.f -/
def dFld (c f : Str) (Te : TD) : TD := fun ρ ω Q => Te ρ ω fun x ω1 => ∃ fds v, FsOf c x ω1 fds ∧ fds.lookup f = some v ∧ Q v ω1
theorem de_fld [Amb] (hC : Cls X.K (Ers.ad c)) (n : NoAttr X.K (Ers.ad c) f) (he : DE X e Te) (hb : attributeBase e f X.env (eval e X.env) = eval e X.env := by rfl) : DE X (.Attribute e f pos) (dFld c f Te) := by
  refine PE.weak (pe_fld he hb) fun σ H Q ⟨h, ρ, ω, R, sl, w, t, k⟩ => ?_
  refine ⟨h, ρ, ω, _, sl, w, t, fun x ω1 v1 H1 ⟨fds, v, e1, e2, q⟩ f1 w1 r1 => ?_⟩
  obtain ⟨a, dx, fvs, rfl, ha, rf⟩ := e1.at_ w1 r1
  obtain ⟨u, l, ru⟩ := rf.look e2
  exact ⟨_, _, _, _, u, rfl, ha, hC, n, l, k _ _ _ _ q f1 w1 ru⟩
/-- a property whose getter hands a field back -/
def GetP (P : Program) (w : World) (K : PySem.W.Frag) (mg : Str → Option Value) (base : Heap) (c p f : Str) : Prop := ∃ pa g fd, PropOf K (Ers.ad c) p pa g ∧ FnOk P w K mg base CX0 1 g fd ["self"] (getSp (Ers.ad c) f) ∧ Binds K fd ["self"] []
theorem de_propF [Amb] {pn : Str} (hC : Cls X.K (Ers.ad c)) (G : GetP X.prog X.w X.K X.mg X.base c pn f) (hr : Room 2 X.A) (he : DE X e Te) (hb : attributeBase e pn X.env (eval e X.env) = eval e X.env := by rfl) : DE X (.Attribute e pn pos) (dFld c f Te) := by
  obtain ⟨pa, g, fd, hp, F, bi⟩ := G
  refine PE.weak (pe_prop (E := fun _ _ _ => True) he hC hp F hr bi .nil (fun _ _ _ _ _ _ _ z => z.elim) hb) fun σ H Q ⟨h, ρ, ω, R, sl, w, t, k⟩ => ?_
  refine ⟨h, ρ, ω, _, sl, w, t, fun x ω1 v1 H1 ⟨fds, v, e1, e2, q⟩ f1 w1 r1 => ?_⟩
  obtain ⟨a, dx, fvs, rfl, ha, rf⟩ := e1.at_ w1 r1
  obtain ⟨u, l, ru⟩ := rf.look e2
  exact ⟨_, _, _, rfl, ha, _, _, _, u, rfl, ha, l, k _ _ _ _ q f1 w1 ru⟩
end
/-! ### methods -/
/-- a method, as the text has it -/
def MethAt (K : PySem.W.Frag) (c m q : Str) (st : Stmt) : Prop := ∃ f fd, findIn K (.ref (Ers.ad c)) m = some (some (.ref f)) ∧ isFn K (.ref f) = true ∧ fnIn K f = true ∧ Fun K m q st f fd
/-- a method's promise -/
def CalM (P : Program) (w : World) (K : PySem.W.Frag) (mg : Str → Option Value) (base : Heap) (k : Nat) (c m : Str) (ps : List Str) (S : SpDX) : Prop :=
  ∃ f fd, FnG P w K mg base (L2.CX P w) k f fd ps (spUX K S) ∧ findIn K (.ref (Ers.ad c)) m = some (some (.ref f)) ∧ isFn K (.ref f) = true ∧ fnIn K f = true ∧ keepIn K (.ref f) = true ∧ Binds K fd ps []
theorem CalM.mk {P : Program} {w : World} {K : PySem.W.Frag} {mg : Str → Option Value} {base : Heap} {k : Nat} {c m q : Str} {st : Stmt} {N ps : List Str} {S : SpDX} {T : DXS → TSD} (D : MethAt K c m q st) (sc : FnScope N ps (defScope st))
    (bi : ∀ (kV doc pm : Value) (an : Option Addr) (cdv ct : Value) (us : List Value), us.length = ps.length → bindArgs (PySem.W.fnOf m q (defArgs st) (defBody st) (defScope st) .none kV doc pm an cdv ct) ⟨us, []⟩ = pure (ps.zip us))
    (ar : ∀ ds ω R RX, S ds ω R RX → ds.length = ps.length)
    (b : ∀ (f : Addr) (cdv : Value) (A : Around) (fs : List Env) (s : Shared) (hp : Hp) (e : XK) (RX : DXS) [AmbX K (noW e) RX], Room k (A.deeper (PyProof.Rows.envOfC q (defScope st) s.heap.objs.size f cdv)) → A.guards = some [] →
      DSs (cxOf (L2.CX P w) P w K mg base N q (defScope st) f cdv A fs s hp e) (defBody st) (T RX))
    (rd : ∀ ds ω R RX, S ds ω R RX → T (noS RX) { nx := fun _ ω' => R .non ω', rt := R } (startD N ds) ω) : CalM P w K mg base (k + 1) c m ps S := by
  obtain ⟨f, fd, hf, hi, hn, F⟩ := D
  exact ⟨f, fd, FnG.ofX F sc ar (fun cdv A fs s hp e RX I => @b f cdv A fs s hp e RX I) rd, hf, hi, hn, F.kp, F.binds bi⟩
section
variable {X : Cx} {W : WX} {RX : DXS} {k : Nat} {f : Addr} {fd : FuncData} {ps : List Str} {sp : Sp} {S : SpDX}
/-- a function of the text runs, somewhere below the body -/
theorem runM {A' : Around} {pins σ H s} {Q : VK} {us : List Value} {vs : List V} (F : FnG X.prog X.w X.K X.mg X.base (L2.CX X.prog X.w) k f fd ps sp) (hr : Room k A') (gd : A'.guards = some []) (en : Env0 X.prog X.w X.K X.mg X.base A' X.stack s H)
    (hb : Binds X.K fd ps []) (tk : Takes X W) (I : Inv X pins σ H s) (r : Vals vs us) (h : sp vs H Q fun c d H2 => W c d σ H2) : wpAny (model X.prog X.w) A' (PySem.call (.ref f) us) (EP X pins σ Q) X.xe s := by
  have ll : (us ++ []).length = ps.length := by rw [List.append_nil, ← r.length]; exact F.arity _ _ _ _ h
  have bb := hb s us I.kIn ll
  rw [List.append_nil] at bb
  refine wpAny_call (codeAny_mono (F.goes A' X.stack s H ⟨us, []⟩ us vs Q _ hr gd en bb r h) fun res s' y => ?_)
  match res, y with
  | .error er, y => exact tk er s' (XE.of_call I (fun _ _ _ y => y) y)
  | .ok (.ret u), y => exact I.after y
/-- a method's promise at data, as what is asked at the heap -/
theorem spM [I0 : AmbX X.K W RX] {h : Fp} {ρ : Rho} {ω ω1 : Om} {σ : L2.St} {H H1 : Hp} {Q : VK} {R : DQ} {xs : List D} {vs : List V} (sl : Sl X.K (fre ω h) H σ ρ) (w : Wd X.K h H ω) (f1 : Fr H ω H1 ω1) (w1 : Wd X.K h H1 ω1) (t1 : RpAll X.K (fre ω1 h) H1 xs vs)
    (rs : S xs ω1 R fun y fs ω2 => RX y fs ρ ω2) (k : Cnt X.K h H1 ω1 R Q) : spUX X.K S vs H1 Q fun c d H2 => W c d σ H2 :=
  ⟨h, xs, ω1, R, _, t1, w1.drop, rs, k.drop w1, fun y fs ω' H' d H2 r fr w' z => AmbX.out (Amb.mono w1.amb fr) r w' (sl.keep (f1.trans fr).kp) z⟩
end
/-! ### an instance is made -/
theorem oset2 {ω : Om} {a : Addr} {c d : Cell} : oset (oset ω a c) a d = oset ω a d := by
  funext b
  unfold oset
  by_cases e : b = a
  · rw [if_pos e, if_pos e]
  · rw [if_neg e, if_neg e, if_neg e]
/-- what is owned becomes data -/
theorem Wd.give {K : PySem.W.Frag} {h : Fp} {H : Hp} {ω : Om} (w : @Wd amb0 K h H ω) {x C dx : Addr} {fds : List (Str × D)} (e : ω x = some (.ins C dx fds)) (hx : h x) : @Wd amb0 K h H (oera ω x) ∧ Rp K (fre (oera ω x) h) H (.obj C fds) (.ref x) := by
  have kp : Kp H (fre ω h) H (fre (oera ω x) h) := fun b o y z => ⟨z, by
    by_cases c : b = x
    · rw [c]; exact oera_same
    · rw [oera_ne c]; exact y.1, y.2⟩
  obtain ⟨fvs, z1, z2⟩ := @Wd.cell amb0 _ _ _ _ w x _ e
  refine ⟨@Wd.mk amb0 _ _ _ _ (fun a c y => ?_) (fun b y => @Wd.open_ amb0 _ _ _ _ w b y) (fun b vs n y => ?_) trivial, .obj ⟨oera_same, hx⟩ z1 (z2.keep kp)⟩
  · by_cases q : a = x
    · rw [q, oera_same] at y; cases y
    · rw [oera_ne q] at y
      exact (@Wd.cell amb0 _ _ _ _ w a c y).keep rfl kp
  · by_cases q : b = x
    · rw [q, z1] at y; cases y
    · rw [oera_ne q] at n
      exact @Wd.tup_ amb0 _ _ _ _ w b vs n y
section
variable {X : Cx} {W : WX} {RX : DXS} {c x : Str} {p pos : Pos} {e : Expr} {es : List Expr} {T : TAD} {S : SpDX} {ps : List Str} {k : Nat}
/-- what the text's class has that is made -/
structure ClsM (K : PySem.W.Frag) (mg : Str → Option Value) (c : Str) : Prop where
  gm : mg c = some (.ref (Ers.ad c))
  makes : makesIn K (Ers.ad c) = true
  kp : keepIn K (.ref (Ers.ad c)) = true
/-- C(..), the instance stays owned -/
def dMakeO (c : Str) (S : SpDX) (RX : DXS) (T : TAD) : TD := fun ρ ω Q => T ρ ω fun xs ω1 => ∀ x dx, ω1 x = none → ω1 dx = none → dx ≠ x →
  S (.raw (.ref x) :: xs) (oset ω1 x (.ins (Ers.ad c) dx [])) (fun v ω2 => v = .non ∧ Q (.raw (.ref x)) ω2) fun y fs ω2 => RX y fs ρ ω2
/-- C(..), the instance becomes data -/
def dMake (c : Str) (S : SpDX) (RX : DXS) (T : TAD) : TD := fun ρ ω Q => T ρ ω fun xs ω1 => ∀ x dx, ω1 x = none → ω1 dx = none → dx ≠ x →
  S (.raw (.ref x) :: xs) (oset ω1 x (.ins (Ers.ad c) dx [])) (fun v ω2 => v = .non ∧ ∃ dx' fds, ω2 x = some (.ins (Ers.ad c) dx' fds) ∧ Q (.obj (Ers.ad c) fds) (oera ω2 x)) fun y fs ω2 => RX y fs ρ ω2
/-- C(e, ..), the errors taken with the very slots -/
theorem pe_makeGS {C f : Addr} {fd : FuncData} {sp : Sp} {t : TA} (M : Mk X.K C f) (F : FnG X.prog X.w X.K X.mg X.base (L2.CX X.prog X.w) k f fd ps sp) (hr : Room (k + 1) X.A) (gd : X.A.guards = some []) (hg : Gl X x) (hm : X.mg x = some (.ref C)) (hb : Binds X.K fd ps []) (tk : Takes X W)
    (ha : PA X (e :: es) t) (hdb : (x == ("__debug__" : Str)) = false := by decide) (he : starEach (e :: es) X.env = (false, eval e X.env) :: starEach es X.env := by rfl) (hpl : (backTo pos (starEach es X.env)).any (·.1) = false := by rfl) :
    PE X (.Call (.Name x p) (e :: es) [] pos) (fun σ H Q => t σ H fun vs H1 => ∀ x dx, H1 x = none → H1 dx = none → dx ≠ x → sp (.ref x :: vs) (upd (upd H1 dx (.own x)) x (.ins C dx [])) (fun v H2 => v = .non ∧ Q (.ref x) H2) fun c d H2 => W c d σ H2) := by
  refine ⟨fun pins s σ H Q I h => ?_⟩
  refine wpAny_Call_Name_kw (ld_glob I hg hm ?_ hdb)
  refine PySem.W.callWith_K (h₀ := X.base) I.ok.mod.kin M.kp (thn (ha.run pos pins s σ H _ I h) fun us s1 ⟨vs, H1, I1, r, q⟩ => ⟨I1.kIn, ?_⟩) he hpl
  have hq := q (s1.heap.objs.size + 1) s1.heap.objs.size (I1.hok.fresh (Nat.le_succ _)) (I1.hok.fresh (Nat.le_refl _)) (Nat.ne_of_lt (Nat.lt_succ_self _))
  have I2 := Inv.made (C := C) I1
  have r2 : Vals (V.ref (s1.heap.objs.size + 1) :: vs) (Value.ref (s1.heap.objs.size + 1) :: us) := .cons rfl r
  have hl : ((Value.ref (s1.heap.objs.size + 1) :: us) ++ []).length = ps.length := by
    rw [List.append_nil, ← r2.length]; exact F.arity _ _ _ _ hq
  have bb := hb { s1 with heap := (s1.heap.push PySem.W.emptyDict).push (PySem.W.instObj C s1.heap.objs.size) } _ I2.kIn hl
  rw [List.append_nil] at bb
  refine wpAny_call (make_map (f := f) I1.kIn M.makes M.init (beq_iff_eq.mp M.fn) (codeAny_mono (F.goes _ X.stack _ _ ⟨Value.ref (s1.heap.objs.size + 1) :: us, []⟩ _ _ _ _ (hr.make C us [])
    gd (I2.env0.make C us []) bb r2 hq) fun r s' hq' => ?_))
  match r, hq' with
  | .error er, y => exact tk er s' (XE.of_call I2 (fun _ _ _ y => y) y)
  | .ok (.ret u), y =>
    obtain ⟨v, H', I3, rv, ev, q3⟩ := I2.after y
    subst ev
    exact ⟨rv, ⟨V.ref (s1.heap.objs.size + 1), H', I3, rfl, q3⟩⟩
theorem make_wd [Amb] {K : PySem.W.Frag} {h : Fp} {H : Hp} {ω : Om} (w : Wd K h H ω) {x dx C : Addr} (hx : H x = none) (hd : H dx = none) (ne : dx ≠ x) :
    Fr H ω (upd (upd H dx (.own x)) x (.ins C dx [])) (oset ω x (.ins C dx [])) ∧ Wd K h (upd (upd H dx (.own x)) x (.ins C dx [])) (oset ω x (.ins C dx [])) := by
  have w1 := w.new (o := .own x) hd
  have e : upd H dx (.own x) x = none := by rw [upd_ne (Ne.symm ne)]; exact hx
  exact ⟨(Fr.new hd).trans (Fr.own e), w1.own e fun H' f' _ hp => ⟨[], hp, .nil⟩⟩
theorem de_makeO [I0 : AmbX X.K W RX] (M : ClsM X.K X.mg c) (C : CalM X.prog X.w X.K X.mg X.base k c "__init__" ps S) (hr : Room (k + 1) X.A) (gd : X.A.guards = some []) (tk : Takes X W) (hg : Gl X c) (ha : DA X (e :: es) T) (hdb : (c == ("__debug__" : Str)) = false := by decide)
    (e1 : starEach (e :: es) X.env = (false, eval e X.env) :: starEach es X.env := by rfl) (e2 : (backTo pos (starEach es X.env)).any (·.1) = false := by rfl) : DE X (.Call (.Name c p) (e :: es) [] pos) (dMakeO c S RX T) := by
  obtain ⟨f, fd, F, hi, hf, _, _, hb⟩ := C
  refine PE.weak (pe_makeGS ⟨M.makes, hi, hf, M.kp⟩ F hr gd hg M.gm hb tk ha hdb e1 e2) fun σ H Q ⟨h, ρ, ω, R, sl, w, t, k⟩ => ?_
  refine ⟨h, ρ, ω, _, sl, w, t, fun xs ω1 vs H1 t1 f1 w1 rs x dx hx hd ne => ?_⟩
  obtain ⟨f2, w2⟩ := make_wd (C := Ers.ad c) w1 hx hd ne
  refine spM sl w (f1.trans f2) w2 (.cons (.raw _) (rs.keep f2.kp)) (t1 x dx (w1.fresh hx) (w1.fresh hd) ne) fun d ω' v H' ⟨e, r⟩ f' w' rp => ?_
  subst e
  cases rp
  exact ⟨rfl, k _ _ _ _ r (f1.trans (f2.trans f')) w' (.raw _)⟩
end
end DL

/-! XP: own instances under len, [..], + and -, as callables, asked by isinstance. -/
namespace DL
open PySem PySem.Spec L2 PyProof.Rows PySem.W
variable [Ers]
/-- nothing is let out, over whatever is asked of the state -/
@[reducible] def ambC [i : Amb] {K : PySem.W.Frag} : AmbX K (fun _ _ _ _ => False) noX := { i with out := fun _ z => z.elim }
section
variable {X : Cx} {W : WX} {RX : DXS} {c m : Str} {p pos : Pos} {a b e fe : Expr} {es : List Expr} {Ta Tb Te : TD} {T : TAD} {S : SpDX} {ps : List Str} {k : Nat}
/-! ### a[b] -/
def dSubM (c : Str) (S : SpDX) (RX : DXS) (Ta Tb : TD) : TD := fun ρ ω Q => Ta ρ ω fun x ω1 => Tb ρ ω1 fun y ω2 => ∃ fds, FsOf c x ω2 fds ∧ S [x, y] ω2 Q fun y fs ω3 => RX y fs ρ ω3
/-! ### a + b, a - b of two instances of one class -/
def dBinM (c : Str) (S : SpDX) (RX : DXS) (Ta Tb : TD) : TD := fun ρ ω Q => Ta ρ ω fun x ω1 => Tb ρ ω1 fun y ω2 => ∃ fds gds, FsOf c x ω2 fds ∧ FsOf c y ω2 gds ∧ S [x, y] ω2 Q fun y fs ω3 => RX y fs ρ ω3
/-! ### len(a) -/
def rLenM (sp : Sp) (C : Addr) : List V → Hp → VK → Prop := fun xs H Q => ∃ q dx fs, xs = [.ref q] ∧ H q = some (.ins C dx fs) ∧ sp [.ref q] H (fun v H' => ∃ n : Int, v = .int n ∧ 0 ≤ n ∧ n < 2 ^ 63 ∧ Q (.int n) H') fun _ _ _ => False
theorem call_lenM {C f : Addr} {fd : FuncData} {sp : Sp} (hs : findIn X.K (.ref C) "__len__" = some (some (.ref f))) (hfn : isFn X.K (.ref f) = true) (F : FnG X.prog X.w X.K X.mg X.base (L2.CX X.prog X.w) k f fd ps sp) (hr : Room (k + 1) X.A) (gd : X.A.guards = some []) (hb : Binds X.K fd ps []) : CallR X (.builtin "len") (rLenM sp C) := by
  rintro pins s σ H xs us Q I r ⟨q, dx, fs, rfl, e2, z⟩
  match us, r with
  | [_], .cons ru .nil =>
    cases ru
    obtain ⟨mA, O, _⟩ := ins_get I.hok e2
    obtain ⟨od, J, _⟩ := O.look
    obtain ⟨m, hF⟩ := I.fr
    refine PySem.W.len_K hF I.ok.mod.kin J hs hfn (wpAny_mono (runM (W := fun _ _ _ _ => False) (vs := [.ref q]) F hr.in1 gd I.env0.in1 hb L2.takes0 I (.cons rfl .nil) z) (fun u' s' q => ?_) fun _ _ y => y)
    obtain ⟨v', H', I', r', n, e, h0, h1, q'⟩ := q
    subst e
    obtain ⟨t, rfl⟩ := r'
    exact ⟨⟨h0, h1⟩, .int n, H', I'.tok _, ⟨_, rfl⟩, q'⟩
def dLenM (c : Str) (S : SpDX) : DOn := fun xs ω R => ∃ x fds, xs = [x] ∧ FsOf c x ω fds ∧ S [x] ω (fun d ω' => ∃ n : Int, d = .int n ∧ 0 ≤ n ∧ n < 2 ^ 63 ∧ R (.int n) ω') fun _ _ _ => False
theorem spM0 [Amb] {h : Fp} {ω1 : Om} {H1 : Hp} {Q : VK} {R : DQ} {xs : List D} {vs : List V} {K : PySem.W.Frag} (w1 : Wd K h H1 ω1) (t1 : RpAll K (fre ω1 h) H1 xs vs) (rs : S xs ω1 R fun _ _ _ => False) (k : Cnt K h H1 ω1 R Q) : spUX K S vs H1 Q fun _ _ _ => False :=
  ⟨h, xs, ω1, R, _, t1, w1.drop, rs, k.drop w1, fun _ _ _ _ _ _ r => r.elim⟩
theorem ok_lenM [Amb] {K : PySem.W.Frag} : CallD K (dLenM c S) (rLenM (spUX K S) (Ers.ad c)) := by
  rintro h xs ω R vs H Q ⟨x, fds, rfl, e1, rs⟩ w rp k
  cases rp with
  | cons rx rp =>
    cases rp
    obtain ⟨q, dx, fvs, rfl, hq, _⟩ := e1.at_ w rx
    refine ⟨q, dx, fvs, rfl, hq, spM0 w (.cons rx .nil) rs fun d ω' v H' ⟨n, e, h0, h1, r⟩ f' w' rp => ?_⟩
    subst e
    cases rp
    exact ⟨n, rfl, h0, h1, k _ _ _ _ r f' w' (.int n)⟩
theorem call_lenMC [Amb] (C : CalM X.prog X.w X.K X.mg X.base k c "__len__" ps S) (hr : Room (k + 1) X.A) (gd : X.A.guards = some []) : CallR X (.builtin "len") (rLenM (spUX X.K S) (Ers.ad c)) := by
  obtain ⟨f, fd, F, hi, hf, _, _, hb⟩ := C
  exact call_lenM hi hf F hr gd hb
/-! ### an instance called: a(b, ..) -/
def dCallM (c : Str) (S : SpDX) (RX : DXS) (Tf : TD) (T : TAD) : TD := fun ρ ω Q => Tf ρ ω fun x ω1 => (∃ fds, FsOf c x ω1 fds) ∧ T ρ ω1 fun xs ω2 => ∃ fds, FsOf c x ω2 fds ∧ S (x :: xs) ω2 Q fun y fs ω3 => RX y fs ρ ω3
/-! ### o.f += e, numbers -/
def dFldAug (c f : Str) (To Tv : TD) : TSD := fun E ρ ω => To ρ ω fun o ω1 => ∃ x dx fds i, o = .raw (.ref x) ∧ ω1 x = some (.ins (Ers.ad c) dx fds) ∧ fds.lookup f = some (.int i) ∧ Tv ρ ω1 fun y ω2 => ∃ j dx' fds', y = .int j ∧ ω2 x = some (.ins (Ers.ad c) dx' fds') ∧ fds'.length < 1000 ∧
  E.nx ρ (oset ω2 x (.ins (Ers.ad c) dx' (dput f (.int (i + j)) fds')))
/-! ### isinstance(x, C) -/
structure ClsI (K : PySem.W.Frag) (C : Addr) : Prop where
  cl : Cls K C
  ha : findIn K (.ref C) "__class__" = some (some (.builtin "object.__class__"))
  hn : specialIn K (.builtin "object.__class__") "__get__" = some (some (.builtin "getset_descriptor.__get__"))
  htk : takesIn K (.builtin "object.__class__") = some true
  hm : mroIn K C (.type "object") = some true
  ic : isClsIn K C = true
  ty : typeIn K (.ref C) = some (.type "type")
def IsOv (c : Str) (x : D) (ω : Om) (b : Bool) : Prop := (b = true ∧ ∃ fds, FsOf c x ω fds) ∨ (b = false ∧ ∃ t, tyN x = some t)
def dIsO (c : Str) : DOn := fun xs ω R => ∃ x b, xs = [x, clsD c] ∧ IsOv c x ω b ∧ R (.bl b) ω
end
/-! ### with the ambient named -/
section
variable {X : Cx} {K : PySem.W.Frag} {W : WX} {RX : DXS} (I0 : AmbX K W RX) {c : Str} {p pos : Pos} {a b e fe : Expr} {es : List Expr} {Ta Tb Te Tf : TD} {T : TAD} {S : SpDX} {ps : List Str} {k : Nat}
theorem de_makeOK (M : ClsM X.K X.mg c) (C : CalM X.prog X.w X.K X.mg X.base k c "__init__" ps S) (hr : Room (k + 1) X.A) (gd : X.A.guards = some []) (tk : Takes X W) (hg : Gl X c) (ha : @DA I0.toAmb X (e :: es) T) (hdb : (c == ("__debug__" : Str)) = false := by decide)
    (e1 : starEach (e :: es) X.env = (false, eval e X.env) :: starEach es X.env := by rfl) (e2 : (backTo pos (starEach es X.env)).any (·.1) = false := by rfl) (hK : X.K = K := by rfl) : @DE I0.toAmb X (.Call (.Name c p) (e :: es) [] pos) (dMakeO c S RX T) := by
  subst hK
  exact de_makeO (I0 := I0) M C hr gd tk hg ha hdb e1 e2
end
/-! ### the steps of a reading -/
section
variable {ρ : Rho} {ω : Om} {Q : DQ} {E : DEnds} {c f : Str} {Te To Tv Ta Tb Tf : TD} {T : TAD} {S : SpDX} {RX : DXS} {x y : D}
theorem st_fldS (h : Tv ρ ω fun d ω1 => To ρ ω1 fun o ω2 => ∃ x dx fds, o = .raw (.ref x) ∧ ω2 x = some (.ins (Ers.ad c) dx fds) ∧ fds.length < 1000 ∧ E.nx ρ (oset ω2 x (.ins (Ers.ad c) dx (dput f d fds)))) : dFldS c f To Tv E ρ ω := h
theorem st_fld (h : Te ρ ω fun x ω1 => ∃ fds v, FsOf c x ω1 fds ∧ fds.lookup f = some v ∧ Q v ω1) : dFld c f Te ρ ω Q := h
theorem st_make (h : T ρ ω fun xs ω1 => ∀ x dx, ω1 x = none → ω1 dx = none → dx ≠ x →
  S (.raw (.ref x) :: xs) (oset ω1 x (.ins (Ers.ad c) dx [])) (fun v ω2 => v = .non ∧ ∃ dx' fds, ω2 x = some (.ins (Ers.ad c) dx' fds) ∧ Q (.obj (Ers.ad c) fds) (oera ω2 x)) fun y fs ω2 => RX y fs ρ ω2) : dMake c S RX T ρ ω Q := h
theorem st_makeO (h : T ρ ω fun xs ω1 => ∀ x dx, ω1 x = none → ω1 dx = none → dx ≠ x →
  S (.raw (.ref x) :: xs) (oset ω1 x (.ins (Ers.ad c) dx [])) (fun v ω2 => v = .non ∧ Q (.raw (.ref x)) ω2) fun y fs ω2 => RX y fs ρ ω2) : dMakeO c S RX T ρ ω Q := h
theorem st_subM (h : Ta ρ ω fun x ω1 => Tb ρ ω1 fun y ω2 => ∃ fds, FsOf c x ω2 fds ∧ S [x, y] ω2 Q fun y fs ω3 => RX y fs ρ ω3) : dSubM c S RX Ta Tb ρ ω Q := h
theorem st_binM (h : Ta ρ ω fun x ω1 => Tb ρ ω1 fun y ω2 => ∃ fds gds, FsOf c x ω2 fds ∧ FsOf c y ω2 gds ∧ S [x, y] ω2 Q fun y fs ω3 => RX y fs ρ ω3) : dBinM c S RX Ta Tb ρ ω Q := h
theorem st_callM (h : Tf ρ ω fun x ω1 => (∃ fds, FsOf c x ω1 fds) ∧ T ρ ω1 fun xs ω2 => ∃ fds, FsOf c x ω2 fds ∧ S (x :: xs) ω2 Q fun y fs ω3 => RX y fs ρ ω3) : dCallM c S RX Tf T ρ ω Q := h
theorem st_fldAug (h : To ρ ω fun o ω1 => ∃ x dx fds i, o = .raw (.ref x) ∧ ω1 x = some (.ins (Ers.ad c) dx fds) ∧ fds.lookup f = some (.int i) ∧ Tv ρ ω1 fun y ω2 => ∃ j dx' fds', y = .int j ∧ ω2 x = some (.ins (Ers.ad c) dx' fds') ∧ fds'.length < 1000 ∧
  E.nx ρ (oset ω2 x (.ins (Ers.ad c) dx' (dput f (.int (i + j)) fds')))) : dFldAug c f To Tv E ρ ω := h
theorem st_lenM {fds : List (Str × D)} (F : FsOf c x ω fds) (h : S [x] ω (fun d ω' => ∃ n : Int, d = .int n ∧ 0 ≤ n ∧ n < 2 ^ 63 ∧ Q (.int n) ω') fun _ _ _ => False) : dLenM c S [x] ω Q := ⟨x, fds, rfl, F, h⟩
end
end DL

/-! XQ: xs.count(e), xs.index(e) of lists and tuples of numbers or truth values. -/
namespace DL
open PySem PySem.Spec L2 PyProof.Rows
section
variable {X : Cx} {a e : Expr} {pos : Pos} {Ta Te : TD}
def rCntF (K : PySem.W.Frag) : V → List V → Hp → VK → Prop := fun x xs H Q => ∃ (p : Addr) (ys : List V) (y : V), x = .ref p ∧ xs = [y] ∧ SqL K H p ys ∧ flatV y = true ∧ ys.all flatV = true ∧ Q (.int (ys.countP (fun z => eqV z y) : Nat)) H
def rCntT (K : PySem.W.Frag) : V → List V → Hp → VK → Prop := fun x xs H Q => ∃ (p : Addr) (ys : List V) (y : V), x = .ref p ∧ xs = [y] ∧ SqT K H p ys ∧ flatV y = true ∧ ys.all flatV = true ∧ Q (.int (ys.countP (fun z => eqV z y) : Nat)) H
/-- xs.count(e), xs a list of truth values -/
def dCntB (Ta Te : TD) : TD := fun ρ ω Q => Ta ρ ω fun x ω1 => ∃ bs : List Bool, x = .lst (bs.map D.bl) ∧ Te ρ ω1 fun y ω2 => ∃ b, y = .bl b ∧ Q (.int (bs.count b : Nat)) ω2
/-- xs.index(e), xs a list of truth values -/
def dIdxB (Ta Te : TD) : TD := fun ρ ω Q => Ta ρ ω fun x ω1 => ∃ bs : List Bool, x = .lst (bs.map D.bl) ∧ Te ρ ω1 fun y ω2 => ∃ b, y = .bl b ∧ b ∈ bs ∧ Q (.int (bs.idxOf b : Nat)) ω2
variable {ρ : Rho} {ω : Om} {Q : DQ}
theorem st_cntB (h : Ta ρ ω fun x ω1 => ∃ bs : List Bool, x = .lst (bs.map D.bl) ∧ Te ρ ω1 fun y ω2 => ∃ b, y = .bl b ∧ Q (.int (bs.count b : Nat)) ω2) : dCntB Ta Te ρ ω Q := h
theorem st_idxB (h : Ta ρ ω fun x ω1 => ∃ bs : List Bool, x = .lst (bs.map D.bl) ∧ Te ρ ω1 fun y ω2 => ∃ b, y = .bl b ∧ b ∈ bs ∧ Q (.int (bs.idxOf b : Nat)) ω2) : dIdxB Ta Te ρ ω Q := h
end
/-! ### o.m(e, ..) -/
section
variable [Ers] {X : Cx} {W : WX} {RX : DXS} {c m : Str} {o e : Expr} {es : List Expr} {To : TD} {T : TAD} {S : SpDX} {ps : List Str} {k : Nat} {apos pos : Pos}
theorem pe_methGS {C f : Addr} {fd : FuncData} {sp : Sp} {ta : TE} {t : TA} {pl : Sem Bool} (he : PE X o ta) (cl : Cls X.K C) (hm : Meth X.K C m f) (F : FnG X.prog X.w X.K X.mg X.base (L2.CX X.prog X.w) k f fd ps sp) (hr : Room k X.A) (gd : X.A.guards = some []) (hb : Binds X.K fd ps []) (tk : Takes X W) (ha : PA X (e :: es) t)
    (hst : starEach (e :: es) X.env = (false, eval e X.env) :: starEach es X.env := by rfl) (hpl : (backTo pos (starEach es X.env)).any (·.1) = false := by rfl)
    (ht : eval (.Call (.Attribute o m apos) (e :: es) [] pos) X.env = (do
      let ov ← eval o X.env
      standAt apos.atName
      let (f, first) ← holding [ov] (getMethod ov m pl)
      callWith pos f first (backTo pos (starEach (e :: es) X.env)) (backToKw pos (keywordEach [] X.env))) := by rfl) :
    PE X (.Call (.Attribute o m apos) (e :: es) [] pos) (fun σ H Q => ta σ H fun x H1 => ∃ a dx fs, x = .ref a ∧ H1 a = some (.ins C dx fs) ∧ fs.lookup m = none ∧ t σ H1 fun vs H2 => sp (.ref a :: vs) H2 Q fun c d H3 => W c d σ H3) := by
  refine ⟨fun pins s σ H Q I h => ?_⟩
  refine PySem.W.methodCall_KW (pl := pl) (thn (he.run pins s σ H _ I h) fun u s1 ⟨x, H1, I1, rx, a, dx, fs, ex, ea, l, q⟩ => ?_) ht
  subst ex
  obtain rfl : u = Value.ref a := rx
  refine getmeth_ok I1 ea cl hm l ?_
  refine PySem.W.callWith_K (first := [.ref a]) (h₀ := X.base) I.ok.mod.kin hm.kp (thn (ha.run pos pins s1 σ H1 _ I1 q) fun us s2 ⟨vs, H2, I2, r, q2⟩ => ⟨I2.kIn, ?_⟩) hst hpl
  exact runM (us := .ref a :: us) (vs := .ref a :: vs) F hr gd I2.env0 hb tk I2 (.cons rfl r) q2
theorem pe_methGS0 {C f : Addr} {fd : FuncData} {sp : Sp} {ta : TE} {pl : Sem Bool} (he : PE X o ta) (cl : Cls X.K C) (hm : Meth X.K C m f) (F : FnG X.prog X.w X.K X.mg X.base (L2.CX X.prog X.w) k f fd ps sp) (hr : Room k X.A) (gd : X.A.guards = some []) (hb : Binds X.K fd ps []) (tk : Takes X W)
    (ht : eval (.Call (.Attribute o m apos) [] [] pos) X.env = (do
      let ov ← eval o X.env
      standAt apos.atName
      let (f, first) ← holding [ov] (getMethod ov m pl)
      callWith pos f first (backTo pos (starEach [] X.env)) (backToKw pos (keywordEach [] X.env))) := by rfl) :
    PE X (.Call (.Attribute o m apos) [] [] pos) (fun σ H Q => ta σ H fun x H1 => ∃ a dx fs, x = .ref a ∧ H1 a = some (.ins C dx fs) ∧ fs.lookup m = none ∧ sp [.ref a] H1 Q fun c d H3 => W c d σ H3) := by
  refine ⟨fun pins s σ H Q I h => ?_⟩
  refine PySem.W.methodCall_KW (pl := pl) (thn (he.run pins s σ H _ I h) fun u s1 ⟨x, H1, I1, rx, a, dx, fs, ex, ea, l, q⟩ => ?_) ht
  subst ex
  obtain rfl : u = Value.ref a := rx
  refine getmeth_ok I1 ea cl hm l ?_
  exact PySem.W.callWith_K0 (first := [.ref a]) I1.kIn hm.kp (runM (us := [.ref a]) (vs := [.ref a]) F hr gd I1.env0 hb tk I1 (.cons rfl .nil) q)
/-- o.m(e, ..) -/
def dMeth (c m : Str) (S : SpDX) (RX : DXS) (To : TD) (T : TAD) : TD := fun ρ ω Q => To ρ ω fun x ω1 => (∃ fds, FsOf c x ω1 fds ∧ fds.lookup m = none) ∧ T ρ ω1 fun xs ω2 => S (x :: xs) ω2 Q fun y fs ω3 => RX y fs ρ ω3
theorem RpFs.none {K : PySem.W.Frag} {p : Fp} {H : Hp} {f : Str} : ∀ {ds : List (Str × D)} {vs : List (Str × V)}, RpFs K p H ds vs → ds.lookup f = none → vs.lookup f = none
  | _, _, .nil, _ => rfl
  | (g, _) :: _, _, .cons r t, e => by
    rw [List.lookup_cons] at e ⊢
    cases y : f == g with
    | true => rw [y] at e; cases e
    | false => rw [y] at e; exact RpFs.none t e
theorem de_methK {K : PySem.W.Frag} (I0 : AmbX K W RX) {pl : Sem Bool} (cl : Cls X.K (Ers.ad c)) (C : CalM X.prog X.w X.K X.mg X.base k c m ps S) (hr : Room k X.A) (gd : X.A.guards = some []) (tk : Takes X W) (ho : @DE I0.toAmb X o To) (ha : @DA I0.toAmb X (e :: es) T)
    (hst : starEach (e :: es) X.env = (false, eval e X.env) :: starEach es X.env := by rfl) (hpl : (backTo pos (starEach es X.env)).any (·.1) = false := by rfl)
    (ht : eval (.Call (.Attribute o m apos) (e :: es) [] pos) X.env = (do
      let ov ← eval o X.env
      standAt apos.atName
      let (f, first) ← holding [ov] (getMethod ov m pl)
      callWith pos f first (backTo pos (starEach (e :: es) X.env)) (backToKw pos (keywordEach [] X.env))) := by rfl) (hK : X.K = K := by rfl) :
    @DE I0.toAmb X (.Call (.Attribute o m apos) (e :: es) [] pos) (dMeth c m S RX To T) := by
  subst hK
  obtain ⟨f, fd, F, hi, hfn, hn, hk, hbb⟩ := C
  refine PE.weak (pe_methGS ho cl ⟨hi, hfn, hk⟩ F hr gd hbb tk ha hst hpl ht) fun σ H Q ⟨h, ρ, ω, R, sl, w, t, k⟩ => ?_
  refine ⟨h, ρ, ω, _, sl, w, t, fun x ω1 vx H1 ⟨⟨fds0, e0, l0⟩, t1⟩ f1 w1 rx => ?_⟩
  obtain ⟨a, dx, fvs, rfl, ha1, rf⟩ := e0.at_ w1 rx
  refine ⟨a, dx, fvs, rfl, ha1, rf.none l0, h, ρ, ω1, _, sl.keep f1.kp, w1, t1, fun xs ω2 vs H2 t2 f2 w2 rs => ?_⟩
  exact spM sl w (f1.trans f2) w2 (.cons (rx.keep f2.kp) rs) t2 (k.go (f1.trans f2))
theorem de_meth0K {K : PySem.W.Frag} (I0 : AmbX K W RX) {pl : Sem Bool} (cl : Cls X.K (Ers.ad c)) (C : CalM X.prog X.w X.K X.mg X.base k c m ps S) (hr : Room k X.A) (gd : X.A.guards = some []) (tk : Takes X W) (ho : @DE I0.toAmb X o To)
    (ht : eval (.Call (.Attribute o m apos) [] [] pos) X.env = (do
      let ov ← eval o X.env
      standAt apos.atName
      let (f, first) ← holding [ov] (getMethod ov m pl)
      callWith pos f first (backTo pos (starEach [] X.env)) (backToKw pos (keywordEach [] X.env))) := by rfl) (hK : X.K = K := by rfl) :
    @DE I0.toAmb X (.Call (.Attribute o m apos) [] [] pos) (dMeth c m S RX To dNil) := by
  subst hK
  obtain ⟨f, fd, F, hi, hfn, hn, hk, hbb⟩ := C
  refine PE.weak (pe_methGS0 ho cl ⟨hi, hfn, hk⟩ F hr gd hbb tk ht) fun σ H Q ⟨h, ρ, ω, R, sl, w, t, k⟩ => ?_
  refine ⟨h, ρ, ω, _, sl, w, t, fun x ω1 vx H1 ⟨⟨fds0, e0, l0⟩, t1⟩ f1 w1 rx => ?_⟩
  obtain ⟨a, dx, fvs, rfl, ha1, rf⟩ := e0.at_ w1 rx
  exact ⟨a, dx, fvs, rfl, ha1, rf.none l0, spM sl w f1 w1 (.cons rx .nil) t1 (k.go f1)⟩
/-! ### isinstance(x, list) where x may be an instance -/
/-- the classes of instances that are asked, and that they are no such built-in type -/
structure ClsN (K : PySem.W.Frag) (c : Str) (n : String) : Prop where
  is : ClsI K (Ers.ad c)
  no : PySem.W.kitOne K (.ref (Ers.ad c)) (.type n) = some false
def dIsiO (c : Str) (n : String) : DOn := fun xs ω R => (∃ x fds, xs = [x, .raw (.ty n)] ∧ FsOf c x ω fds ∧ R (.bl false) ω) ∨ dIsi xs ω R
variable {ρ : Rho} {ω : Om} {Q : DQ}
theorem st_meth (h : To ρ ω fun x ω1 => (∃ fds, FsOf c x ω1 fds ∧ fds.lookup m = none) ∧ T ρ ω1 fun xs ω2 => S (x :: xs) ω2 Q fun y fs ω3 => RX y fs ρ ω3) : dMeth c m S RX To T ρ ω Q := h
end
end DL

/-! XS: steps of readings: try, what a suite asks of its error, instances that become data. -/
namespace DL
open PySem PySem.Spec L2
section
variable [Ers] {prs : List (Str × Str)} {c x f : Str} {i : Nat} {Tb : DXS → TSD} {Ts : Str → Addr → Option Addr → TSD} {RXo : DXS} {E : DEnds} {ρ : Rho} {ω ω' : Om} {l : List (Str × D)} {Q : DQ}
theorem st_try (h : Tb (dCatch prs c i Ts RXo E) E ρ ω) : dTry prs c i Tb Ts RXo E ρ ω := h
theorem Ext.xd {dd : Addr} {k : Cell} (n : ω dd = none) : Ext ω (oset ω dd k) := fun b hb => oset_ne fun z => hb (by rw [z]; exact n)
/-- an error with fields is caught -/
theorem st_catch (m : (x, c) ∈ prs) (hb : subB x c = true) (h : ∀ a dd ω2, Ext ω ω2 → ω2 dd = some (.xd l) → Ts x a (some dd) (dGone i E) (ρ.set i (some (.raw (.ref a)))) ω2) : dCatch prs c i Ts RXo E x (some l) ρ ω := by
  refine ⟨m, fun _ a d ω2 xp => ?_, fun z => by rw [hb] at z; cases z⟩
  rcases xp with ⟨e, _⟩ | ⟨l', dd, e1, e2, n, e3⟩
  · cases e
  · cases e1
    subst e2 e3
    exact h a dd _ (Ext.xd n) oset_same
/-- an error without fields is caught -/
theorem st_catch0 (m : (x, c) ∈ prs) (hb : subB x c = true) (h : ∀ a, Ts x a none (dGone i E) (ρ.set i (some (.raw (.ref a)))) ω) : dCatch prs c i Ts RXo E x none ρ ω := by
  refine ⟨m, fun _ a d ω2 xp => ?_, fun z => by rw [hb] at z; cases z⟩
  rcases xp with ⟨_, e2, e3⟩ | ⟨l', dd, e1, _⟩
  · subst e2 e3
    exact h a
  · cases e1
theorem FsOf.obj {fds : List (Str × D)} : FsOf c (.obj (Ers.ad c) fds) ω fds := .inl rfl
theorem FsOf.own {a dx : Addr} {fds : List (Str × D)} (h : ω a = some (.ins (Ers.ad c) dx fds)) : FsOf c (.raw (.ref a)) ω fds := .inr ⟨a, dx, rfl, h⟩
theorem st_p8 (h : Q (.int 100000000) ω) : dPow (.int 10) (.int 8) ω Q := st_pow ⟨by decide, by decide, by decide⟩ h
/-- a text of signs, as written -/
theorem nice_shown {s : Str} {n m : Nat} (ok : PyData.strOk s = true) (l : s.length ≤ n) (h : 10 * n + 2 ≤ m) : Nice 0 m (.str s) := nice_str (by
  have hx : ∀ c ∈ s.cps.toList, c < 16 ^ 8 := fun c hc => by
    unfold PyData.strOk at ok
    have := Array.all_eq_true_iff_forall_mem.mp ok c (by simpa using hc)
    have : c < 0x110000 := by simpa using this
    omega
  have := StrLaws.reprText_len s hx
  omega)
/-- a list of two texts beside a list of two texts, both the same -/
theorem st_neStr2' {s t : Str} (ok : PyData.strOk s = true) (ok2 : PyData.strOk t = true) (h : Q (.bl false) ω) : dEq true (.lst [.str s, .str t]) (.lst [.str s, .str t]) ω Q := by
  show eqD _ _ ∧ Q _ ω
  refine ⟨⟨rfl, rfl, ?_, ?_⟩, ?_⟩
  · simp [SeqAt.shaped, D.py, pyAll, PyData.canLay0, PyData.canLayAll0, PyData.depth, PyData.depthAll, ok, ok2]
  · simp [SeqAt.shaped, D.py, pyAll, PyData.canLay0, PyData.canLayAll0, PyData.depth, PyData.depthAll, ok, ok2]
  · have e : PyData.eqv (D.lst [.str s, .str t]).py (D.lst [.str s, .str t]).py = true := by simp [D.py, pyAll, PyData.eqv, PyData.eqvAll]
    rw [e]
    exact h
end
end DL

/-! XW: an error that a suite hands to a def: what that def asks of it. -/
namespace DL
open PySem PySem.Spec L2 PyProof.Rows PySem.W
variable [Ers]
abbrev SpDE := Str → Addr → Option Addr → SpD
def spE (K : PySem.W.Frag) (prs : List (Str × Str)) (S : SpDE) (p : Addr × Obj) : List V → Hp → VK → Prop := fun vs H Q => ∃ x d h ω R, vs = [.ref p.1] ∧ Zc (.ref (Ers.ad x)) d p.2 ∧ (∃ vs, p.2.data = .fields vs) ∧ (∃ y, (x, y) ∈ prs) ∧ @Wd amb0 K h H ω ∧ S x p.1 d [.raw (.ref p.1)] ω R ∧ @Cnt K amb0 h H ω R Q
/-- a def that is handed the error that its caller's suite holds -/
structure FnE (P : Program) (w : World) (K : PySem.W.Frag) (mg : Str → Option Value) (base : Heap) (prs : List (Str × Str)) (k : Nat) (f : Addr) (fd : FuncData) (ps : List Str) (S : SpDE) : Prop where
  one : ps.length = 1
  goes : ∀ (A : Around) (fs : List Env) (s : Shared) (hp : Hp) (ar : Args) (us : List Value) (as : List V) (q : VK) (p : Addr × Obj),
    L2H.RoomH k A → A.guards = some [] → L2H.PinOk fs hp s p → Env0 P w K mg base A fs s hp → BindsTo s fd ar (ps.zip us) → Vals as us → spE K prs S p as hp q →
    codeAny (model P w) A (.call (.ref f) ar) (CR CX0 fs P w hp s q fun _ _ _ => False) s
theorem FnE.of {P : Program} {w : World} {K : PySem.W.Frag} {mg : Str → Option Value} {base : Heap} {prs : List (Str × Str)} {k : Nat} {x qual : Str} {st : Stmt} {f : Addr} {fd : FuncData} {N ps : List Str} {S : SpDE} {T : Str → Addr → Option Addr → TSD}
    (F : Fun K x qual st f fd) (sc : FnScope N ps (defScope st)) (lp : ps.length = 1)
    (b : ∀ (cdv : Value) (A : Around) (fs : List Env) (s : Shared) (hp : Hp) (p : Addr × Obj) (y : Str) (d : Option Addr), Zc (.ref (Ers.ad y)) d p.2 → (∃ vs, p.2.data = .fields vs) → (∃ z, (y, z) ∈ prs) → L2H.RoomH k (A.deeper (PyProof.Rows.envOfC qual (defScope st) s.heap.objs.size f cdv)) → A.guards = some [] →
      DSs (L2H.cxH CX0 P w K mg base N qual (defScope st) f cdv A fs s hp (fun _ _ _ => False) p) (defBody st) (T y p.1 d))
    (rd : ∀ y a d ω R, S y a d [.raw (.ref a)] ω R → T y a d { nx := fun _ ω' => R .non ω', rt := R } (startD N [.raw (.ref a)]) ω) : FnE P w K mg base prs (k + 1) f fd ps S := by
  obtain ⟨oc, od, kV, doc, pm, an, cdv, ct, osl, rfl, lk, hcd⟩ := F.ex
  refine ⟨lp, fun A fs s hp args us vs q p room gd pin en hb rv ⟨y, d, h, ω, R, ev, hz, hf, hm, w, sp, kk⟩ => ?_⟩
  subst ev
  have la : [V.ref p.1].length = ps.length := lp.symm
  have inn : K.In s.heap := en.mod.kin.keeps fun b o z => (en.bs b o z).1
  have nol : s.heap.NoLimit := en.mod.nolimit.keeps fun b o z => (en.bs b o z).1
  have kinds : ∀ y ∈ ps.zip us, (defScope st).names.lookup y.1 = some .local ∨
      ((defScope st).names.lookup y.1 = some .cell ∧ ((cellsFrom (s.heap.objs.size + 1) (defScope st).names []).lookup y.1).isSome = true) := fun ⟨n, v⟩ hy => (sc.par n (List.of_mem_zip hy).1).imp id fun z => ⟨z, PySem.W.cellsFrom_some _ _ _ (.inl z)⟩
  refine codeAny_call_function room.depth (inn _ _ lk) rfl sc.co sc.gen rfl
    (PySem.W.codeRec_of inn hcd) (hb _ _ _ _ ?_)
  refine wpAny_newFunctionEnv_cells sc.kind kinds fun en1 he t1 x1 => ?_
  subst he
  refine ⟨nol.keeps x1.toInCall.keep, codeAny_func ?_⟩
  have J := L2H.inv_startH (CX := CX0) (E := fun _ _ _ => False) (f := f) sc pin en la rv x1
  have ht := b cdv A fs s hp p y d hz hf hm (room.deeper _) gd
  refine wpAny_mono (ht.run [] t1 (L2.start N [.ref p.1]) hp { nx := fun _ hp' => q .non hp', rt := q } J ⟨h, startD N [.raw (.ref p.1)], ω, _, Sl.start (.cons (.raw _) .nil), w, rd y p.1 d ω R sp, fun ρ' ω' σ' H' z f' w' _ => kk .non ω' .non H' z f' w' .non, kk, fun _ _ _ _ z => z.elim, fun _ _ _ _ z => z.elim⟩) (fun fl s' z => ?_) fun _ _ z => z
  match fl, z with
  | .ret u, ⟨v, σ', hp', J', rv', z'⟩ => exact ⟨v, hp', J'.os, J'.bare, J'.base, J'.hok, rv', z'⟩
  | .next, ⟨σ', hp', J', z'⟩ => exact ⟨.non, hp', J'.os, J'.bare, J'.base, J'.hok, rfl, z'⟩
  | .brk, ⟨_, _, _, z'⟩ => exact z'.elim
  | .cont, ⟨_, _, _, z'⟩ => exact z'.elim
def CalE (P : Program) (w : World) (K : PySem.W.Frag) (mg : Str → Option Value) (base : Heap) (prs : List (Str × Str)) (k : Nat) (x : Str) (ps : List Str) (S : SpDE) : Prop :=
  ∃ f fd, FnE P w K mg base prs k f fd ps S ∧ mg x = some (.ref f) ∧ keepIn K (.ref f) = true ∧ Binds K fd ps []
theorem CalE.mk {P : Program} {w : World} {K : PySem.W.Frag} {mg : Str → Option Value} {base : Heap} {prs : List (Str × Str)} {k : Nat} {x : Str} {st : Stmt} {N ps : List Str} {S : SpDE} {T : Str → Addr → Option Addr → TSD} (D : DefAt K mg x st) (sc : FnScope N ps (defScope st)) (lp : ps.length = 1)
    (bi : ∀ (kV doc pm : Value) (an : Option Addr) (cdv ct : Value) (us : List Value), us.length = ps.length → bindArgs (PySem.W.fnOf x x (defArgs st) (defBody st) (defScope st) .none kV doc pm an cdv ct) ⟨us, []⟩ = pure (ps.zip us))
    (b : ∀ (f : Addr) (cdv : Value) (A : Around) (fs : List Env) (s : Shared) (hp : Hp) (a : Addr) (oe : Obj) (y : Str) (d : Option Addr), Zc (.ref (Ers.ad y)) d oe → (∃ vs, oe.data = .fields vs) → (∃ z, (y, z) ∈ prs) → L2H.RoomH k (A.deeper (PyProof.Rows.envOfC x (defScope st) s.heap.objs.size f cdv)) → A.guards = some [] →
      DSs (L2H.cxH CX0 P w K mg base N x (defScope st) f cdv A fs s hp (fun _ _ _ => False) (a, oe)) (defBody st) (T y a d))
    (rd : ∀ y a d ω R, S y a d [.raw (.ref a)] ω R → T y a d { nx := fun _ ω' => R .non ω', rt := R } (startD N [.raw (.ref a)]) ω) : CalE P w K mg base prs (k + 1) x ps S := by
  obtain ⟨f, fd, hm, F⟩ := D
  exact ⟨f, fd, FnE.of F sc lp (fun cdv A fs s hp p y d => b f cdv A fs s hp p.1 p.2 y d) rd, hm, F.kp, F.binds bi⟩
/-! ### what such a def asks -/
/-! ### the suite hands its error over -/
section
variable {X : Cx} {a : Addr} {oe : Obj} {pn : List (Addr × Obj)} {k : Nat} {f : Addr} {fd : FuncData} {ps : List Str} {prs : List (Str × Str)} {S : SpDE} {x y c : Str} {d : Option Addr} {p pos : Pos} {e : Expr} {te : TE} {Te : TD}
/-- f(e), e the error that the suite holds -/
def dCallE (x : Str) (a : Addr) (d : Option Addr) (S : SpDE) (Te : TD) : TD := fun ρ ω Q => Te ρ ω fun v ω1 => v = .raw (.ref a) ∧ S x a d [.raw (.ref a)] ω1 Q
variable {ρ : Rho} {ω : Om} {Q : DQ}
theorem st_callE (h : Te ρ ω fun v ω1 => v = .raw (.ref a) ∧ S x a d [.raw (.ref a)] ω1 Q) : dCallE x a d S Te ρ ω Q := h
end
end DL

/-! XV: loads and baskets as data and as owned instances. -/
namespace DL
open PySem PySem.Spec L2
variable [Ers]
/-- the fields of a load -/
def loadF (ws : List Int) : List (Str × D) := [("_weights", .tup ((srt ws).map D.int)), ("_total", .int ws.sum)]
def loadD (ws : List Int) : D := .obj (Ers.ad "Load") (loadF ws)
/-- weights of a load -/
def LoadW (ws : List Int) : Prop := ws.length ≤ 100 ∧ ∀ w ∈ ws, 1 ≤ w ∧ w ≤ 1000000
def isLoadV (v : D) : Prop := ∃ ws, v = .tup (ws.map D.int) ∧ LoadW ws
theorem dput_ne {f g : Str} {d x : D} {r : List (Str × D)} (h : g ≠ f) : dput f d ((g, x) :: r) = (g, x) :: dput f d r := if_neg h
theorem dput_eq {f : Str} {d x : D} {r : List (Str × D)} : dput f d ((f, x) :: r) = (f, d) :: r := if_pos rfl
/-- a number from lo to hi -/
def numV : D → Int → Int → Bool
  | .int i, lo, hi => decide (lo ≤ i ∧ i ≤ hi)
  | _, _, _ => false
def baskF (e r : Int) : List (Str × D) := [("_excess", .int e), ("_rides", .int r)]
/-- what a basket's call gives, and what it counts then -/
def rideB (e : Int) (ws vs : List Int) : Bool := decide (1 ≤ ws.sum - vs.sum ∧ ws.sum - vs.sum ≤ e)
def rideD (e : Int) (ws vs : List Int) : D := if rideB e ws vs = true then .int (ws.sum - vs.sum) else .non
/-! ### repr of an owned list -/
section
variable {X : Cx}
def dReprO : DOn := fun xs ω Q => ∃ p ds, xs = [.raw (.ref p)] ∧ ω p = some (.lst ds) ∧ Shows (.lst ds) ∧ Q (.str (D.lst ds).py.shown) ω
end
end DL

/-! XG: errors of classes over LookupError whose __init__ keeps one field. -/
namespace DL
open PySem PySem.Spec L2 PyProof.Rows PySem.W PySem.HandSPX Builtin Builtin.ObjectAttr
/-! ### the first store into such an error -/
section
variable {prog : Program} {w : World} {A : Around} {R : Result → Shared → Prop} {gx : Heap} {gs : Array GenState} {dr : PySem.Drawn} {tq : Nat} {os : OsState}
theorem osaG {K : W.Frag} {f : Str} {tk : Tok} {v : Value} {x C : Addr} {fw : Array Value} {ce : ClassData} (KI : K.In gx) (at_x : gx.get? x = some { cls := .ref C, data := .fields fw }) (ccd : W.clsIn K C = some ce)
    (pass : refuseLoop (.ref x) "__setattr__" ce.mro = pure ()) (ob : ce.mro.contains (.type "object") = true) (ne : ce.mro.isEmpty = false) (hasD : ce.hasDict = true) (hno : W.findIn K (.ref C) f = some none)
    (fin : ∀ g2 tk2 dx, (∀ b o, b ≠ x → gx.get? b = some o → g2.get? b = some o) → gx.objs.size ≤ dx → dx ≠ x → g2.get? x = some { cls := .ref C, dict := some dx, data := .fields fw } →
      g2.Ns1 dx (fun y => if y = f then some v else none) → R (.ok (.ret .none)) ⟨g2, gs, dr, tk2, os⟩) :
    codeAny (model prog w) A (.call (.builtin "object.__setattr__") ⟨[.ref x, .str f tk, v], []⟩) R ⟨gx, gs, dr, tq, os⟩ := by
  have J : W.InstAt gx x { cls := .ref C, data := .fields fw } C none := ⟨at_x, rfl, rfl, trivial⟩
  have S0 := F.store_object
  have below : x ≠ gx.objs.size := Nat.ne_of_lt (Heap.lt_size at_x)
  have isO : W.Looks (model prog w) gx (isInstance (.ref x) (.type "object")) true := by
    refine J.type.andThen (W.looks_mroIn KI ?_)
    unfold W.mroIn
    rw [ccd, Option.bind_some, if_neg (by rw [ne]; decide), ob]
  refine codeAny_call_builtin S0.slot.plain S0.entry ?_
  refine @W.check_slot (model prog w) _ _ ⟨gx, gs, dr, tq, os⟩ "object.__setattr__" "object" "__setattr__" (.ref x) [.str f tk, v] [] _ S0.kind S0.split isO (S0.args (.ref x) (.str f tk) v) ?_
  have own : W.Looks (model prog w) gx (classData C) ce := W.looks_clsIn KI ccd
  have mros : W.Looks (model prog w) gx (mroOf (.ref C)) ce.mro := own.andThen .now
  have noT : W.Looks (model prog w) gx (storeTaker? none) none := .now
  rw [W.osa_eq, refuse_eq]
  refine wpAny_bind (wpAny_bind (J.type.at ?_))
  refine wpAny_bind (mros.at ?_)
  rw [pass]
  refine wpAny_pure (wpAny_bind (J.type.at ?_))
  refine wpAny_bind ((W.looks_findIn KI hno).at ?_)
  refine wpAny_bind (noT.at ?_)
  show wpAny _ _ (storeInOwnDict (.ref x) (.ref C) (.str f tk) f v false) _ _ _
  obtain ⟨c1, c2, c3, c4, c5, c6, c7, c8, c9, c10, c11⟩ := ce
  dsimp only at hasD
  subst hasD
  unfold storeInOwnDict
  unfold ownDictForStores
  repeat (first | with_reducible refine store_in_new ?_ ?_ | with_reducible refine wpAny_loadPart_at at_x ?_ | with_reducible refine own.at ?_ | wp_step)
  · refine ⟨_, #[], _, (Heap.get?_update_ne _ _ _ _ below.symm).trans (Heap.get?_push_at rfl rfl), rfl, ?_, fun _ => rfl⟩
    intro e he
    simp at he
  · intro g2 tk2 hn2 sb
    have up : (gx.push { cls := .type "dict", data := .dict #[] }).get? x = some { cls := .ref C, data := .fields fw } := Heap.get?_push_of_some _ at_x
    exact fin g2 tk2 gx.objs.size (fun b o nb e => (sb.2 b (Nat.ne_of_lt (Heap.lt_size e))).trans ((Heap.get?_update_ne _ _ _ _ nb).trans (Heap.get?_push_of_some _ e))) (Nat.le_refl _) below.symm ((sb.2 x below).trans (Heap.get?_update_self _ up rfl)) hn2
end
/-! ### own classes, then LookupError's line -/
theorem refsLE_cases {l : List Value} (h : refsLE l = true) : l = leTail ∨ ∃ c r, l = .ref c :: r ∧ refsLE r = true := by
  cases l with
  | nil => cases h
  | cons v r =>
    unfold refsLE at h
    rw [Bool.or_eq_true] at h
    rcases h with h | h
    · cases v <;> first | exact .inr ⟨_, _, rfl, h⟩ | cases h
    · exact .inl (beq_iff_eq.mp h)
theorem refsLE_pass (self : Value) : ∀ l : List Value, refsLE l = true → refuseLoop self "__setattr__" l = pure ()
  | [], h => by cases h
  | v :: r, h => by
    rcases refsLE_cases h with e | ⟨c, r', e, h'⟩
    · rw [e]; exact F.store_LookupError.passes self
    · cases e
      rw [refuseLoop_ref]
      exact refsLE_pass self r h'
theorem refsLE_contains (T : String) : ∀ l : List Value, refsLE l = true → l.contains (.type T) = leTail.contains (.type T)
  | [], h => by cases h
  | v :: r, h => by
    rcases refsLE_cases h with e | ⟨c, r', e, h'⟩
    · rw [e]
    · cases e
      rw [List.contains_cons, refsLE_contains T r h']
      rfl
/-- what the written part says of such a class -/
structure OexL (K : PySem.W.Frag) (C : Addr) : Prop where
  cls : ∃ nm q N bs bm sn sub ab col dd k0 k1 k2 k3 k5, K.lookup C = some (excClassObj nm q C N bs bm true sn sub ab col dd k0 k1 k2 k3 k5 "LookupError.__new__") ∧ refsLE bm = true
  sa : findIn K (.ref C) "__setattr__" = some (some (.builtin "object.__setattr__"))
  exC : subIn K (.ref C) (.type "BaseException") = some true
  tyC : typeIn K (.ref C) = some (.type "type")
  kC : keepIn K (.ref C) = true
/-! ### its __init__, made, raised -/
section
variable {X : Cx} {pins : List (Addr × Obj)} {σ : L2.St} {H : Hp} {a C : Addr} {f : Str}
/-- the state behind the first store -/
theorem exo_filled {gx g2 : Heap} {gs : Array GenState} {dr : PySem.Drawn} {tq tk2 : Nat} {os : OsState} {dx : Addr} {y : V} {u : Value} {t1 : Addr} (I : Inv X pins σ H ⟨gx, gs, dr, tq, os⟩) (e : H a = some (exo a C none)) (ry : L2.RelV y u)
    (kp : ∀ b o, b ≠ a → gx.get? b = some o → g2.get? b = some o) (up : gx.objs.size ≤ dx) (ne : dx ≠ a) (at_a : g2.get? a = some { cls := .ref C, dict := some dx, data := .fields #[.ref t1, .none, .none, .none, .bool false, .none] }) (hns : g2.Ns1 dx (fun z => if z = f then some u else none)) :
    H dx = none ∧ Inv X pins σ (upd (upd H dx (exd dx [(f, y)])) a (exo a C (some dx))) ⟨g2, gs, dr, tk2, os⟩ := by
  have nd : H dx = none := I.hok.fresh up
  have apart : ∀ {b : Addr} {o : Obj}, gx.get? b = some o → b ≠ dx := fun z => Nat.ne_of_lt (Nat.lt_of_lt_of_le (Heap.lt_size z) up)
  have noa : ∀ {b : Addr}, H b = none → b ≠ a := fun n z => by rw [z, e] at n; cases n
  refine ⟨nd, I.un (t' := tk2) ⟨fun b o z n _ _ => kp b o (noa n) z, fun b o z n _ _ => ⟨o.slots, kp b o (noa n) z⟩, fun b o z n _ => ?_, fun b o z _ => ?_, fun b xs z => ?_, fun b o v z => ?_, fun b ps z => ⟨#[], ?_⟩⟩ fun b o z => ?_⟩
  · rw [upd_ne (noa n), upd_ne (apart z)]; exact n
  · by_cases q : b = a
    · exact ⟨_, by rw [q]; exact at_a⟩
    · exact ⟨o, kp b o q z⟩
  · rw [upd_ne (at_ne e z exo_tup), upd_ne (ne_of_none z nd)]; exact z
  · rw [upd_ne (at_ne e z exo_frz), upd_ne (ne_of_none z nd)]; exact z
  · rw [upd_ne (at_ne e z exo_tbl), upd_ne (ne_of_none z nd), z]; simp
  · by_cases q : b = a
    · subst q
      rw [upd_same] at z
      cases z
      exact exo_ok at_a
    rw [upd_ne q] at z
    by_cases q2 : b = dx
    · subst q2
      rw [upd_same] at z
      cases z
      exact exd_ok hns (relO_put (fs := []) ry fun g => True.intro)
    rw [upd_ne q2] at z
    refine (I.hok b o z).stay (fun c v hc w => kp c v ?_ w) (fun c hc => ?_) fun c xs hc => ?_
    · rcases hc with rfl | hc
      · exact q
      · exact at_ne e hc exo_own
    · rw [upd_ne (at_ne e hc exo_own), upd_ne (ne_of_none hc nd)]; exact hc
    · rw [upd_ne (at_ne e hc exo_tup), upd_ne (ne_of_none hc nd)]; exact hc
theorem store_L {s : Shared} {y : V} {u : Value} {Q : Unit → Shared → Prop} {A : Around} {E : Value → Shared → Prop} (T : OexL X.K C) (I : Inv X pins σ H s) (e : H a = some (exo a C none)) (hno : findIn X.K (.ref C) f = some none) (ry : L2.RelV y u)
    (fin : ∀ dx s2, H dx = none → dx ≠ a → Inv X pins σ (upd (upd H dx (exd dx [(f, y)])) a (exo a C (some dx))) s2 → Q () s2) : wpAny (model X.prog X.w) A (setAttr (.ref a) f u) Q E s := by
  obtain ⟨nm, q, N, bs, bm, sn, sub, ab, col, dd, k0, k1, k2, k3, k5, lk, lb⟩ := T.cls
  have ccd : W.clsIn X.K C = some { name := nm, bases := bs, mro := .ref C :: bm, ns := N, qualname := q, hasDict := true, slotNames := sn, subclasses := sub, abstract := ab, collection := col, hasDel := false } := by
    unfold PySem.W.clsIn
    rw [lk] <;> rfl
  obtain ⟨t1, at_a⟩ := exo_at I.hok e
  obtain ⟨gx, gs, dr, tq, os⟩ := s
  have lb2 : refsLE (.ref C :: bm) = true := by rw [refsLE, Bool.or_eq_true]; exact .inl lb
  refine PySem.W.set_plain I.kIn (ox := { cls := .ref C, dict := none, data := .fields #[.ref t1, .none, .none, .none, .bool false, .none] }) (od := none) ⟨at_a, rfl, rfl, trivial⟩ T.sa (osaG I.kIn at_a ccd (refsLE_pass _ _ lb2) ((refsLE_contains "object" _ lb2).trans (by decide +kernel)) rfl rfl hno fun g2 tk2 dx kp up ne at2 hns => ?_)
  obtain ⟨nd, J⟩ := exo_filled (tk2 := tk2) I e ry kp up ne at2 hns
  exact fin dx _ nd ne J
/-- self.f = e, the first store -/
theorem ps_ostL {o e : Expr} {to te : TE} {p' pos : Pos} (ho : PE X o to) (he : PE X e te) (hs : swapsWith e (some (.Attribute o f p')) pos.line X.env = pure false) :
    PS X (.Assign [.Attribute o f p'] e pos) (fun D σ H => te σ H fun y H1 => to σ H1 fun x H2 => ∃ a C : Addr, x = .ref a ∧ OexL X.K C ∧ findIn X.K (.ref C) f = some none ∧ H2 a = some (exo a C none) ∧ ∀ dx, H2 dx = none → dx ≠ a → D.nx σ (upd (upd H2 dx (exd dx [(f, y)])) a (exo a C (some dx)))) := by
  refine ⟨fun pins s σ H D I h => plainObj_wpAny_Assign_Attribute (thn (he.run pins s σ H _ I h) fun v s1 ⟨y, H1, I1, r1, q1⟩ => thn (ho.run pins s1 σ H1 _ I1 q1) fun u s2 ⟨x, H2, I2, r2, a, C, ex, T, hno, ea, q⟩ => ?_) hs⟩
  subst ex
  cases r2
  exact store_L T I2 ea hno r1 fun dx s' n ne J => ⟨σ, _, J, q dx n ne⟩
end
theorem init_oneL {P : Program} {w : World} {K : PySem.W.Frag} {mg : Str → Option Value} {base : Heap} {C fI : Addr} {qual f v : Str} {st : Stmt} {fd : FuncData} {p1 p2 p3 p4 : Pos} {k : Nat} (T : OexL K C) (hno : PySem.W.findIn K (.ref C) f = some none)
    (F : Fun K "__init__" qual st fI fd) (sc : FnScope ["self", v] ["self", v] (defScope st)) (hb : defBody st = [.Assign [.Attribute (.Name "self" p1) f p2] (.Name v p3) p4]) (vs : Vis (defScope st) "self") (vv : Vis (defScope st) v)
    (hd : (v == ("__debug__" : Str)) = false) (hcd : (v == ("__classdict__" : Str)) = false)
    (hs : ∀ env : Env, swapsWith (.Name v p3) (some (.Attribute (.Name "self" p1) f p2)) p4.line env = pure false) : FnOk P w K mg base (L2.CX P w) (k + 1) fI fd ["self", v] (sp1 C f) := by
  refine F.okX sc (fun vs H Q E ⟨a, v, e, _⟩ => by rw [e]; rfl) fun cdv A outer s H us Q E hr ⟨a, u, e, ha, q⟩ => ?_
  subst e
  rw [hb]
  refine ⟨_, pss_one (ps_ostL (pe_var (i := 0) rfl vs) (pe_var (i := 1) rfl vv hd hcd) (hs _)), ?_⟩
  exact ⟨u, rfl, .ref a, rfl, a, C, rfl, T, hno, ha, fun dx n ne => q dx n ne⟩
section
variable {X : Cx} {e : Expr} {es : List Expr} {ta : TA} {p pos : Pos}
/-- C(e, ..), to be raised -/
theorem pmk_L {x : Str} {C fI : Addr} {k : Nat} {fd : FuncData} {ps : List Str} {sp : Sp} (T : OexL X.K C) (iC : findIn X.K (.ref C) "__init__" = some (some (.ref fI))) (tI : typeIn X.K (.ref fI) = some (.type "function"))
    (F1 : FnOk X.prog X.w X.K X.mg X.base (L2.CX X.prog X.w) k fI fd ps sp) (hr : Room (k + 1) X.A) (hb : Binds X.K fd ps []) (hg : Gl X x) (hm : X.mg x = some (.ref C)) (ha : PA X (e :: es) ta)
    (hdb : (x == ("__debug__" : Str)) = false) (he : starEach (e :: es) X.env = (false, eval e X.env) :: starEach es X.env) (hpl : (backTo pos (starEach es X.env)).any (·.1) = false) :
    PMk X (.Call (.Name x p) (e :: es) [] pos) (tMkO C sp [] ta) := by
  intro pins s σ H Q I h
  obtain ⟨nm, q, N, bs, bm, sn, sub, ab, col, dd, k0, k1, k2, k3, k5, lk, lb⟩ := T.cls
  refine wpAny_Call_Name_kw (ld_glob I hg hm (PySem.W.callWith_K (h₀ := X.base) I.ok.mod.kin T.kC (thn (ha.run pos pins s σ H _ I h) fun us s1 ⟨vs, H1, I1, r1, few, q1⟩ => ⟨I1.kIn, ?_⟩) he hpl) hdb)
  show wpAny _ _ (PySem.call (.ref C) us) _ _ _
  obtain ⟨gx, gs, dr, tq, os⟩ := s1
  obtain ⟨b, hbq⟩ : ∃ b, b = gx.objs.size + 1 := ⟨_, rfl⟩
  have lb1 : gx.objs.size ≤ b := by omega
  have nb : H1 b = none := I1.hok.fresh lb1
  have want := q1 b nb
  subst hbq
  have kk : ∀ c o, gx.get? c = some o → ((gx.push (PySem.W.kdv_tup us)).push (excO C gx.objs.size)).get? c = some o := fun c o z => Heap.get?_push_of_some _ (Heap.get?_push_of_some _ z)
  have lies : ((gx.push (PySem.W.kdv_tup us)).push (excO C gx.objs.size)).get? (gx.objs.size + 1) = some (excO C gx.objs.size) := by heap_get
  have I2 := I1.laid (t' := tq) (a := gx.objs.size + 1) (o := exo (gx.objs.size + 1) C none) (h' := (gx.push (PySem.W.kdv_tup us)).push (excO C gx.objs.size)) kk lb1 (exo_ok lies)
  have r2 : Vals (V.ref (gx.objs.size + 1) :: (vs ++ [])) (Value.ref (gx.objs.size + 1) :: (us ++ [])) := .cons rfl (r1.append .nil)
  have ll : (Value.ref (gx.objs.size + 1) :: us ++ []).length = ps.length := r2.length.symm.trans (F1.len _ _ _ _ want)
  have ul : us.length ≤ sizeLine := by
    have := Paired.length r1
    have := sizeLine_eq
    omega
  have bb : BindsTo _ fd _ (ps.zip (Value.ref (gx.objs.size + 1) :: (us ++ []))) := hb _ (Value.ref (gx.objs.size + 1) :: us) I2.kIn ll
  have goes := F1.run _ X.stack _ _ ⟨Value.ref (gx.objs.size + 1) :: us, []⟩ (Value.ref (gx.objs.size + 1) :: (us ++ [])) _ _ (fun _ _ _ => False) (hr.make C us []) (I2.env0.make C us []) bb r2 want
  refine wpAny_call (call_own F.excBase_LookupError (fun Y => refsLE_contains Y bm lb) (I1.kIn _ _ lk) (looks_findIn I1.kIn iC) (fun self => bind_fn I1.kIn self tI) ul (codeAny_mono goes fun r s' y => ?_))
  match r, y with
  | .error er, y => exact passL _ _ _ _ er s' I2 y
  | .ok (.ret u), ⟨v, H2, os2, bare2, un2, hok2, rv, ev, d, fs, ea, ed, hd1, q2⟩ =>
    subst ev
    obtain ⟨hh2, gs2, dr2, tq2, os3⟩ := s'
    exact ⟨rv, mk_end (raises_own T.exC T.tyC) I1 lb1 kk un2 hok2 os2 bare2 ea ed hd1 q2⟩
end
variable [Ers]
/-- what a raise of x(e) leans on -/
structure ErrL (P : Program) (w : World) (K : PySem.W.Frag) (mg : Str → Option Value) (base : Heap) (k : Nat) (x f : Str) : Prop where
  oc : OexL K (Ers.ad x)
  gm : mg x = some (.ref (Ers.ad x))
  ini : ∃ fI fd v, findIn K (.ref (Ers.ad x)) "__init__" = some (some (.ref fI)) ∧ typeIn K (.ref fI) = some (.type "function") ∧ FnOk P w K mg base (L2.CX P w) k fI fd ["self", v] (sp1 (Ers.ad x) f) ∧ Binds K fd ["self", v] []
theorem ds_raiseL {X : Cx} {K : PySem.W.Frag} {W : WX} {RX : DXS} (I0 : AmbX K W RX) {x f : Str} {k : Nat} {e : Expr} {Te : TD} {p pos pos2 : Pos} (hc : X.calm = true) (tk : Takes X W) (T : ErrL X.prog X.w X.K X.mg X.base k x f) (hr : Room (k + 1) X.A) (hg : Gl X x) (ha : @DE I0.toAmb X e Te)
    (hdb : (x == ("__debug__" : Str)) = false := by decide) (he : starEach (e :: []) X.env = (false, eval e X.env) :: starEach [] X.env := by rfl) (hpl : (backTo pos (starEach [] X.env)).any (·.1) = false := by rfl) (hK : X.K = K := by rfl) :
    @DS I0.toAmb X (.Raise (some (.Call (.Name x p) [e] [] pos)) none pos2) (dRaise x f Te RX) := by
  subst hK
  obtain ⟨oc, hm, fI, fd, v, iC, tI, F1, hb⟩ := T
  refine PS.weak (ps_raise hc tk (pmk_L oc iC tI F1 hr hb hg hm (pa_cons ha pa_nil he) hdb he hpl)) fun D σ H ⟨h, ρ, ω, en, sl, w, t, _⟩ => ?_
  refine ⟨h, ρ, ω, _, sl, w, t, fun d ω1 u H1 t1 f1 w1 r1 => ?_⟩
  exact mk_one (C := Ers.ad x) (f := f) (v := u) (Q := fun c d H2 => W c d σ H2) fun dd hn => AmbX.out w1.amb t1 w1.drop (sl.keep f1.kp) (.inr ⟨_, dd, _, rfl, rfl, hn, .cons r1 .nil, rfl⟩)
section
variable {P : Program} {w : World} {K : PySem.W.Frag} {mg : Str → Option Value} {base : Heap} {x : Str}
theorem errL_of {C fI : Addr} {f qual v : Str} {st : Stmt} {p1 p2 p3 p4 : Pos} {oc : Value} {od an : Option Addr} {osl : Array (Option Value)} {kV doc pm cdv ct : Value} (e : Ers.ad x = C) (T : OexL K C) (gm : mg x = some (.ref C)) (hno : findIn K (.ref C) f = some none)
    (iC : findIn K (.ref C) "__init__" = some (some (.ref fI))) (tI : typeIn K (.ref fI) = some (.type "function"))
    (l : K.lookup fI = some ⟨oc, od, .func (PySem.W.fnOf "__init__" qual (defArgs st) (defBody st) (defScope st) .none kV doc pm an cdv ct), osl⟩) (cc : codeIn K cdv qual = true) (kp : keepIn K (.ref fI) = true)
    (sc : FnScope ["self", v] ["self", v] (defScope st)) (hb : defBody st = [.Assign [.Attribute (.Name "self" p1) f p2] (.Name v p3) p4]) (vs : Vis (defScope st) "self") (vv : Vis (defScope st) v)
    (hd : (v == ("__debug__" : Str)) = false) (hcd : (v == ("__classdict__" : Str)) = false)
    (hs : ∀ env : Env, swapsWith (.Name v p3) (some (.Attribute (.Name "self" p1) f p2)) p4.line env = pure false)
    (bi : ∀ (kV doc pm : Value) (an : Option Addr) (cdv ct : Value) (us : List Value), us.length = (["self", v] : List Str).length → bindArgs (PySem.W.fnOf "__init__" qual (defArgs st) (defBody st) (defScope st) .none kV doc pm an cdv ct) ⟨us, []⟩ = pure ((["self", v] : List Str).zip us)) : ErrL P w K mg base 1 x f := by
  subst e
  have F := fun_mk (st := st) l cc kp
  exact ⟨T, gm, fI, _, v, iC, tI, init_oneL T hno F sc hb vs vv hd hcd hs, F.binds bi⟩
end
end DL

/-! XH: properties with a getter of any form, str(o), o.m() where a keyword has a default. -/
namespace DL
open PySem PySem.Spec L2 PyProof.Rows PySem.W
variable [Ers]
/-! ### properties -/
def CalP (P : Program) (w : World) (K : PySem.W.Frag) (mg : Str → Option Value) (base : Heap) (k : Nat) (c m : Str) (S : SpDX) : Prop :=
  ∃ pa g fd, PropOf K (Ers.ad c) m pa g ∧ FnG P w K mg base (L2.CX P w) k g fd ["self"] (spUX K S) ∧ Binds K fd ["self"] []
def PropAt (K : PySem.W.Frag) (c m q : Str) (st : Stmt) : Prop := ∃ pa g fd, PropOf K (Ers.ad c) m pa g ∧ Fun K m q st g fd
theorem CalP.mk {P : Program} {w : World} {K : PySem.W.Frag} {mg : Str → Option Value} {base : Heap} {k : Nat} {c m q : Str} {st : Stmt} {N : List Str} {S : SpDX} {T : DXS → TSD} (D : PropAt K c m q st) (sc : FnScope N ["self"] (defScope st))
    (bi : ∀ (kV doc pm : Value) (an : Option Addr) (cdv ct : Value) (us : List Value), us.length = (["self"] : List Str).length → bindArgs (PySem.W.fnOf m q (defArgs st) (defBody st) (defScope st) .none kV doc pm an cdv ct) ⟨us, []⟩ = pure ((["self"] : List Str).zip us))
    (ar : ∀ ds ω R RX, S ds ω R RX → ds.length = (["self"] : List Str).length)
    (b : ∀ (f : Addr) (cdv : Value) (A : Around) (fs : List Env) (s : Shared) (hp : Hp) (e : XK) (RX : DXS) [AmbX K (noW e) RX], Room k (A.deeper (PyProof.Rows.envOfC q (defScope st) s.heap.objs.size f cdv)) → A.guards = some [] →
      DSs (cxOf (L2.CX P w) P w K mg base N q (defScope st) f cdv A fs s hp e) (defBody st) (T RX))
    (rd : ∀ ds ω R RX, S ds ω R RX → T (noS RX) { nx := fun _ ω' => R .non ω', rt := R } (startD N ds) ω) : CalP P w K mg base (k + 1) c m S := by
  obtain ⟨pa, g, fd, hp, F⟩ := D
  exact ⟨pa, g, fd, hp, FnG.ofX F sc ar (fun cdv A fs s hp e RX I => @b g cdv A fs s hp e RX I) rd, F.binds bi⟩
section
variable {X : Cx} {W : WX} {RX : DXS} {c m : Str} {p pos apos : Pos} {a e o : Expr} {Te To : TD} {S : SpDX} {ps : List Str} {k : Nat}
theorem pe_propGS {C pa g : Addr} {fd : FuncData} {sp : Sp} {te : TE} (he : PE X e te) (cl : Cls X.K C) (hp : PropOf X.K C m pa g) (F : FnG X.prog X.w X.K X.mg X.base (L2.CX X.prog X.w) k g fd ps sp) (hr : Room (k + 1) X.A) (gd : X.A.guards = some []) (hb : Binds X.K fd ps [])
    (hab : attributeBase e m X.env (eval e X.env) = eval e X.env) :
    PE X (.Attribute e m pos) (fun σ H Q => te σ H fun x H1 => ∃ a dx fs, x = .ref a ∧ H1 a = some (.ins C dx fs) ∧ sp [.ref a] H1 Q fun _ _ _ => False) := by
  refine ⟨fun pins s σ H Q I0 h => attr_of hab (thn (he.run pins s σ H _ I0 h) fun u s1 ⟨x, H1, I, rx, a, dx, fs, ex, ea, q⟩ => ?_)⟩
  subst ex
  cases rx
  obtain ⟨mA, O, _⟩ := ins_get I.hok ea
  obtain ⟨od, J, _⟩ := O.look
  obtain ⟨rest, hrec⟩ := hp.rec_
  have I1 := I.tok (s1.toks + 1)
  obtain ⟨cd, hcd, _⟩ := PySem.W.any_some cl.hd
  have isC : (PySem.W.clsIn X.K C).isSome = true := by rw [hcd] <;> rfl
  have plain := PySem.W.plainGet_of (cl.get m)
  have ll : ([Value.ref a] ++ []).length = ps.length := (F.arity _ _ _ _ q)
  have bb := hb { s1 with toks := s1.toks + 1 } [.ref a] I1.kIn ll
  have goes := F.goes X.A.in1 X.stack { s1 with toks := s1.toks + 1 } H1 ⟨[.ref a], []⟩ [.ref a] [.ref a] Q _ hr.in1 gd I1.env0.in1 bb (.cons rfl .nil) q
  refine PySem.W.get_bind I.kIn J plain.1 (PySem.W.findObj_data isC hp.at_ hp.get hp.tak) plain.2 (wpAny_call (PySem.W.prop_get (s := { s1 with toks := s1.toks + 1 }) I.kIn hrec (codeAny_mono goes fun r s' y => ?_)))
  match r, y with
  | .error er, y =>
    obtain ⟨_, _, _, _, _, _, _, _, _, _, _, _, _, _, _, _, z⟩ := XE.of_call I1 (W := fun _ _ _ _ => False) (fun _ _ _ z => z) y
    exact z.elim
  | .ok (.ret u), y =>
    obtain ⟨v, H', I3, rv, q3⟩ := I1.after y
    show wpAny _ _ (handedOut u) _ _ _
    rw [PySem.W.handedOut_of (handed_of rv)]
    exact wpAny_pure ⟨v, H', I3, rv, q3⟩
def dProp (c : Str) (S : SpDX) (Te : TD) : TD := fun ρ ω Q => Te ρ ω fun x ω1 => (∃ fds, FsOf c x ω1 fds) ∧ S [x] ω1 Q fun _ _ _ => False
theorem de_propK {K : PySem.W.Frag} (I0 : AmbX K W RX) (cl : Cls X.K (Ers.ad c)) (C : CalP X.prog X.w X.K X.mg X.base k c m S) (hr : Room (k + 1) X.A) (gd : X.A.guards = some []) (he : @DE I0.toAmb X e Te)
    (hab : attributeBase e m X.env (eval e X.env) = eval e X.env := by rfl) (hK : X.K = K := by rfl) : @DE I0.toAmb X (.Attribute e m pos) (dProp c S Te) := by
  subst hK
  obtain ⟨pa, g, fd, hp, F, hb⟩ := C
  refine PE.weak (pe_propGS he cl hp F hr gd hb hab) fun σ H Q ⟨h, ρ, ω, R, sl, w, t, k⟩ => ?_
  refine ⟨h, ρ, ω, _, sl, w, t, fun x ω1 vx H1 ⟨⟨fds, e0⟩, t1⟩ f1 w1 rx => ?_⟩
  obtain ⟨a, dx, fvs, rfl, ha, _⟩ := e0.at_ w1 rx
  exact ⟨a, dx, fvs, rfl, ha, spM0 w1 (.cons rx .nil) t1 (k.go f1)⟩
/-! ### str(o) -/
def rStrM (sp : Sp) (C : Addr) : List V → Hp → VK → Prop := fun xs H Q => ∃ q dx fs, xs = [.ref q] ∧ H q = some (.ins C dx fs) ∧ sp [.ref q] H (fun v H' => ∃ z : Str, v = .str z ∧ Q (.str z) H') fun _ _ _ => False
theorem call_strM {C f : Addr} {fd : FuncData} {sp : Sp} (hs : findIn X.K (.ref C) "__str__" = some (some (.ref f))) (hfn : isFn X.K (.ref f) = true) (F : FnG X.prog X.w X.K X.mg X.base (L2.CX X.prog X.w) k f fd ps sp) (hr : Room (k + 2) X.A) (gd : X.A.guards = some []) (hb : Binds X.K fd ps []) : CallR X (.type "str") (rStrM sp C) := by
  rintro pins s σ H xs us Q I r ⟨q, dx, fs, rfl, e2, z⟩
  match us, r with
  | [_], .cons ru .nil =>
    cases ru
    obtain ⟨mA, O, _⟩ := ins_get I.hok e2
    obtain ⟨od, J, _⟩ := O.look
    have un := hr.in1.in1.units
    refine PySem.W.kso_call (by omega) I.kIn J hs hfn (wpAny_mono (runM (W := fun _ _ _ _ => False) (vs := [.ref q]) F hr.in1.in1 gd I.env0.in1.in1 hb L2.takes0 I (.cons rfl .nil) z) (fun u' s' q => ?_) fun _ _ y => y)
    obtain ⟨v', H', I', r', n, e, q'⟩ := q
    subst e
    obtain ⟨t, rfl⟩ := r'
    exact ⟨.str n, H', I', ⟨_, rfl⟩, q'⟩
def dStrM (c : Str) (S : SpDX) : DOn := fun xs ω R => ∃ x fds, xs = [x] ∧ FsOf c x ω fds ∧ S [x] ω (fun d ω' => ∃ z : Str, d = .str z ∧ R (.str z) ω') fun _ _ _ => False
theorem ok_strM [Amb] {K : PySem.W.Frag} : CallD K (dStrM c S) (rStrM (spUX K S) (Ers.ad c)) := by
  rintro h xs ω R vs H Q ⟨x, fds, rfl, e1, rs⟩ w rp k
  cases rp with
  | cons rx rp =>
    cases rp
    obtain ⟨q, dx, fvs, rfl, hq, _⟩ := e1.at_ w rx
    refine ⟨q, dx, fvs, rfl, hq, spM0 w (.cons rx .nil) rs fun d ω' v H' ⟨n, e, r⟩ f' w' rp => ?_⟩
    subst e
    cases rp
    exact ⟨n, rfl, k _ _ _ _ r f' w' (.str n)⟩
theorem call_strMC (C : CalM X.prog X.w X.K X.mg X.base k c "__str__" ps S) (hr : Room (k + 2) X.A) (gd : X.A.guards = some []) : CallR X (.type "str") (rStrM (spUX X.K S) (Ers.ad c)) := by
  obtain ⟨f, fd, F, hi, hf, _, _, hb⟩ := C
  exact call_strM hi hf F hr gd hb
/-! ### o.m() where the one other parameter is a keyword that is None if it isn't given -/
def CalN (P : Program) (w : World) (K : PySem.W.Frag) (mg : Str → Option Value) (base : Heap) (k : Nat) (c m : Str) (ps : List Str) (S : SpDX) : Prop :=
  ∃ f fd ds, FnG P w K mg base (L2.CX P w) k f fd ps (spUX K S) ∧ findIn K (.ref (Ers.ad c)) m = some (some (.ref f)) ∧ isFn K (.ref f) = true ∧ keepIn K (.ref f) = true ∧ Vals [V.non] ds ∧ Binds K fd ps ds
def MethN (K : PySem.W.Frag) (c m q : Str) (st : Stmt) (x : Str) : Prop := ∃ f fd, findIn K (.ref (Ers.ad c)) m = some (some (.ref f)) ∧ isFn K (.ref f) = true ∧ Fun K m q st f fd ∧ FunD K m q (defArgs st) (defBody st) (defScope st) [] [(x, .non)] f fd
theorem CalN.mk {P : Program} {w : World} {K : PySem.W.Frag} {mg : Str → Option Value} {base : Heap} {k : Nat} {c m q x : Str} {st : Stmt} {N : List Str} {S : SpDX} {T : DXS → TSD} (D : MethN K c m q st x) (sc : FnScope N ["self", x] (defScope st))
    (bi : ∀ (D : Addr) (doc pm : Value) (an : Option Addr) (cdv ct : Value) (us ks : List Value), us.length = 1 → ks.length = 1 →
      KwChain D (([x] : List Str).zip ks) (bindArgs (PySem.W.fnOf m q (defArgs st) (defBody st) (defScope st) .none (.ref D) doc pm an cdv ct) ⟨us, []⟩) ((["self", x] : List Str).zip (us ++ ks)))
    (ar : ∀ ds ω R RX, S ds ω R RX → ds.length = (["self", x] : List Str).length)
    (b : ∀ (f : Addr) (cdv : Value) (A : Around) (fs : List Env) (s : Shared) (hp : Hp) (e : XK) (RX : DXS) [AmbX K (noW e) RX], Room k (A.deeper (PyProof.Rows.envOfC q (defScope st) s.heap.objs.size f cdv)) → A.guards = some [] →
      DSs (cxOf (L2.CX P w) P w K mg base N q (defScope st) f cdv A fs s hp e) (defBody st) (T RX))
    (rd : ∀ ds ω R RX, S ds ω R RX → T (noS RX) { nx := fun _ ω' => R .non ω', rt := R } (startD N ds) ω) : CalN P w K mg base (k + 1) c m ["self", x] S := by
  obtain ⟨f, fd, hf, hi, F, FD⟩ := D
  obtain ⟨ds, rv, hb⟩ := FD.binds0 (ps := ["self", x]) 1 (by simp) rfl fun D doc pm an cdv ct us ks h1 h2 => bi D doc pm an cdv ct us ks h1 h2
  exact ⟨f, fd, ds, FnG.ofX F sc ar (fun cdv A fs s hp e RX I => @b f cdv A fs s hp e RX I) rd, hf, hi, F.kp, rv, hb⟩
theorem methN_of {K : PySem.W.Frag} {c m q x : Str} {st : Stmt} {A f D : Addr} {od an : Option Addr} {sl : Array (Option Value)} {oc dc pm cd ct : Value} (ad : Ers.ad c = A) (a : PySem.W.findIn K (.ref A) m = some (some (.ref f))) (v : PySem.W.isFn K (.ref f) = true)
    (l : K.lookup f = some ⟨oc, od, .func (PySem.W.fnOf m q (defArgs st) (defBody st) (defScope st) .none (.ref D) dc pm an cd ct), sl⟩) (n : PySem.W.nsIn K D x = some (some .none)) (hc : PySem.W.codeIn K cd q = true) (k : PySem.W.keepIn K (.ref f) = true) : MethN K c m q st x :=
  ⟨f, _, by rw [ad]; exact a, v, fun_mk l hc k, ⟨⟨_, _, _, _, _, _, _, _, _, _, rfl, l, hc, .inl ⟨rfl, rfl⟩, .inr ⟨D, rfl, fun p hp => by
    rcases List.mem_singleton.mp hp with rfl
    exact ⟨_, n, rfl⟩⟩⟩, k⟩⟩
/-- o.m() -/
theorem pe_methN {C f : Addr} {fd : FuncData} {sp : Sp} {ta : TE} {pl : Sem Bool} {ds : List Value} (he : PE X o ta) (cl : Cls X.K C) (hm : Meth X.K C m f) (F : FnG X.prog X.w X.K X.mg X.base (L2.CX X.prog X.w) k f fd ps sp) (hr : Room k X.A) (gd : X.A.guards = some []) (hv : Vals [V.non] ds) (hb : Binds X.K fd ps ds) (tk : Takes X W)
    (ht : eval (.Call (.Attribute o m apos) [] [] pos) X.env = (do
      let ov ← eval o X.env
      standAt apos.atName
      let (f, first) ← holding [ov] (getMethod ov m pl)
      callWith pos f first (backTo pos (starEach [] X.env)) (backToKw pos (keywordEach [] X.env)))) :
    PE X (.Call (.Attribute o m apos) [] [] pos) (fun σ H Q => ta σ H fun x H1 => ∃ a dx fs, x = .ref a ∧ H1 a = some (.ins C dx fs) ∧ fs.lookup m = none ∧ sp [.ref a, .non] H1 Q fun c d H3 => W c d σ H3) := by
  refine ⟨fun pins s σ H Q I h => PySem.W.methodCall_KW (pl := pl) (thn (he.run pins s σ H _ I h) fun u s1 ⟨x, H1, I1, rx, a, dx, fs, ex, ea, l, q⟩ => ?_) ht⟩
  subst ex
  cases rx
  refine getmeth_ok I1 ea cl hm l (PySem.W.callWith_K0 (first := [.ref a]) I1.kIn hm.kp ?_)
  have r2 : Vals [V.ref a, V.non] ([Value.ref a] ++ ds) := .cons rfl hv
  have ll : ([Value.ref a] ++ ds).length = ps.length := by rw [← r2.length]; exact F.arity _ _ _ _ q
  refine wpAny_call (codeAny_mono (F.goes X.A X.stack s1 H1 ⟨[.ref a], []⟩ _ [.ref a, .non] Q _ hr gd I1.env0 (hb s1 [.ref a] I1.kIn ll) r2 q) fun res s' y => ?_)
  match res, y with
  | .error er, y => exact tk er s' (XE.of_call I1 (fun _ _ _ y => y) y)
  | .ok (.ret u), y => exact I1.after y
def dMethN (c m : Str) (S : SpDX) (RX : DXS) (To : TD) : TD := fun ρ ω Q => To ρ ω fun x ω1 => (∃ fds, FsOf c x ω1 fds ∧ fds.lookup m = none) ∧ S [x, .non] ω1 Q fun y fs ω3 => RX y fs ρ ω3
theorem de_methNK {K : PySem.W.Frag} (I0 : AmbX K W RX) {pl : Sem Bool} (cl : Cls X.K (Ers.ad c)) (C : CalN X.prog X.w X.K X.mg X.base k c m ps S) (hr : Room k X.A) (gd : X.A.guards = some []) (tk : Takes X W) (ho : @DE I0.toAmb X o To)
    (ht : eval (.Call (.Attribute o m apos) [] [] pos) X.env = (do
      let ov ← eval o X.env
      standAt apos.atName
      let (f, first) ← holding [ov] (getMethod ov m pl)
      callWith pos f first (backTo pos (starEach [] X.env)) (backToKw pos (keywordEach [] X.env))) := by rfl) (hK : X.K = K := by rfl) :
    @DE I0.toAmb X (.Call (.Attribute o m apos) [] [] pos) (dMethN c m S RX To) := by
  subst hK
  obtain ⟨f, fd, ds, F, hi, hfn, hk, hv, hb⟩ := C
  refine PE.weak (pe_methN ho cl ⟨hi, hfn, hk⟩ F hr gd hv hb tk ht) fun σ H Q ⟨h, ρ, ω, R, sl, w, t, k⟩ => ?_
  refine ⟨h, ρ, ω, _, sl, w, t, fun x ω1 vx H1 ⟨⟨fds0, e0, l0⟩, t1⟩ f1 w1 rx => ?_⟩
  obtain ⟨a, dx, fvs, rfl, ha1, rf⟩ := e0.at_ w1 rx
  exact ⟨a, dx, fvs, rfl, ha1, rf.none l0, spM sl w f1 w1 (.cons rx (.cons .non .nil)) t1 (k.go f1)⟩
variable {ρ : Rho} {ω : Om} {Q : DQ}
theorem st_prop (h : Te ρ ω fun x ω1 => (∃ fds, FsOf c x ω1 fds) ∧ S [x] ω1 Q fun _ _ _ => False) : dProp c S Te ρ ω Q := h
theorem st_methN (h : To ρ ω fun x ω1 => (∃ fds, FsOf c x ω1 fds ∧ fds.lookup m = none) ∧ S [x, .non] ω1 Q fun y fs ω3 => RX y fs ρ ω3) : dMethN c m S RX To ρ ω Q := h
theorem st_strM {x : D} {fds : List (Str × D)} (F : FsOf c x ω fds) (h : S [x] ω (fun d ω' => ∃ z : Str, d = .str z ∧ Q (.str z) ω') fun _ _ _ => False) : dStrM c S [x] ω Q := ⟨x, fds, rfl, F, h⟩
end
end DL

/-! XI: hoists as data; reach found by the sorted weights. -/
namespace DL
open PySem PySem.Spec L2 PyProof.Rows PySem.W
/-- the reach, and whether nobody is stuck, by the sorted weights -/
def rcL (e : Int) : Int → List Int → Int × Bool
  | t, [] => (t, true)
  | t, w :: l => if w > e + t then (t, false) else rcL e (t + w) l
/-! ### hoists -/
abbrev towD (e : Int) (ws : List Int) : D := .tup [.int e, .tup (ws.map D.int)]
/-- a hoist's fields -/
def hoF (ts es : List D) : List (Str × D) := [("_towers", .tup ts), ("_edits", .tup es), ("_watched", .bl false)]
/-! edits -/
inductive Ed where
  | come (w : Int) | leave (k : Int) | weigh (k w : Int) | loosen (x : Int)
def Ed.d : Ed → D
  | .come w => .tup [.str "come", .int w]
  | .leave k => .tup [.str "leave", .int k]
  | .weigh k w => .tup [.str "weigh", .int k, .int w]
  | .loosen x => .tup [.str "loosen", .int x]
/-- it can be done -/
def Ed.can (ws : List Int) : Ed → Prop
  | .come w => 1 ≤ w ∧ w ≤ 1000000 ∧ ws.length < 24
  | .leave k => 0 ≤ k ∧ k < ws.length
  | .weigh k w => 0 ≤ k ∧ k < ws.length ∧ 1 ≤ w ∧ w ≤ 1000000
  | .loosen x => 1 ≤ x ∧ x ≤ 1000000
def Ed.e (e : Int) : Ed → Int
  | .loosen x => x
  | _ => e
def Ed.ws (ws : List Int) : Ed → List Int
  | .come w => ws ++ [w]
  | .leave k => ws.take k.toNat ++ ws.drop (k + 1).toNat
  | .weigh k w => ws.take k.toNat ++ w :: ws.drop (k + 1).toNat
  | .loosen _ => ws
/-- towers as they are drawn and edited -/
def TowOk (e : Int) (ws : List Int) : Prop := 1 ≤ e ∧ e ≤ 1000000 ∧ ws.length ≤ 24 ∧ ∀ w ∈ ws, 1 ≤ w ∧ w ≤ 1000000
theorem TowOk.go {e : Int} {ws : List Int} (h : TowOk e ws) : ∀ {d : Ed}, d.can ws → TowOk (d.e e) (d.ws ws)
  | .come w, c => ⟨h.1, h.2.1, by show (ws ++ [w]).length ≤ 24; rw [List.length_append]; exact c.2.2, fun u hu => by
    rcases List.mem_append.mp hu with m | m
    · exact h.2.2.2 u m
    · rw [List.mem_singleton] at m
      rw [m]
      exact ⟨c.1, c.2.1⟩⟩
  | .leave k, c => ⟨h.1, h.2.1, by
      have := h.2.2.1
      show (ws.take k.toNat ++ ws.drop (k + 1).toNat).length ≤ 24
      rw [List.length_append, List.length_take, List.length_drop]
      have c0 : 0 ≤ k := c.1
      omega, fun u hu => by
    rcases List.mem_append.mp hu with m | m
    · exact h.2.2.2 u (List.mem_of_mem_take m)
    · exact h.2.2.2 u (List.mem_of_mem_drop m)⟩
  | .weigh k w, c => ⟨h.1, h.2.1, by
      have := h.2.2.1
      show (ws.take k.toNat ++ w :: ws.drop (k + 1).toNat).length ≤ 24
      rw [List.length_append, List.length_take, List.length_cons, List.length_drop]
      have c0 : 0 ≤ k := c.1
      have c1 : k < ws.length := c.2.1
      omega, fun u hu => by
    rcases List.mem_append.mp hu with m | m
    · exact h.2.2.2 u (List.mem_of_mem_take m)
    · rcases List.mem_cons.mp m with m | m
      · rw [m]
        exact c.2.2
      · exact h.2.2.2 u (List.mem_of_mem_drop m)⟩
  | .loosen x, c => ⟨c.1, c.2, h.2.2⟩
/-- a hoist's text -/
def hoS (n : Nat) (e r : Int) (m : Nat) : Str := Str.empty ++ toString (n : Int) ++ " people, excess " ++ toString e ++ ", reach " ++ toString r ++ ", " ++ toString (m : Int) ++ " edits"
theorem Ed.nice {ws : List Int} (wl : ws.length ≤ 24) : ∀ {d : Ed}, d.can ws → Nice 2 300 d.d
  | .come w, c => nice_tup (k := 0) (n := 60) (all_cons (nice_of (by decide +kernel)) (all_cons (nice_int (m := 30) (by have := c.1; have := c.2.1; omega) (by decide) (by decide) (by decide)) all_nil)) (by decide) (by simp only [List.length_cons, List.length_nil]; decide)
  | .leave k, c => nice_tup (k := 0) (n := 60) (all_cons (nice_of (by decide +kernel)) (all_cons (nice_int (m := 30) (by have h0 : 0 ≤ k := c.1; have h1 : k < ws.length := c.2; omega) (by decide) (by decide) (by decide)) all_nil)) (by decide) (by simp only [List.length_cons, List.length_nil]; decide)
  | .weigh k w, c => nice_tup (k := 0) (n := 60) (all_cons (nice_of (by decide +kernel)) (all_cons (nice_int (m := 30) (by have h0 : 0 ≤ k := c.1; have h1 : k < ws.length := c.2.1; omega) (by decide) (by decide) (by decide)) (all_cons (nice_int (m := 30) (by have h0 : 1 ≤ w := c.2.2.1; have h1 : w ≤ 1000000 := c.2.2.2; omega) (by decide) (by decide) (by decide)) all_nil))) (by decide) (by simp only [List.length_cons, List.length_nil]; decide)
  | .loosen x, c => nice_tup (k := 0) (n := 60) (all_cons (nice_of (by decide +kernel)) (all_cons (nice_int (m := 30) (by have h0 : 1 ≤ x := c.1; have h1 : x ≤ 1000000 := c.2; omega) (by decide) (by decide) (by decide)) all_nil)) (by decide) (by simp only [List.length_cons, List.length_nil]; decide)
theorem logI {i : Int} (h : i.natAbs < 2 ^ 30) : i.natAbs.log2 < 1920 := by
  have := PySem.Flt.log2_lt_of (n := i.natAbs) (by decide) h
  omega
theorem lenI {i : Int} (h : i.natAbs < 2 ^ 30) : ((toString i : String) : Str).length ≤ 31 := by
  have l := PySem.Flt.log2_lt_of (n := i.natAbs) (by decide) h
  have e := int_text_length_le (k := 30) (by decide) l
  rw [PySem.ofString_length]
  omega
variable [Ers]
theorem hoF_0 {t : D} : dput "_watched" (.bl false) (dput "_edits" (.tup []) (dput "_towers" (.tup [t]) [])) = hoF [t] [] := by
  show dput "_watched" _ (dput "_edits" _ [("_towers", .tup [t])]) = _
  rw [dput_ne (by decide)]
  show dput "_watched" _ [("_towers", _), ("_edits", .tup [])] = _
  rw [dput_ne (by decide), dput_ne (by decide)]
  rfl
theorem size100 {n : Nat} (h : n ≤ 101) : n ≤ PySem.sizeLine := Nat.le_trans h (by decide)
theorem atI_last' {xs : List D} {x : D} : L2.atI (xs ++ [x]) (-1) = some x := atI_last
end DL

/-! XJ: raise C() without arguments. -/
namespace DL
open PySem PySem.Spec L2 PyProof.Rows PySem.W
section
variable {X : Cx} {p pos : Pos} {x : Str}
end
variable [Ers]
abbrev veT : List Value := [.type "ValueError", .type "Exception", .type "BaseException", .type "object"]
/-- what a raise of x() leans on -/
structure Err0 (K : PySem.W.Frag) (mg : Str → Option Value) (x : Str) : Prop where
  ex : excIn K (Ers.ad x) veT "ValueError.__new__" = true
  gm : mg x = some (.ref (Ers.ad x))
  kp : keepIn K (.ref (Ers.ad x)) = true
  sb : subIn K (.ref (Ers.ad x)) (.type "BaseException") = some true
  ty : typeIn K (.ref (Ers.ad x)) = some (.type "type")
def dRaise0 (x : Str) (RX : DXS) : TSD := fun _ ρ ω => RX x none ρ ω
variable {ρ : Rho} {ω : Om} {D : DEnds} {x : Str} {RX : DXS}
theorem st_raise0 (h : RX x none ρ ω) : dRaise0 x RX D ρ ω := h
end DL

/-! XM: o.m(e, .., x=e), where x is the one keyword-only parameter, None if it isn't given. -/
namespace DL
open PySem PySem.Spec L2 PyProof.Rows PySem.W
variable [Ers]
def KwB (fd : FuncData) (ps : List Str) (x : Str) : Prop := ∀ (s : Shared) (us : List Value) (v : Value), us.length = ps.length → BindsTo s fd ⟨us, [(x, v)]⟩ ((ps ++ [x]).zip (us ++ [v]))
def CalN2 (P : Program) (w : World) (K : PySem.W.Frag) (mg : Str → Option Value) (base : Heap) (k : Nat) (c m : Str) (ps : List Str) (x : Str) (S : SpDX) : Prop :=
  ∃ f fd ds, FnG P w K mg base (L2.CX P w) k f fd (ps ++ [x]) (spUX K S) ∧ findIn K (.ref (Ers.ad c)) m = some (some (.ref f)) ∧ isFn K (.ref f) = true ∧ keepIn K (.ref f) = true ∧ Vals [V.non] ds ∧ Binds K fd (ps ++ [x]) ds ∧ KwB fd ps x
theorem CalN2.n {P : Program} {w : World} {K : PySem.W.Frag} {mg : Str → Option Value} {base : Heap} {k : Nat} {c m : Str} {ps : List Str} {x : Str} {S : SpDX} (C : CalN2 P w K mg base k c m ps x S) : CalN P w K mg base k c m (ps ++ [x]) S := by
  obtain ⟨f, fd, ds, F, hi, hf, hk, hv, hb, _⟩ := C
  exact ⟨f, fd, ds, F, hi, hf, hk, hv, hb⟩
theorem CalN2.mk {P : Program} {w : World} {K : PySem.W.Frag} {mg : Str → Option Value} {base : Heap} {k : Nat} {c m q x : Str} {st : Stmt} {N ps : List Str} {S : SpDX} {T : DXS → TSD} (D : MethN K c m q st x) (sc : FnScope N (ps ++ [x]) (defScope st))
    (bi : ∀ (D : Addr) (doc pm : Value) (an : Option Addr) (cdv ct : Value) (us ks : List Value), us.length = ps.length → ks.length = 1 →
      KwChain D (([x] : List Str).zip ks) (bindArgs (PySem.W.fnOf m q (defArgs st) (defBody st) (defScope st) .none (.ref D) doc pm an cdv ct) ⟨us, []⟩) ((ps ++ [x]).zip (us ++ ks)))
    (bk : ∀ (kV doc pm : Value) (an : Option Addr) (cdv ct : Value) (us : List Value) (v : Value), us.length = ps.length →
      bindArgs (PySem.W.fnOf m q (defArgs st) (defBody st) (defScope st) .none kV doc pm an cdv ct) ⟨us, [(x, v)]⟩ = pure ((ps ++ [x]).zip (us ++ [v])))
    (ar : ∀ ds ω R RX, S ds ω R RX → ds.length = (ps ++ [x]).length)
    (b : ∀ (f : Addr) (cdv : Value) (A : Around) (fs : List Env) (s : Shared) (hp : Hp) (e : XK) (RX : DXS) [AmbX K (noW e) RX], Room k (A.deeper (PyProof.Rows.envOfC q (defScope st) s.heap.objs.size f cdv)) → A.guards = some [] →
      DSs (cxOf (L2.CX P w) P w K mg base N q (defScope st) f cdv A fs s hp e) (defBody st) (T RX))
    (rd : ∀ ds ω R RX, S ds ω R RX → T (noS RX) { nx := fun _ ω' => R .non ω', rt := R } (startD N ds) ω) : CalN2 P w K mg base (k + 1) c m ps x S := by
  obtain ⟨f, fd, hf, hi, F, FD⟩ := D
  obtain ⟨ds, rv, hb⟩ := FD.binds0 (ps := ps ++ [x]) ps.length (by simp) (by simp) fun D doc pm an cdv ct us ks h1 h2 => bi D doc pm an cdv ct us ks h1 h2
  refine ⟨f, fd, ds, FnG.ofX F sc ar (fun cdv A fs s hp e RX I => @b f cdv A fs s hp e RX I) rd, hf, hi, F.kp, rv, hb, fun s us v hl => ?_⟩
  obtain ⟨oc, od, kV, doc, pm, an, cdv, ct, osl, rfl, _⟩ := F.ex
  exact .of_eq (bk kV doc pm an cdv ct us v hl)
section
variable {X : Cx} {W : WX} {RX : DXS} {c m x : Str} {o e ke : Expr} {es : List Expr} {To Te : TD} {T : TAD} {S : SpDX} {ps : List Str} {k : Nat} {apos pos kp : Pos}
theorem runKw {f : Addr} {fd : FuncData} {sp : Sp} {pins : List (Addr × Obj)} {σ : L2.St} {H : Hp} {s : Shared} {Q : VK} {us : List Value} {vs : List V} {u : Value} {v : V} (F : FnG X.prog X.w X.K X.mg X.base (L2.CX X.prog X.w) k f fd (ps ++ [x]) sp) (hr : Room k X.A) (gd : X.A.guards = some []) (kb : KwB fd ps x) (tk : Takes X W)
    (I : Inv X pins σ H s) (r : Vals vs us) (rv : L2.RelV v u) (h : sp (vs ++ [v]) H Q fun c d H2 => W c d σ H2) : wpAny (model X.prog X.w) X.A (PySem.call (.ref f) us [(x, u)]) (EP X pins σ Q) X.xe s := by
  have r2 : Vals (vs ++ [v]) (us ++ [u]) := r.append (.cons rv .nil)
  have ll : (us ++ [u]).length = (ps ++ [x]).length := by rw [← r2.length]; exact F.arity _ _ _ _ h
  have l1 : us.length = ps.length := by simpa using ll
  refine wpAny_call (codeAny_mono (F.goes X.A X.stack s H ⟨us, [(x, u)]⟩ _ (vs ++ [v]) Q _ hr gd I.env0 (kb s us u l1) r2 h) fun res s' y => ?_)
  match res, y with
  | .error er, y => exact tk er s' (XE.of_call I (fun _ _ _ y => y) y)
  | .ok (.ret u), y => exact I.after y
theorem pe_methKw {C f : Addr} {fd : FuncData} {sp : Sp} {ta te : TE} {t : TA} {pl : Sem Bool} (he : PE X o ta) (cl : Cls X.K C) (hm : Meth X.K C m f) (F : FnG X.prog X.w X.K X.mg X.base (L2.CX X.prog X.w) k f fd (ps ++ [x]) sp) (hr : Room k X.A) (gd : X.A.guards = some []) (kb : KwB fd ps x) (tk : Takes X W) (ha : PA X (e :: es) t) (hk : PE X ke te)
    (hst : starEach (e :: es) X.env = (false, eval e X.env) :: starEach es X.env) (hpl : (((backTo pos (starEach (e :: es) X.env)).any (·.1)) || (backToKw pos (keywordEach [⟨some x, ke, kp⟩] X.env)).any (·.1.isNone)) = false)
    (hks : ((backToKw pos (keywordEach [⟨some x, ke, kp⟩] X.env)).all (·.1.isSome)) = true) (hkn : (backToKw pos (keywordEach [⟨some x, ke, kp⟩] X.env)).filterMap (·.1) = [x])
    (ht : eval (.Call (.Attribute o m apos) (e :: es) [⟨some x, ke, kp⟩] pos) X.env = (do
      let ov ← eval o X.env
      standAt apos.atName
      let (f, first) ← holding [ov] (getMethod ov m pl)
      callWith pos f first (backTo pos (starEach (e :: es) X.env)) (backToKw pos (keywordEach [⟨some x, ke, kp⟩] X.env)))) :
    PE X (.Call (.Attribute o m apos) (e :: es) [⟨some x, ke, kp⟩] pos) (fun σ H Q => ta σ H fun ov H1 => ∃ a dx fs, ov = .ref a ∧ H1 a = some (.ins C dx fs) ∧ fs.lookup m = none ∧ t σ H1 fun vs H2 => te σ H2 fun y H3 => sp (.ref a :: vs ++ [y]) H3 Q fun c d H4 => W c d σ H4) := by
  refine ⟨fun pins s σ H Q I h => ?_⟩
  refine PySem.W.methodCall_KW (pl := pl) (thn (he.run pins s σ H _ I h) fun u s1 ⟨x, H1, I1, rx, a, dx, fs, ex, ea, l, q⟩ => ?_) ht
  subst ex
  obtain rfl : u = Value.ref a := rx
  refine getmeth_ok I1 ea cl hm l ?_
  refine PySem.W.callWith_KW (first := [.ref a]) (h₀ := X.base) I.ok.mod.kin hm.kp hks (thn (ha.run pos pins s1 σ H1 _ I1 q) fun us s2 ⟨vs, H2, I2, r, q2⟩ => ?_) hpl hst
  refine PyProof.Rows.kws_cons (thn (hk.run pins s2 σ H2 _ I2 q2) fun u s3 ⟨y, H3, I3, ry, q3⟩ => PyProof.Rows.kws_nil ?_)
  refine ⟨I3.kIn, ?_⟩
  rw [hkn]
  exact runKw (us := .ref a :: us) (vs := .ref a :: vs) F hr gd kb tk I3 (.cons rfl r) ry q3
theorem pe_methKw0 {C f : Addr} {fd : FuncData} {sp : Sp} {ta te : TE} {pl : Sem Bool} (he : PE X o ta) (cl : Cls X.K C) (hm : Meth X.K C m f) (F : FnG X.prog X.w X.K X.mg X.base (L2.CX X.prog X.w) k f fd (ps ++ [x]) sp) (hr : Room k X.A) (gd : X.A.guards = some []) (kb : KwB fd ps x) (tk : Takes X W) (hk : PE X ke te)
    (hpl : (((backTo pos (starEach [] X.env)).any (·.1)) || (backToKw pos (keywordEach [⟨some x, ke, kp⟩] X.env)).any (·.1.isNone)) = false)
    (hks : ((backToKw pos (keywordEach [⟨some x, ke, kp⟩] X.env)).all (·.1.isSome)) = true) (hkn : (backToKw pos (keywordEach [⟨some x, ke, kp⟩] X.env)).filterMap (·.1) = [x])
    (ht : eval (.Call (.Attribute o m apos) [] [⟨some x, ke, kp⟩] pos) X.env = (do
      let ov ← eval o X.env
      standAt apos.atName
      let (f, first) ← holding [ov] (getMethod ov m pl)
      callWith pos f first (backTo pos (starEach [] X.env)) (backToKw pos (keywordEach [⟨some x, ke, kp⟩] X.env)))) :
    PE X (.Call (.Attribute o m apos) [] [⟨some x, ke, kp⟩] pos) (fun σ H Q => ta σ H fun ov H1 => ∃ a dx fs, ov = .ref a ∧ H1 a = some (.ins C dx fs) ∧ fs.lookup m = none ∧ te σ H1 fun y H3 => sp ([.ref a] ++ [y]) H3 Q fun c d H4 => W c d σ H4) := by
  refine ⟨fun pins s σ H Q I h => ?_⟩
  refine PySem.W.methodCall_KW (pl := pl) (thn (he.run pins s σ H _ I h) fun u s1 ⟨x, H1, I1, rx, a, dx, fs, ex, ea, l, q⟩ => ?_) ht
  subst ex
  obtain rfl : u = Value.ref a := rx
  refine getmeth_ok I1 ea cl hm l ?_
  refine PySem.W.callWith_KW0 (first := [.ref a]) (h₀ := X.base) I.ok.mod.kin hm.kp hks ?_ hpl
  refine PyProof.Rows.kws_cons (thn (hk.run pins s1 σ H1 _ I1 q) fun u s3 ⟨y, H3, I3, ry, q3⟩ => PyProof.Rows.kws_nil ?_)
  refine ⟨I3.kIn, ?_⟩
  rw [hkn]
  exact runKw (us := [.ref a]) (vs := [.ref a]) F hr gd kb tk I3 (.cons rfl .nil) ry q3
/-- o.m(e, .., x=ke) -/
def dMethKw (c m : Str) (S : SpDX) (RX : DXS) (To : TD) (T : TAD) (Te : TD) : TD := fun ρ ω Q => To ρ ω fun ov ω1 => (∃ fds, FsOf c ov ω1 fds ∧ fds.lookup m = none) ∧ T ρ ω1 fun xs ω2 => Te ρ ω2 fun y ω3 => S (ov :: xs ++ [y]) ω3 Q fun y fs ω4 => RX y fs ρ ω4
theorem de_methKw0K {K : PySem.W.Frag} (I0 : AmbX K W RX) {pl : Sem Bool} (cl : Cls X.K (Ers.ad c)) (C : CalN2 X.prog X.w X.K X.mg X.base k c m ps x S) (hr : Room k X.A) (gd : X.A.guards = some []) (tk : Takes X W) (ho : @DE I0.toAmb X o To) (hk : @DE I0.toAmb X ke Te)
    (hpl : (((backTo pos (starEach [] X.env)).any (·.1)) || (backToKw pos (keywordEach [⟨some x, ke, kp⟩] X.env)).any (·.1.isNone)) = false := by rfl)
    (hks : ((backToKw pos (keywordEach [⟨some x, ke, kp⟩] X.env)).all (·.1.isSome)) = true := by rfl) (hkn : (backToKw pos (keywordEach [⟨some x, ke, kp⟩] X.env)).filterMap (·.1) = [x] := by rfl)
    (ht : eval (.Call (.Attribute o m apos) [] [⟨some x, ke, kp⟩] pos) X.env = (do
      let ov ← eval o X.env
      standAt apos.atName
      let (f, first) ← holding [ov] (getMethod ov m pl)
      callWith pos f first (backTo pos (starEach [] X.env)) (backToKw pos (keywordEach [⟨some x, ke, kp⟩] X.env))) := by rfl) (hK : X.K = K := by rfl) :
    @DE I0.toAmb X (.Call (.Attribute o m apos) [] [⟨some x, ke, kp⟩] pos) (dMethKw c m S RX To dNil Te) := by
  subst hK
  obtain ⟨f, fd, ds, F, hi, hfn, hkp, hv, hb, kb⟩ := C
  refine PE.weak (pe_methKw0 ho cl ⟨hi, hfn, hkp⟩ F hr gd kb tk hk hpl hks hkn ht) fun σ H Q ⟨h, ρ, ω, R, sl, w, t, k⟩ => ?_
  refine ⟨h, ρ, ω, _, sl, w, t, fun x ω1 vx H1 ⟨⟨fds0, e0, l0⟩, t1⟩ f1 w1 rx => ?_⟩
  obtain ⟨a, dx, fvs, rfl, ha1, rf⟩ := e0.at_ w1 rx
  refine ⟨a, dx, fvs, rfl, ha1, rf.none l0, h, ρ, ω1, _, sl.keep f1.kp, w1, t1, fun y ω3 vy H3 t3 f3 w3 ry => ?_⟩
  exact spM sl w (f1.trans f3) w3 (.cons (rx.keep f3.kp) (.cons ry .nil)) t3 (k.go (f1.trans f3))
variable {ρ : Rho} {ω : Om} {Q : DQ}
theorem st_methKw (h : To ρ ω fun ov ω1 => (∃ fds, FsOf c ov ω1 fds ∧ fds.lookup m = none) ∧ T ρ ω1 fun xs ω2 => Te ρ ω2 fun y ω3 => S (ov :: xs ++ [y]) ω3 Q fun y fs ω4 => RX y fs ρ ω4) : dMethKw c m S RX To T Te ρ ω Q := h
end
end DL

/-! XN: xs.pop(), xs owned. -/
namespace DL
open PySem PySem.Spec L2 PyProof.Rows PySem.W
section
variable [Ers] {X : Cx} {a : Expr} {Ta : TD}
def dPop0 (Ta : TD) : TD := fun ρ ω Q => Ta ρ ω fun x ω1 => ∃ p xs d, x = .raw (.ref p) ∧ ω1 p = some (.lst (xs ++ [d])) ∧ Q d (oset ω1 p (.lst xs))
variable {ρ : Rho} {ω : Om} {Q : DQ}
theorem st_pop0 (h : Ta ρ ω fun x ω1 => ∃ p xs d, x = .raw (.ref p) ∧ ω1 p = some (.lst (xs ++ [d])) ∧ Q d (oset ω1 p (.lst xs))) : dPop0 Ta ρ ω Q := h
theorem nice_tow {e : Int} {ws : List Int} (h : TowOk e ws) : Nice 2 5000 (towD e ws) := by
  obtain ⟨e0, e1, wl, hw⟩ := h
  have nws : Nice 1 2000 (.tup (ws.map D.int)) := nice_tup (k := 0) (n := 60) (all_ints fun n h => nice_int (m := 30) (by have := hw n h; omega) (by decide) (by decide) (by decide)) (by decide) (by rw [List.length_map]; omega)
  exact nice_tup (k := 1) (n := 2000) (all_cons (nice_int (m := 30) (by omega) (by decide) (by decide) (by decide)) (all_cons nws all_nil)) (by decide) (by show 2 * 2002 + 3 ≤ 5000; decide)
theorem st_gone {i : Nat} {E : DEnds} {ρ : Rho} {ω : Om} (h : E.nx (ρ.set i none) ω) : (dGone i E).nx ρ ω := h
/-- what is after a statement is read once, from what holds there -/
theorem st_seqM {A B : TSD} {D : DEnds} {ρ : Rho} {ω : Om} (M : Rho → Om → Prop) (h1 : ∀ N : Rho → Om → Prop, (∀ ρ ω, M ρ ω → N ρ ω) → A { D with nx := N } ρ ω) (h2 : ∀ ρ ω, M ρ ω → B D ρ ω) : dSeq A B D ρ ω := h1 _ h2
theorem cut_but {α : Type} {xs : List α} {x : α} : cutD (xs ++ [x]) none (some (-1)) = xs := by
  unfold cutD
  have e : HT.sIx (xs ++ [x]).length (xs ++ [x]).length (some (-1)) = xs.length := by
    unfold HT.sIx
    simp
    omega
  rw [e, HT.sIx_none, List.drop_zero, Nat.sub_zero, List.take_left]
end
end DL

/-! XF: several except clauses, each with a name. -/
namespace DL
open PySem PySem.Spec L2 PyProof.Rows PySem.W
abbrev Clause := Value × Nat × (Addr → Value → Option Addr → TS)
def wAsL (K : PySem.W.Frag) (Wout : WX) (D : Ends) (l : List Clause) : WX := l.foldr (fun q W => wAs K q.1 q.2.1 q.2.2 W D) Wout
inductive Clauses (X : Cx) : List ExceptHandler → List Clause → Prop
  | nil : Clauses X [] []
  | cons {x n : Str} {c : Value} {i : Nat} {ts : Addr → Value → Option Addr → TS} {b₀ : Stmt} {su : List Stmt} {p p' : Pos} {hs : List ExceptHandler} {l : List Clause} (nm : Names X x c) (at_ : X.N[i]? = some n) (lo : X.env.kindOf n = some .local)
      (run : ∀ (a : Addr) (oe : Obj) (cls : Value) (d : Option Addr) (pn : List (Addr × Obj)), Zc cls d oe → (∃ vs, oe.data = .fields vs) → PSs (X.suite a ((a, oe) :: pn)) (b₀ :: su) (ts a cls d)) (r : Clauses X hs l) :
      Clauses X (.ExceptHandler (some (.Name x p)) (some n) (b₀ :: su) p' :: hs) ((c, i, ts) :: l)
section
variable {X : Cx} {body : List Stmt} {hd : ExceptHandler} {hds : List ExceptHandler} {l : List Clause} {pos : Pos} {tb : WX → TS} {Wout : WX}
/-- one clause: it holds or the next ones are asked -/
theorem clauses_go {pins : List (Addr × Obj)} {D : Ends} {s' : Shared} {a : Addr} {B : Heap} {sI : Shared} {σ' : L2.St} {H' : Hp} {cls : Value} {d : Option Addr} {h3 : Heap} (hs : X.stack = X.env :: X.outer) (hf : X.env.frame = some X.env.locals) (hN : X.N.Nodup) (ok : Cx.Ok X) (tk : Takes X Wout)
    (J : Inv X pins σ' H' sI) (nb : ∀ b o, sI.heap.get? b = some o → ¬b ∈ frs X.stack → B.get? b = some o) (up : sI.heap.UpToSlots s'.heap) (up3 : s'.heap.UpToSlots h3) (na : H' a = none) (os : s'.os = sI.os) (ag : AllBare s'.gens)
    (nL : a ≠ X.env.locals) (nF : a ∉ X.fs) (fl3 : HandSPX.FlyingZ B (X.env :: X.outer) a (Zc cls d) h3) {hds : List ExceptHandler} {l : List Clause} (hk : Clauses X hds l) : wAsL X.K Wout D l cls d σ' H' →
    wpAny (model X.prog X.w) X.A (handleBy (.ref a) X.env hds) (SP X pins D) X.xe { s' with heap := h3 } := by
  have settled : ∀ {h : Heap}, HandSPX.FlyingZ B (X.env :: X.outer) a (Zc cls d) h → s'.heap.UpToSlots h → Inv X pins σ' H' { s' with heap := h } := fun fl u => J.landed nb fl.1 (up.trans u) os ag
  induction hk with
  | nil =>
    intro w
    refine wpAny_handleBy_nil ?_
    obtain ⟨_, _, _, oe, vs, T, oT, ts', he, hz, hd', h1, hr⟩ := id fl3
    unfold PySem.passOn
    refine wpAny_bind (wpAny_field he hd' h1 ?_)
    rw [if_neg (show ¬ ((Value.ref T == Value.none) = true) from by simp)]
    have leave : wpAny (model X.prog X.w) X.A (setFlight (.ref a) X.env.frame) (fun _ s4 => wpAny (model X.prog X.w) X.A (throw (.ref a) : Sem Flow) (SP X pins D) X.xe s4) X.xe { s' with heap := h3 } := by
      rw [hf]
      exact HandSPX.setFlight_upZ fl3 fun h4 hh4 up4 => wpAny_throw (tk _ _ ⟨a, B, sI, pins, σ', H', cls, d, rfl, J, nb, (up.trans up3).trans up4, .inr (.inr (by rw [hs]; exact hh4)), na, os, ag, w⟩)
    first
      | exact wpAny_bind (wpAny_pure (wpAny_bind leave))
      | exact wpAny_bind leave
  | @cons x n c i ts b₀ su p p' hs2 l2 nm at_ lo run r ih =>
    rintro ⟨b, hb, yes, no⟩
    obtain ⟨oe3, vs3, he3, hz3, hd3⟩ := fl3.there
    have J3 := settled fl3 up3
    have S3 := J3.suite he3 hd3 na nL nF
    refine wpAny_handleBy_cons (codeAny_handlers_test ?_) (by intro q; cases q)
    have ty : PySem.W.Looks (model X.prog X.w) h3 (typeOf (.ref a)) cls := fun A Q E s k q => wpAny_typeOf_ref (k _ _ he3) (by rw [hz3.1]; exact q)
    have asked := PySem.W.exm_one (M := model X.prog X.w) J3.kIn ty hb
    have named : ∀ {Q : Value → Shared → Prop} {E : Value → Shared → Prop}, Q c { s' with heap := h3 } → wpAny (model X.prog X.w) (X.A.mark (some (.ref a))) (eval (.Name x p) X.env) Q E { s' with heap := h3 } := fun {Q E} q => by
      obtain ⟨hg, hdb, hm | ⟨hm, hv, hnn⟩⟩ := nm
      · exact ld_glob (X := X.suite a ((a, oe3) :: (X.pn ++ pins))) S3 hg hm q hdb
      · exact ld_blt (X := X.suite a ((a, oe3) :: (X.pn ++ pins))) S3 hg hm hv q hnn hdb
    refine named (asked.here ?_)
    cases b with
    | false =>
      show wpAny _ X.A (handleBy (.ref a) X.env hs2) _ _ _
      exact ih (no rfl)
    | true =>
      refine codeAny_handlers_suite_as ?_
      refine HandSPX.lands_againZ fl3 fun h4 fl4 up4 => ?_
      obtain ⟨oe4, vs4, he4, hz4, hd4⟩ := fl4.there
      have S4 := (settled fl4 (up3.trans up4)).suite he4 hd4 na nL nF
      refine store_ok (X := X.suite a ((a, oe4) :: (X.pn ++ pins))) (v := .ref a) S4 hN at_ (.inl lo) rfl (fun s5 S5 => ?_) (.inr lo)
      refine wpAny_mono ((run a oe4 cls d (X.pn ++ pins) hz4 ⟨_, hd4⟩).run [] s5 _ H' _ S5 (yes rfl a na)) (fun f s6 o => ?_) (fun _ _ z => False.elim z)
      have gone : ∀ {σ6 : L2.St} {H6 : Hp} {Q : Shared → Prop}, Inv (X.suite a ((a, oe4) :: (X.pn ++ pins))) [] σ6 H6 s6 → (∀ s7, Inv X pins (σ6.set i none) H6 s7 → Q s7) →
          wpAny (model X.prog X.w) X.A (do bindName X.env n .none; unbindBehindTheSuite X.env n p') (fun _ s7 => Q s7) X.xe s6 := fun {σ6 H6 Q} S6 hq => gone_ok (S6.unsuite ok) hN at_ lo hq
      cases f with
      | ret u => obtain ⟨v6, σ6, H6, S6, r6, q6⟩ := o; exact gone S6 fun s7 J7 => ⟨_, _, _, J7, r6, q6⟩
      | _ => obtain ⟨σ6, H6, S6, q6⟩ := o; exact gone S6 fun s7 J7 => ⟨_, _, J7, q6⟩
end
variable [Ers]
abbrev DClause := Str × Nat × (Str → Addr → Option Addr → TSD)
/-- the errors of a try's body, and several clauses -/
def dCatchL (prs : List (Str × Str)) (RXo : DXS) (E : DEnds) (l : List DClause) : DXS := l.foldr (fun q RX => dCatch prs q.1 q.2.1 q.2.2 RX E) RXo
def dTryL (prs : List (Str × Str)) (l : List DClause) (Tb : DXS → TSD) (RXo : DXS) : TSD := fun E ρ ω => Tb (dCatchL prs RXo E l) E ρ ω
inductive DCl [Amb] (X : Cx) (prs : List (Str × Str)) : List ExceptHandler → List DClause → Prop
  | nil : DCl X prs [] []
  | cons {x n c : Str} {i : Nat} {Ts : Str → Addr → Option Addr → TSD} {b₀ : Stmt} {su : List Stmt} {p p' : Pos} {hs : List ExceptHandler} {l : List DClause} (at_ : X.N[i]? = some n) (lo : X.env.kindOf n = some .local) (nm : Names X x (clsU c))
      (run : ∀ (y : Str) (a : Addr) (oe : Obj) (d : Option Addr) (pn : List (Addr × Obj)), (y, c) ∈ prs → Zc (.ref (Ers.ad y)) d oe → (∃ vs, oe.data = .fields vs) → DSs (X.suite a ((a, oe) :: pn)) (b₀ :: su) (Ts y a d)) (r : DCl X prs hs l) :
      DCl X prs (.ExceptHandler (some (.Name x p)) (some n) (b₀ :: su) p' :: hs) ((c, i, Ts) :: l)
abbrev clOf [Amb] (K : PySem.W.Frag) (prs : List (Str × Str)) (q : DClause) : Clause := (clsU q.1, q.2.1, tsOf K prs q.1 q.2.2)
theorem DCl.cl [Amb] {X : Cx} {prs : List (Str × Str)} {hs : List ExceptHandler} {l : List DClause} (k : DCl X prs hs l) : Clauses X hs (l.map (clOf X.K prs)) := by
  induction k with
  | nil => exact .nil
  | cons at_ lo nm run r ih => exact .cons nm at_ lo (fun a oe cls d pn z hf => ⟨fun pins s σ H D J ⟨y, e, m, u⟩ => by subst e; exact (run y a oe d pn m z hf).run pins s σ H D J u⟩) ih
section
variable {K : PySem.W.Frag} {h : Fp} {H : Hp} {ω : Om} {prs : List (Str × Str)} {fls : List Str} {RXo : DXS} {Wout : WX}
end
section
variable {prs : List (Str × Str)} {c x : Str} {i : Nat} {Tb : DXS → TSD} {Ts : Str → Addr → Option Addr → TSD} {RXo : DXS} {E : DEnds} {ρ : Rho} {ω : Om} {l : List DClause} {fs : XF}
/-- it is not this clause's -/
theorem st_else (m : (x, c) ∈ prs) (hb : subB x c = false) (h : dCatchL prs RXo E l x fs ρ ω) : dCatchL prs RXo E ((c, i, Ts) :: l) x fs ρ ω := ⟨m, (fun z => by rw [hb] at z; cases z), fun _ => h⟩
/-- it is this clause's -/
theorem st_this (h : dCatch prs c i Ts (dCatchL prs RXo E l) E x fs ρ ω) : dCatchL prs RXo E ((c, i, Ts) :: l) x fs ρ ω := h
end
end DL

/-! XY: tuple * 1 and tuple * 0 -/
namespace DL
open PySem PySem.Spec L2 PyProof.Rows
def rRep1 (K : PySem.W.Frag) : R2 := fun x y H Q => ∃ l xs, x = .ref l ∧ y = .int 1 ∧ SqT K H l xs ∧ Q (.ref l) H
def rRep0 (K : PySem.W.Frag) : R2 := fun x y H Q => ∃ l xs, x = .ref l ∧ y = .int 0 ∧ SqT K H l xs ∧ xs ≠ [] ∧ ∀ p, H p = none → Q (.ref p) (upd H p (.tup []))
section
variable {X : Cx}
end
/-- tuple * n, n not below 0 -/
def dMulN : DO2 := fun x y ω Q => ∃ (xs : List D) (k : Int), x = .tup xs ∧ y = .int k ∧ xs ≠ [] ∧ 0 ≤ k ∧ k ≤ 1000 ∧ xs.length ≤ 1000 ∧ Q (.tup (List.replicate k.toNat xs).flatten) ω
variable {ω : Om} {Q : DQ} {xs : List D} {k : Int}
end DL

/-! XZ: range(a, b, c). -/
namespace DL
open PySem PySem.Spec L2 PyProof.Rows
section
variable {X : Cx} {tg a b c : Expr} {p pos : Pos} {T : TAD} {K : PySem.W.Frag} {h : Fp} {H : Hp} {ω : Om}
def rngC (lo c : Int) (n : Nat) : List D := (List.range n).map fun i => D.int (lo + (i : Nat) * c)
def dRng3 (T : TAD) : TID := fun ρ ω Q => T ρ ω fun xs ω1 => ∃ (i j c : Int) (n : Nat), xs = [.int i, .int j, .int c] ∧ RgC i j c n ∧ Q (rngC i c n) (fun _ => True) ω1
variable {ρ : Rho} {QI : List D → (Om → Prop) → Om → Prop}
theorem st_rng3 (h : T ρ ω fun xs ω1 => ∃ (i j c : Int) (n : Nat), xs = [.int i, .int j, .int c] ∧ RgC i j c n ∧ QI (rngC i c n) (fun _ => True) ω1) : dRng3 T ρ ω QI := h
end
/-- an edit that can't be done, and its error -/
inductive Bad (ws : List Int) : D → Str → XF → Prop
  | come {v : D} (b : numB v 1 1000000 = false) (ok : v.ok = true) : Bad ws (.tup [.str "come", v]) "BadWeight" (some [("value", v)])
  | full {w : Int} (a : 1 ≤ w) (b : w ≤ 1000000) (c : ws.length = 24) : Bad ws (.tup [.str "come", .int w]) "TooManyPeople" none
  | leave {v : D} (b : numB v 0 ((ws.length : Int) - 1) = false) (ok : v.ok = true) : Bad ws (.tup [.str "leave", v]) "NoPerson" (some [("value", v)])
  | weigh1 {v u : D} (b : numB v 0 ((ws.length : Int) - 1) = false) (ok : v.ok = true) (ok2 : u.ok = true) : Bad ws (.tup [.str "weigh", v, u]) "NoPerson" (some [("value", v)])
  | weigh2 {k : Int} {u : D} (a : 0 ≤ k) (c : k < ws.length) (b : numB u 1 1000000 = false) (ok : u.ok = true) : Bad ws (.tup [.str "weigh", .int k, u]) "BadWeight" (some [("value", u)])
  | loosen {v : D} (b : numB v 1 1000000 = false) (ok : v.ok = true) : Bad ws (.tup [.str "loosen", v]) "BadExcess" (some [("value", v)])
/-- the error that is due, as a list -/
def dueL (c : Str) (fs : XF) : List D := match fs with
  | some [(_, v)] => if c = "NoPerson" then [.str "person", .str v.py.shown] else if c = "BadWeight" then [.int 0, .str v.py.shown] else [.int 1, .str v.py.shown]
  | _ => [.int 2]
/-- a value that can be written, and its text laid -/
def OddV (v : D) : Prop := Nice 3 200 v ∧ PyData.strOk v.py.shown = true
def NiceF (fs : XF) : Prop := ∀ l, fs = some l → ∀ q ∈ l, OddV q.2
/-- an edit by its form, with values of any kind -/
inductive Form : D → Prop
  | come {v : D} (n : OddV v) : Form (.tup [.str "come", v])
  | leave {v : D} (n : OddV v) : Form (.tup [.str "leave", v])
  | weigh {v u : D} (n : OddV v) (m : OddV u) : Form (.tup [.str "weigh", v, u])
  | loosen {v : D} (n : OddV v) : Form (.tup [.str "loosen", v])
/-- what is due -/
def Due (ws : List Int) (d : D) (r : List D) : Prop := (∃ u : Ed, d = u.d ∧ u.can ws ∧ r = []) ∨ ∃ c fs, Bad ws d c fs ∧ NiceF fs ∧ r = dueL c fs
/-- a tower, compared with itself -/
theorem eqD_tow (e : Int) (ws : List Int) : eqD (towD e ws) (towD e ws) ∧ PyData.eqv (towD e ws).py (towD e ws).py = true := by
  obtain ⟨h1, h2⟩ := lay_ints ws
  have f : (towD e ws).flat = true := by have h := flat_ints ws; simpa [D.flat, flatAll] using h
  have s : SeqAt.shaped (towD e ws).py = true := by
    simp only [SeqAt.shaped, D.py, pyAll, PyData.canLay0, PyData.canLayAll0, PyData.depth, PyData.depthAll, h1, Bool.true_and]
    exact decide_eq_true (by omega)
  refine ⟨⟨f, f, s, s⟩, ?_⟩
  have e1 := eqv_tups ws ws
  have e2 : PyData.eqv (D.tup (ws.map D.int)).py (D.tup (ws.map D.int)).py = true := by rw [e1]; exact decide_eq_true rfl
  simp only [D.py, pyAll, PyData.eqv, PyData.eqvAll] at e2 ⊢
  simp [e2]
end DL

/-! YA: a def under a second name; o.m(e, ..) where a keyword has a default; comprehensions with four names. -/
namespace DL
open PySem PySem.Spec L2 PyProof.Rows PySem.W
theorem CalD.al {P : Program} {w : World} {K : PySem.W.Frag} {mg : Str → Option Value} {base : Heap} {k : Nat} {x y : Str} {ps : List Str} {S : SpD} (C : CalD P w K mg base k x ps S) (e : mg y = mg x) : CalD P w K mg base k y ps S := by
  obtain ⟨f, fd, F, hm, r⟩ := C
  exact ⟨f, fd, F, e.trans hm, r⟩
section
variable [Ers]
theorem CalX.al {P : Program} {w : World} {K : PySem.W.Frag} {mg : Str → Option Value} {base : Heap} {k : Nat} {x y : Str} {ps : List Str} {S : SpDX} (C : CalX P w K mg base k x ps S) (e : mg y = mg x) : CalX P w K mg base k y ps S := by
  obtain ⟨f, fd, F, hm, r⟩ := C
  exact ⟨f, fd, F, e.trans hm, r⟩
variable {X : Cx} {W : WX} {RX : DXS} {c m x : Str} {o e : Expr} {es : List Expr} {To : TD} {T : TAD} {S : SpDX} {ps : List Str} {k : Nat} {apos pos : Pos}
/-- o.m(e, ..), the one keyword left out -/
def dMethNA (c m : Str) (S : SpDX) (RX : DXS) (To : TD) (T : TAD) : TD := fun ρ ω Q => To ρ ω fun x ω1 => (∃ fds, FsOf c x ω1 fds ∧ fds.lookup m = none) ∧ T ρ ω1 fun xs ω2 => S (x :: xs ++ [.non]) ω2 Q fun y fs ω3 => RX y fs ρ ω3
variable {ρ : Rho} {ω : Om} {Q : DQ}
theorem st_methNA (h : To ρ ω fun x ω1 => (∃ fds, FsOf c x ω1 fds ∧ fds.lookup m = none) ∧ T ρ ω1 fun xs ω2 => S (x :: xs ++ [.non]) ω2 Q fun y fs ω3 => RX y fs ρ ω3) : dMethNA c m S RX To T ρ ω Q := h
end
section
variable {K : PySem.W.Frag}
theorem RpAll.four {f : Fp} {H : Hp} {a b c d : D} {vs : List V} (r : RpAll K f H [a, b, c, d] vs) : ∃ v1 v2 v3 v4, vs = [v1, v2, v3, v4] ∧ Rp K f H a v1 ∧ Rp K f H b v2 ∧ Rp K f H c v3 ∧ Rp K f H d v4 := by
  cases r with
  | cons r1 r => cases r with
    | cons r2 r => cases r with
      | cons r3 r => cases r with
        | cons r4 r =>
          cases r
          exact ⟨_, _, _, _, rfl, r1, r2, r3, r4⟩
/-- a comprehension with four names, over lists of four -/
theorem gok_fourL [Amb] {i j l m : Nat} {vs : List Nat} (hi : i ∈ vs) (hj : j ∈ vs) (hl : l ∈ vs) (hm : m ∈ vs) : GOk K (gLst K 4 (gCons (gName i) (gCons (gName j) (gCons (gName l) (gCons (gName m) gNil))))) (dgLst 4 (dgCons (dgName i) (dgCons (dgName j) (dgCons (dgName l) (dgCons (dgName m) dgNil))))) vs := ⟨fun h σ ρ ω d v H R Q sl w r t k => by
  obtain ⟨xs, e, ln, x, xs', rfl, y, ys', e2, z, zs', e3, u, us', e4, e5, t⟩ := t
  cases e2
  cases e3
  cases e4
  cases e5
  obtain ⟨a, us, rfl, sx, ra⟩ := lstOf_sq w e r
  obtain ⟨v1, v2, v3, v4, rfl, r1, r2, r3, r4⟩ := ra.four
  refine ⟨_, _, rfl, sx, rfl, _, _, rfl, _, _, rfl, _, _, rfl, _, _, rfl, rfl, ?_⟩
  refine k _ _ ?_ t ((((sl.set r1 i).set r2 j).set r3 l).set r4 m)
  rw [wipe_set hm, wipe_set hl, wipe_set hj, wipe_set hi, wipe_wipe σ vs vs fun _ z => z]⟩
/-! ### rides along a plan; widest steps -/
theorem intsI_inj {us ws : List Int} (h : us.map D.int = ws.map D.int) : us = ws := by rw [← nums_ints us, ← nums_ints ws, h]
theorem mvD_inj {m k : Mv} (h : mvD m = mvD k) : m = k := by
  obtain ⟨a, b⟩ := m
  obtain ⟨c, d⟩ := k
  have h : D.tup [.tup (a.map D.int), .tup (b.map D.int)] = D.tup [.tup (c.map D.int), .tup (d.map D.int)] := h
  injection h with h
  injection h with h1 h2
  injection h2 with h2 _
  injection h1 with h1
  injection h2 with h2
  rw [intsI_inj h1, intsI_inj h2]
/-- what holds at each move of a plan -/
theorem plan_at {x : Int} {ws : List Int} : ∀ {ms : List Mv} {g : List Int}, GrpI ws.length g → planL x ws g (ms.map mvD) = true → ∀ {k : Nat} {m : Mv}, ms[k]? = some m →
    GrpI ws.length m.1 ∧ GrpI ws.length m.2 ∧ GrpI ws.length (after g (ms.take k)) ∧ wt ws (after g (ms.take (k + 1))) = wt ws (after g (ms.take k)) + (wt ws m.1 - wt ws m.2) ∧ GrpI ws.length (after g (ms.take (k + 1))) ∧ 1 ≤ wt ws m.1 - wt ws m.2 ∧ wt ws m.1 - wt ws m.2 ≤ x
  | [], _, _, _, k, m, e => by simp at e
  | m0 :: ms, g, hg, h, k, m, e => by
    have h : movB x ws g (mvD m0) = true ∧ planL x ws (stepG g (mvD m0)) (ms.map mvD) = true := by simpa [planL] using h
    obtain ⟨dn, un, e0, h1, h2, h3, h4⟩ := mov_get h.1
    obtain rfl : m0 = (dn, un) := mvD_inj e0
    have hb := h.1
    rw [show mvD (dn, un) = .tup [.tup (dn.map D.int), .tup (un.map D.int)] from rfl, mov_some h1 h2 h3 h4, Bool.and_eq_true, decide_eq_true_eq, decide_eq_true_eq] at hb
    have hs : stepG g (mvD (dn, un)) = moved g dn un := stepG_pair
    have hm : GrpI ws.length (moved g dn un) := moved_grp hg (fun k hk => ⟨(h1.1 k hk).1, (h1.1 k hk).2, h3 k hk⟩) h1.2
    cases k with
    | zero =>
      cases e
      exact ⟨h1, h2, hg, wt_moved hg h2 h4, hm, hb.1, hb.2⟩
    | succ k =>
      have e : ms[k]? = some m := e
      have z := plan_at (by rw [hs]; exact hm) h.2 e
      rw [hs] at z
      exact z
theorem adj_next : ∀ {L : List Int} {r t : Int}, L.Pairwise (· < ·) → r ∈ L → t ∈ L → r < t → ∃ b, (r, b) ∈ adj L
  | [], r, _, _, h, _, _ => nomatch h
  | [a], r, t, _, h1, h2, lt => by
    rw [List.mem_singleton] at h1 h2
    omega
  | a :: b :: l, r, t, p, h1, h2, lt => by
    rw [adj_cons]
    rcases List.mem_cons.mp h1 with rfl | h1
    · exact ⟨b, List.mem_cons_self⟩
    · have ar : a < r := (List.pairwise_cons.mp p).1 r h1
      rcases List.mem_cons.mp h2 with rfl | h2
      · omega
      · obtain ⟨c, hc⟩ := adj_next (List.pairwise_cons.mp p).2 h1 h2 lt
        exact ⟨c, List.mem_cons_of_mem _ hc⟩
/-- a step beyond reach is too far -/
theorem far_step {x : Int} {ws : List Int} (h1 : ∀ w ∈ ws, 1 ≤ w) (x0 : 0 ≤ x) {s : Int} (hs : s ∈ sumsL ws) (lt : rch x ws < s) : x < s - rch x ws := by
  obtain ⟨g, gg, rfl⟩ := (mem_sumsL h1).mp hs
  obtain ⟨g0, gg0, e0⟩ := (mem_sumsL h1).mp (rch_mem (x := x) h1 x0)
  by_cases c : wt ws g - rch x ws ≤ x
  · have := rch_step h1 x0 gg (g := g0) (by omega) (by omega)
    omega
  · omega
/-- the widest step between sums is what is wanted at least -/
theorem wide_free {m : Int} {ws : List Int} (h1 : ∀ w ∈ ws, 1 ≤ w) (m1 : 1 ≤ m) (hm : ∀ e, 1 ≤ e → (m ≤ e ↔ Free e ws)) : (m = 1 ∨ ∃ p ∈ adj (sumsL ws), p.2 - p.1 = m) ∧ ∀ p ∈ adj (sumsL ws), p.2 - p.1 ≤ m := by
  have top : ws.sum ∈ sumsL ws := (mem_sumsL h1).mpr ⟨ups ws.length, grp_ups _, wt_ups ws⟩
  have all : ∀ p ∈ adj (sumsL ws), p.2 - p.1 ≤ m := fun p hp => by
    obtain ⟨c1, c2⟩ := adj_lt (sumsL_lt ws) hp
    have f := (rch_sum (by omega) h1).mpr ((hm m m1).mp (Int.le_refl _))
    have m2 := (adj_mem hp).2
    obtain ⟨g, gg, e2⟩ := (mem_sumsL h1).mp m2
    have := grp_sum h1 gg
    exact near_adj h1 (adj_mem hp).1 (by rw [f]; omega) c1 c2
  refine ⟨?_, all⟩
  by_cases c : m = 1
  · exact .inl c
  · right
    have nf : ¬ Free (m - 1) ws := fun f => by
      have := (hm (m - 1) (by omega)).mpr f
      omega
    have ne : rch (m - 1) ws ≠ ws.sum := fun e => nf ((rch_sum (by omega) h1).mp e)
    have le := rch_le (e := m - 1) h1
    obtain ⟨b, hb⟩ := adj_next (sumsL_lt ws) (rch_mem h1 (by omega)) top (show rch (m - 1) ws < ws.sum by omega)
    have lt := (adj_lt (sumsL_lt ws) hb).1
    have := far_step h1 (show 0 ≤ m - 1 by omega) (adj_mem hb).2 lt
    have := all _ hb
    exact ⟨_, hb, by show b - rch (m - 1) ws = m; have : b - rch (m - 1) ws ≤ m := this; omega⟩
end
end DL

/-! YB: instances of one of several classes; a class's function called with the instance. -/
namespace DL
open PySem PySem.Spec L2 PyProof.Rows PySem.W
theorem all1 {p : Str → Prop} {a : Str} (h : p a) : ∀ c ∈ ([a] : List Str), p c := fun c m => by
  rcases List.mem_singleton.mp m with rfl
  exact h
theorem all2 {p : Str → Prop} {a b : Str} (h : p a) (k : p b) : ∀ c ∈ ([a, b] : List Str), p c := fun c m => by
  rcases List.mem_cons.mp m with rfl | m
  · exact h
  · rcases List.mem_singleton.mp m with rfl
    exact k
/-- one of the classes -/
def dSome (CS : List Str) (T : Str → TD) : TD := fun ρ ω Q => ∃ c, c ∈ CS ∧ T c ρ ω Q
def dSomeS (CS : List Str) (T : Str → TSD) : TSD := fun E ρ ω => ∃ c, c ∈ CS ∧ T c E ρ ω
section
variable {X : Cx} {e : Expr} {st : Stmt} {CS : List Str}
theorem de_some [Amb] {T : Str → TD} (h : ∀ c ∈ CS, DE X e (T c)) : DE X e (dSome CS T) :=
  ⟨fun pins s σ H Q I q => by
    obtain ⟨hh, ρ, ω, R, sl, w, ⟨c, hc, t⟩, k⟩ := q
    exact (h c hc).run pins s σ H Q I ⟨hh, ρ, ω, R, sl, w, t, k⟩⟩
theorem ds_some [Amb] {T : Str → TSD} (h : ∀ c ∈ CS, DS X st (T c)) : DS X st (dSomeS CS T) :=
  ⟨fun pins s σ H E I q => by
    obtain ⟨hh, ρ, ω, e, sl, w, ⟨c, hc, t⟩, k⟩ := q
    exact (h c hc).run pins s σ H E I ⟨hh, ρ, ω, e, sl, w, t, k⟩⟩
end
section
variable {ρ : Rho} {ω : Om} {Q : DQ} {E : DEnds} {CS : List Str} {c : Str}
theorem st_oneOf {T : Str → TD} (hc : c ∈ CS) (h : T c ρ ω Q) : dSome CS T ρ ω Q := ⟨c, hc, h⟩
theorem st_oneOfS {T : Str → TSD} (hc : c ∈ CS) (h : T c E ρ ω) : dSomeS CS T E ρ ω := ⟨c, hc, h⟩
end
section
variable [Ers]
theorem CalM.more {P : Program} {w : World} {K : PySem.W.Frag} {mg : Str → Option Value} {base : Heap} {k k' : Nat} {c m : Str} {ps : List Str} {S : SpDX} (C : CalM P w K mg base k c m ps S) (le : k ≤ k') : CalM P w K mg base k' c m ps S := by
  obtain ⟨f, fd, F, r⟩ := C
  exact ⟨f, fd, F.mono le, r⟩
variable {X : Cx} {W : WX} {RX : DXS} {c m x : Str} {o e : Expr} {es : List Expr} {To : TD} {T : TAD} {S : SpDX} {ps : List Str} {k : Nat} {apos pos : Pos}
/-- what C.m hands out is the def itself -/
def ClsF (K : PySem.W.Frag) (c m : Str) : Prop := ∃ mc f, ClX.CRead K (Ers.ad c) mc ∧ findIn K (.ref (Ers.ad c)) m = some (some (.ref f)) ∧ findCls K (.ref (Ers.ad c)) mc m = some (.val (.ref f))
theorem pe_clsM {C f : Addr} {fd : FuncData} {sp : Sp} {ta : TE} {t : TA} {mc : Value} {pl : Sem Bool} (he : PE X o ta) (cr : ClX.CRead X.K C mc) (cv : findCls X.K (.ref C) mc m = some (.val (.ref f))) (hk : keepIn X.K (.ref f) = true) (F : FnG X.prog X.w X.K X.mg X.base (L2.CX X.prog X.w) k f fd ps sp) (hr : Room k X.A) (gd : X.A.guards = some []) (hb : Binds X.K fd ps []) (tk : Takes X W) (ha : PA X (e :: es) t)
    (hst : starEach (e :: es) X.env = (false, eval e X.env) :: starEach es X.env := by rfl) (hpl : (backTo pos (starEach es X.env)).any (·.1) = false := by rfl)
    (ht : eval (.Call (.Attribute o m apos) (e :: es) [] pos) X.env = (do
      let ov ← eval o X.env
      standAt apos.atName
      let (f, first) ← holding [ov] (getMethod ov m pl)
      callWith pos f first (backTo pos (starEach (e :: es) X.env)) (backToKw pos (keywordEach [] X.env))) := by rfl) :
    PE X (.Call (.Attribute o m apos) (e :: es) [] pos) (fun σ H Q => ta σ H fun x H1 => x = .ref C ∧ t σ H1 fun vs H2 => sp vs H2 Q fun c d H3 => W c d σ H3) := by
  refine ⟨fun pins s σ H Q I h => ?_⟩
  refine PySem.W.methodCall_KW (pl := pl) (thn (he.run pins s σ H _ I h) fun u s1 ⟨x, H1, I1, rx, ex, q⟩ => ?_) ht
  subst ex
  obtain rfl : u = Value.ref C := rx
  refine PySem.W.method_cls I1.kIn cr.ga (ClX.getcval_ok I1 cr (v := .ref f) ⟨cv, rfl⟩ fun s' I2 => ?_)
  refine PySem.W.callWith_K (first := []) (h₀ := X.base) I2.ok.mod.kin hk (thn (ha.run pos pins s' σ H1 _ I2 q) fun us s2 ⟨vs, H2, I3, r, q2⟩ => ⟨I3.kIn, ?_⟩) hst hpl
  exact runM (us := us) (vs := vs) F hr gd I3.env0 hb tk I3 r q2
/-- C.m(e, ..) -/
def dClsM (c : Str) (S : SpDX) (RX : DXS) (To : TD) (T : TAD) : TD := fun ρ ω Q => To ρ ω fun x ω1 => x = .raw (.ref (Ers.ad c)) ∧ T ρ ω1 fun xs ω2 => S xs ω2 Q fun y fs ω3 => RX y fs ρ ω3
theorem de_clsMK {K : PySem.W.Frag} (I0 : AmbX K W RX) {pl : Sem Bool} (cf : ClsF X.K c m) (C : CalM X.prog X.w X.K X.mg X.base k c m ps S) (hr : Room k X.A) (gd : X.A.guards = some []) (tk : Takes X W) (ho : @DE I0.toAmb X o To) (ha : @DA I0.toAmb X (e :: es) T)
    (hst : starEach (e :: es) X.env = (false, eval e X.env) :: starEach es X.env := by rfl) (hpl : (backTo pos (starEach es X.env)).any (·.1) = false := by rfl)
    (ht : eval (.Call (.Attribute o m apos) (e :: es) [] pos) X.env = (do
      let ov ← eval o X.env
      standAt apos.atName
      let (f, first) ← holding [ov] (getMethod ov m pl)
      callWith pos f first (backTo pos (starEach (e :: es) X.env)) (backToKw pos (keywordEach [] X.env))) := by rfl) (hK : X.K = K := by rfl) :
    @DE I0.toAmb X (.Call (.Attribute o m apos) (e :: es) [] pos) (dClsM c S RX To T) := by
  subst hK
  obtain ⟨f, fd, F, hi, hfn, hn, hkp, hbb⟩ := C
  obtain ⟨mc, f', cr, hi', cv⟩ := cf
  rw [hi] at hi'
  cases hi'
  refine PE.weak (pe_clsM ho cr cv hkp F hr gd hbb tk ha hst hpl ht) fun σ H Q ⟨h, ρ, ω, R, sl, w, t, k⟩ => ?_
  refine ⟨h, ρ, ω, _, sl, w, t, fun x ω1 vx H1 ⟨e1, t1⟩ f1 w1 rx => ?_⟩
  subst e1
  cases rx
  refine ⟨rfl, h, ρ, ω1, _, sl.keep f1.kp, w1, t1, fun xs ω2 vs H2 t2 f2 w2 rs => ?_⟩
  exact spM sl w (f1.trans f2) w2 rs t2 (k.go (f1.trans f2))
variable {ρ : Rho} {ω : Om} {Q : DQ}
theorem st_clsM (h : To ρ ω fun x ω1 => x = .raw (.ref (Ers.ad c)) ∧ T ρ ω1 fun xs ω2 => S xs ω2 Q fun y fs ω3 => RX y fs ρ ω3) : dClsM c S RX To T ρ ω Q := h
end
end DL

/-! YC: hoists with and without a promise. -/
namespace DL
open PySem PySem.Spec L2 PyProof.Rows PySem.W
/-- the class of a hoist: with a promise or without -/
def hoC : Option Int → Str
  | none => "Hoist"
  | some _ => "PromisedHoist"
abbrev HoCS : List Str := ["Hoist", "PromisedHoist"]
theorem hoC_mem (L : Option Int) : hoC L ∈ HoCS := by
  cases L with
  | none => exact List.mem_cons_self
  | some n => exact List.mem_cons_of_mem _ List.mem_cons_self
theorem proC_mem : ("PromisedHoist" : Str) ∈ (["PromisedHoist"] : List Str) := List.mem_cons_self
def leastF : Option Int → List (Str × D)
  | none => []
  | some n => [("_least", .int n)]
def hoG (L : Option Int) (ts es : List D) : List (Str × D) := ("_towers", .tup ts) :: ("_edits", .tup es) :: ("_watched", .bl false) :: leastF L
theorem hoG_len {L : Option Int} {ts es : List D} : (hoG L ts es).length < 1000 := by
  cases L with
  | none => show 3 < 1000; decide
  | some n => show 4 < 1000; decide
theorem lookup_ne {f g : Str} {d : D} {r : List (Str × D)} (h : (f == g) = false) : List.lookup f ((g, d) :: r) = List.lookup f r := by rw [List.lookup_cons, h]
theorem hoG_no {L : Option Int} {ts es : List D} {m : Str} (h1 : (m == ("_towers" : Str)) = false := by decide) (h2 : (m == ("_edits" : Str)) = false := by decide) (h3 : (m == ("_watched" : Str)) = false := by decide) (h4 : (m == ("_least" : Str)) = false := by decide) : List.lookup m (hoG L ts es) = none := by
  unfold hoG
  rw [lookup_ne h1, lookup_ne h2, lookup_ne h3]
  cases L with
  | none => rfl
  | some n => exact lookup_ne h4
theorem hoG_l {n : Int} {ts es : List D} : List.lookup ("_least" : Str) (hoG (some n) ts es) = some (D.int n) := rfl
variable [Ers]
theorem clsD_ref {c : Str} (h : blt c = false) : clsD c = .raw (.ref (Ers.ad c)) := by unfold clsD clsV; rw [h]; rfl
theorem _root_.DL.TabOn.neI [Tbl] {q : Str} {a C dx : Addr} {ω : Om} {fs : List (Str × D)} (h : TabOn q ω) (e : ω a = some (.ins C dx fs)) : Tbl.P q ≠ a := fun z => by
  have h : ω (Tbl.P q) = _ := h
  rw [z, e] at h
  cases h
theorem hoG_t {L : Option Int} {ts ts' es : List D} : dput "_towers" (.tup ts') (hoG L ts es) = hoG L ts' es := dput_eq
theorem hoG_e {L : Option Int} {ts es es' : List D} : dput "_edits" (.tup es') (hoG L ts es) = hoG L ts es' := by
  unfold hoG
  rw [dput_ne (by decide), dput_eq]
theorem hoG_new {n : Int} {ts es : List D} : dput "_least" (.int n) (hoG none ts es) = hoG (some n) ts es := by
  unfold hoG leastF
  rw [dput_ne (by decide), dput_ne (by decide), dput_ne (by decide)]
  rfl
theorem hoG_0 {t : D} : dput "_watched" (.bl false) (dput "_edits" (.tup []) (dput "_towers" (.tup [t]) [])) = hoG none [t] [] := hoF_0
/-- the promise holds with such a tower -/
def Fits (L : Option Int) (e : Int) (ws : List Int) : Prop := ∀ n, L = some n → n ≤ rch e ws
instance {L : Option Int} {e : Int} {ws : List Int} : Decidable (Fits L e ws) := match L with
  | none => .isTrue fun _ h => nomatch h
  | some n => if h : n ≤ rch e ws then .isTrue fun m e => by cases e; exact h else .isFalse fun f => h (f n rfl)
theorem fits_none {e : Int} {ws : List Int} : Fits none e ws := fun _ h => nomatch h
theorem rch_top {e : Int} {ws : List Int} (h : TowOk e ws) : 0 ≤ rch e ws ∧ rch e ws ≤ 24000000 := by
  have h1 : ∀ w ∈ ws, 1 ≤ w := fun w hw => (h.2.2.2 w hw).1
  have := rch_nonneg (e := e) h1
  have := rch_le (e := e) h1
  have := (sum_bound h.2.2.2).2
  have := h.2.2.1
  omega
/-- what an edit's keeping comes to -/
def KeepS (L : Option Int) (x dx : Addr) (ts es : List D) (e : Int) (ws : List Int) (ed : D) (ω : Om) (R : DQ) (RX : Str → Option (List (Str × D)) → Om → Prop) : Prop :=
  (Fits L e ws → R (.int (es.length + 1 : Nat)) (oset ω x (.ins (Ers.ad (hoC L)) dx (hoG L (ts ++ [towD e ws]) (es ++ [ed]))))) ∧ (¬ Fits L e ws → RX "TooLow" (some [("number", .int (rch e ws))]) ω)
end DL

/-! YD: o.m(*xs); what is never reached. -/
namespace DL
open PySem PySem.Spec L2 PyProof.Rows PySem.W PySem.Calls
/-! ### never -/
def dNoE : TD := fun _ _ _ => False
/-! ### starred calls -/
section
variable {M : Model} {A : Around} {E : Value → Shared → Prop} {s : Shared}
end
section
variable [Ers] {X : Cx} {W : WX} {RX : DXS} {c m x : Str} {o e : Expr} {To Te : TD} {S : SpDX} {ps : List Str} {k : Nat} {apos pos sp' : Pos}
/-- o.m(*e) -/
def dMethStar (c m : Str) (S : SpDX) (RX : DXS) (To Te : TD) : TD := fun ρ ω Q => To ρ ω fun x ω1 => (∃ fds, FsOf c x ω1 fds ∧ fds.lookup m = none) ∧ Te ρ ω1 fun y ω2 => ∃ xs, y = .lst xs ∧ xs.length ≤ 1000 ∧ S (x :: xs) ω2 Q fun y fs ω3 => RX y fs ρ ω3
variable {ρ : Rho} {ω : Om} {Q : DQ}
theorem st_methStar (h : To ρ ω fun x ω1 => (∃ fds, FsOf c x ω1 fds ∧ fds.lookup m = none) ∧ Te ρ ω1 fun y ω2 => ∃ xs, y = .lst xs ∧ xs.length ≤ 1000 ∧ S (x :: xs) ω2 Q fun y fs ω3 => RX y fs ρ ω3) : dMethStar c m S RX To Te ρ ω Q := h
end
/-! ### try: a body that lets nothing out -/
section
variable {X : Cx} {body fin : List Stmt} {f₀ : Stmt} {h₀ : ExceptHandler} {hs : List ExceptHandler} {pos : Pos}
def tFinC (tb tf : TS) : TS := fun D σ H => tb { nx := fun σ1 H1 => tf D σ1 H1, rt := fun _ _ => False, bk := fun _ _ => False, ct := fun _ _ => False } σ H
end
section
variable [Ers] {X : Cx} {W : WX} {RX : DXS} {K : PySem.W.Frag} {body fin : List Stmt} {f₀ : Stmt} {h₀ : ExceptHandler} {hs : List ExceptHandler} {pos : Pos} {Tb Tf : TSD}
/-- try: body finally: suite, where nothing is let out -/
def dFinC (Tb Tf : TSD) : TSD := fun E ρ ω => Tb { nx := fun ρ1 ω1 => Tf E ρ1 ω1, rt := fun _ _ => False, bk := fun _ _ => False, ct := fun _ _ => False } ρ ω
end
section
variable {E : DEnds} {ρ : Rho} {ω : Om} {Tb Tf : TSD}
theorem st_finC (h : Tb { nx := fun ρ1 ω1 => Tf E ρ1 ω1, rt := fun _ _ => False, bk := fun _ _ => False, ct := fun _ _ => False } ρ ω) : dFinC Tb Tf E ρ ω := h
end
end DL

/-! YE: isinstance(x, (A, B)) of built-in types; a written dict's get; enumerate of a list. -/
namespace DL
open PySem PySem.Spec L2 PyProof.Rows PySem.W PySem.Calls
section
variable {K : PySem.W.Frag}
/-- isinstance(x, (A, B)) -/
def dIsiT : DOn := fun xs ω Q => ∃ x n m t, xs = [x, .tup [.raw (.ty n), .raw (.ty m)]] ∧ n ∈ ["bool", "int", "str", "list", "tuple", "dict"] ∧ m ∈ ["bool", "int", "str", "list", "tuple", "dict"] ∧ tyN x = some t ∧ Q (.bl (isN t n || isN t m)) ω
end
section
variable {X : Cx} {e : Expr} {x : Str} {apos cpos p : Pos} {Te : TD} {es : Array DictEntry} {n : Nat} {d : Addr}
/-- a dict of the text with texts as keys and numbers as values -/
def KGet (K : PySem.W.Frag) (w : World) (mg : Str → Option Value) (x : Str) (ps : List (Str × Int)) : Prop := ∃ d es n, mg x = some (.ref d) ∧ KDict K w d es n ∧ ∀ p ∈ ps, ∃ t, nsIn K d p.1 = some (some (.int p.2 t))
/-- D.get(e) where the key is there -/
def dKGet (ps : List (Str × Int)) (Te : TD) : TD := fun ρ ω Q => Te ρ ω fun y ω1 => ∃ z i, y = .str z ∧ (z, i) ∈ ps ∧ Q (.int i) ω1
end
/-! ### enumerate of a list -/
section
variable {K : PySem.W.Frag} {X : Cx} {h : Fp} {H : Hp} {ω : Om} {a : Expr} {p pos tpos : Pos} {T : TAD} {elts : List Expr} {kk : Nat}
def dEnumL (T : TAD) : TID := fun ρ ω Q => T ρ ω fun ds ω1 => ∃ xs, ds = [.lst xs] ∧ Q (enumD xs) (fun _ => True) ω1
variable {ρ : Rho} {QI : List D → (Om → Prop) → Om → Prop} {Q : DQ} {Te : TD}
theorem st_enumL (h : T ρ ω fun ds ω1 => ∃ xs, ds = [.lst xs] ∧ QI (enumD xs) (fun _ => True) ω1) : dEnumL T ρ ω QI := h
theorem st_enumL' {xs : List D} {Z : List D → Prop} (h : Z xs) : ∃ ys, [D.lst xs] = [.lst ys] ∧ Z ys := ⟨xs, rfl, h⟩
theorem st_kget {ps : List (Str × Int)} (h : Te ρ ω fun y ω1 => ∃ z i, y = .str z ∧ (z, i) ∈ ps ∧ Q (.int i) ω1) : dKGet ps Te ρ ω Q := h
end
end DL

/-! YF: rows of edits. -/
namespace DL
open PySem PySem.Spec L2 PyProof.Rows PySem.W
def towP (p : Int × List Int) : D := towD p.1 p.2
/-- an edit's name and values -/
def Ed.n : Ed → Str
  | .come _ => "come" | .leave _ => "leave" | .weigh _ _ => "weigh" | .loosen _ => "loosen"
def Ed.v : Ed → List D
  | .come w => [.int w] | .leave k => [.int k] | .weigh k w => [.int k, .int w] | .loosen x => [.int x]
def Ed.go (p : Int × List Int) (d : Ed) : Int × List Int := (d.e p.1, d.ws p.2)
/-- the tower behind some edits -/
def runE (p : Int × List Int) (us : List Ed) : Int × List Int := us.foldl Ed.go p
/-- the towers behind each of them -/
def rowE (p : Int × List Int) : List Ed → List (Int × List Int)
  | [] => []
  | d :: us => d.go p :: rowE (d.go p) us
def CanE (p : Int × List Int) : List Ed → Prop
  | [] => True
  | d :: us => d.can p.2 ∧ CanE (d.go p) us
theorem runE_snoc (p : Int × List Int) (us : List Ed) (d : Ed) : runE p (us ++ [d]) = d.go (runE p us) := by
  unfold runE
  rw [List.foldl_append]
  rfl
theorem rowE_len (p : Int × List Int) : ∀ us : List Ed, (rowE p us).length = us.length
  | [] => rfl
  | d :: us => by rw [rowE, List.length_cons, List.length_cons, rowE_len (d.go p) us]
theorem rowE_snoc : ∀ (p : Int × List Int) (us : List Ed) (d : Ed), rowE p (us ++ [d]) = rowE p us ++ [d.go (runE p us)]
  | p, [], d => rfl
  | p, u :: us, d => by
    show u.go p :: rowE (u.go p) (us ++ [d]) = u.go p :: (rowE (u.go p) us ++ [_])
    rw [rowE_snoc (u.go p) us d]
    rfl
/-- the present tower is the last one -/
theorem rowE_last : ∀ (p : Int × List Int) (us : List Ed), ∃ TS, p :: rowE p us = TS ++ [runE p us]
  | p, [] => ⟨[], rfl⟩
  | p, u :: us => by
    obtain ⟨TS, e⟩ := rowE_last (u.go p) us
    exact ⟨p :: TS, by show p :: (u.go p :: rowE (u.go p) us) = p :: TS ++ [_]; rw [e]; rfl⟩
theorem canE_at : ∀ {p : Int × List Int} {us vs : List Ed} {d : Ed}, TowOk p.1 p.2 → CanE p (us ++ d :: vs) → TowOk (runE p us).1 (runE p us).2 ∧ d.can (runE p us).2
  | p, [], vs, d, tk, h => ⟨tk, h.1⟩
  | p, u :: us, vs, d, tk, h => by
    have h : u.can p.2 ∧ CanE (u.go p) (us ++ d :: vs) := h
    exact canE_at (p := u.go p) (tk.go h.1) h.2
theorem canE_ok : ∀ {p : Int × List Int} {us : List Ed}, TowOk p.1 p.2 → CanE p us → TowOk (runE p us).1 (runE p us).2
  | p, [], tk, h => tk
  | p, u :: us, tk, h => by
    have h : u.can p.2 ∧ CanE (u.go p) us := h
    exact canE_ok (p := u.go p) (tk.go h.1) h.2
end DL

/-! YG: one person more where nobody is stuck; numbers multiplied. -/
namespace DL
open PySem PySem.Spec L2
theorem lite_same {ws : List Int} {v w : Int} (h : ∀ u ∈ ws, u < v ↔ u < w) : lite ws v = lite ws w := by
  unfold lite
  congr 1
  exact List.filter_congr fun u hu => by simpa using h u hu
/-- where nobody is stuck, one who would be is heavier than all -/
theorem all_lighter {e w : Int} {ws : List Int} (f : Free e ws) (hw : e + lite ws w < w) : ∀ u ∈ ws, u < w := by
  have fl : ws.filter (fun u => decide (w ≤ u)) = [] := by
    have pm := srt_perm (ws.filter fun u => decide (w ≤ u))
    have so := srt_le (ws.filter fun u => decide (w ≤ u))
    cases hs : srt (ws.filter fun u => decide (w ≤ u)) with
    | nil => rw [hs] at pm; exact pm.symm.eq_nil
    | cons v r =>
      rw [hs] at pm so
      have hv := List.mem_filter.mp (pm.mem_iff.mp List.mem_cons_self)
      have wv : w ≤ v := of_decide_eq_true hv.2
      have mn : ∀ u ∈ ws, w ≤ u → v ≤ u := fun u hu c => by
        have : u ∈ v :: r := pm.mem_iff.mpr (List.mem_filter.mpr ⟨hu, decide_eq_true c⟩)
        rcases List.mem_cons.mp this with z | z
        · omega
        · exact (List.pairwise_cons.mp so).1 u z
      have e1 : lite ws v = lite ws w := lite_same fun u hu => by
        constructor
        · intro c
          by_cases d : w ≤ u
          · have := mn u hu d; omega
          · omega
        · intro c; omega
      have := f v hv.1
      omega
  intro u hu
  by_cases c : w ≤ u
  · have : u ∈ ws.filter (fun u => decide (w ≤ u)) := List.mem_filter.mpr ⟨hu, decide_eq_true c⟩
    rw [fl] at this
    cases this
  · omega
end DL

/-! YI: o.m(*xs) as the model has it: a bound method is made. -/
namespace DL
open PySem PySem.Spec L2 PyProof.Rows PySem.W PySem.Calls ClX
section
variable [Ers] {X : Cx} {W : WX} {RX : DXS} {c m x : Str} {o e : Expr} {To Te : TD} {S : SpDX} {ps : List Str} {k : Nat} {apos pos sp' : Pos}
/-- the form holds of names -/
example {X : Cx} {x y m : Str} {p1 p2 apos sp' pos : Pos} : eval (.Call (.Attribute (.Name x p1) m apos) [.Starred (.Name y p2) sp'] [] pos) X.env = (do
      let ov ← eval (.Name x p1) X.env
      standAt apos.atName
      let (f, first) ← holding [ov] (do pure (← getAttr ov m true, []))
      callWith pos f first [(true, do let v ← eval (.Name y p2) X.env; standAt pos; pure v)] []) := by rfl
end
section
variable [Ers] {X : Cx} {W : WX} {RX : DXS} {K : Frag} {body fin : List Stmt} {f₀ : Stmt} {h₀ : ExceptHandler} {hs : List ExceptHandler} {Tb Tf : TSD} {pos : Pos}
end
end DL

/-! YK: own instances under ==, != and in. -/
namespace DL
open PySem PySem.Spec L2 PyProof.Rows PySem.W
section
variable {prog : Program} {w : World} {A : Around} {E : Value → Shared → Prop} {s : Shared} {K : PySem.W.Frag} {x C L f : Addr} {h₀ : Heap} {m : Str → Option Value} {ox : Obj} {od : Option Obj} {b tb : Value}
end
variable [Ers]
/-- what != asks of a class that has __eq__ alone -/
structure NeF (K : PySem.W.Frag) (C : Addr) : Prop where
  ne : findIn K (.ref C) "__ne__" = some (some (.builtin "object.__ne__"))
  ob : subIn K (.ref C) (.type "object") = some true
section
variable {X : Cx} {c : Str} {S : SpDX} {ps : List Str} {k : Nat} {sp : Sp} {C f : Addr} {fd : FuncData}
def rEqM (sp : Sp) (C : Addr) (neg : Bool) : R2 := fun x y H Q => ∃ q dx fs q2 dx2 fs2, x = .ref q ∧ H q = some (.ins C dx fs) ∧ y = .ref q2 ∧ H q2 = some (.ins C dx2 fs2) ∧ sp [.ref q, .ref q2] H (fun v H' => ∃ b, v = .bl b ∧ Q (.bl (if neg then !b else b)) H') fun _ _ _ => False
theorem nf_self {K : PySem.W.Frag} {C : Addr} : notFirst K C (.ref C) = true := by simp [notFirst]
def rInM (sp : Sp) (C : Addr) (neg : Bool) : R2 := fun x y H Q => ∃ q dx fs, y = .ref q ∧ H q = some (.ins C dx fs) ∧ sp [.ref q, x] H (fun v H' => ∃ b, v = .bl b ∧ Q (.bl (if neg then !b else b)) H') fun _ _ _ => False
def dEqM (neg : Bool) (c : Str) (S : SpDX) : DO2 := fun x y ω R => ∃ fds gds, FsOf c x ω fds ∧ FsOf c y ω gds ∧ S [x, y] ω (fun d ω' => ∃ b, d = .bl b ∧ R (.bl (if neg then !b else b)) ω') fun _ _ _ => False
def dInM (neg : Bool) (c : Str) (S : SpDX) : DO2 := fun x y ω R => ∃ fds, FsOf c y ω fds ∧ S [y, x] ω (fun d ω' => ∃ b, d = .bl b ∧ R (.bl (if neg then !b else b)) ω') fun _ _ _ => False
end
section
variable {c : Str} {S : SpDX} {x y : D} {ω : Om} {Q : DQ} {neg : Bool} {fds gds : List (Str × D)}
end
end DL

/-! YM: try .. except C, without a name. -/
namespace DL
open PySem PySem.Spec L2 PyProof.Rows PySem.W
variable [Ers]
/-- the errors of a try's body, the clause without a name -/
def dCatchO (prs : List (Str × Str)) (c : Str) (Ts : Str → Addr → Option Addr → TSD) (RXo : DXS) (E : DEnds) : DXS := fun x fs ρ ω => (x, c) ∈ prs ∧
  (subB x c = true → ∀ a d ω2, XPut ω fs d ω2 → Ts x a d E ρ ω2) ∧ (subB x c = false → RXo x fs ρ ω)
def dTryO (prs : List (Str × Str)) (c : Str) (Tb : DXS → TSD) (Ts : Str → Addr → Option Addr → TSD) (RXo : DXS) : TSD := fun E ρ ω => Tb (dCatchO prs c Ts RXo E) E ρ ω
section
variable {K : PySem.W.Frag} {h : Fp} {H H' H2 : Hp} {ω ω' : Om} {prs : List (Str × Str)} {fls : List Str} {c : Str} {Ts : Str → Addr → Option Addr → TSD} {RXo : DXS} {Wout : WX}
end
section
variable {X : Cx} {Wout : WX} {RXo : DXS} {x c : Str} {body suite : List Stmt} {b₀ : Stmt} {np pos pos' : Pos} {prs : List (Str × Str)} {fls : List Str} {Tb : DXS → TSD} {Ts : Str → Addr → Option Addr → TSD}
end
section
variable {prs : List (Str × Str)} {c x : Str} {Ts : Str → Addr → Option Addr → TSD} {Tb : DXS → TSD} {RXo : DXS} {E : DEnds} {ρ : Rho} {ω : Om} {l : List (Str × D)}
theorem st_tryO (h : Tb (dCatchO prs c Ts RXo E) E ρ ω) : dTryO prs c Tb Ts RXo E ρ ω := h
end
end DL

/-! GJ: generators over plain data. -/
namespace DL
open PySem PySem.Spec L2 PyProof.Rows PySem.W
/-! ### a generator's statements; the list: what is out so far -/
structure DYEnds where
  nx : List D → Rho → Om → Prop
  rt : List D → DQ
  bk : List D → Rho → Om → Prop := fun _ _ _ => False
  ct : List D → Rho → Om → Prop := fun _ _ _ => False
abbrev TYD := DYEnds → List D → Rho → Om → Prop
section
variable (K : PySem.W.Frag)
def CntY [Amb] (h : Fp) (H : Hp) (ω : Om) (R : List D → Rho → Om → Prop) (Q : List V → L2.St → Hp → Prop) : Prop := ∀ ds ρ' ω' ys σ' H', R ds ρ' ω' → Fr H ω H' ω' → Wd K h H' ω' → Sl K (fre ω' h) H' σ' ρ' → RpAll K (fre ω' h) H' ds ys → Q ys σ' H'
def CntYR [Amb] (h : Fp) (H : Hp) (ω : Om) (R : List D → DQ) (Q : List V → VK) : Prop := ∀ ds d ω' ys v H', R ds d ω' → Fr H ω H' ω' → Wd K h H' ω' → Rp K (fre ω' h) H' d v → RpAll K (fre ω' h) H' ds ys → Q ys v H'
def upY [Amb] (T : TYD) : TGn := fun E ys σ H => ∃ h ρ ω ds e, Sl K (fre ω h) H σ ρ ∧ Wd K h H ω ∧ RpAll K (fre ω h) H ds ys ∧ T e ds ρ ω ∧ CntY K h H ω e.nx E.nx ∧ CntYR K h H ω e.rt E.rt ∧ CntY K h H ω e.bk E.bk ∧ CntY K h H ω e.ct E.ct
end
abbrev DY [Amb] (X : Cx) (s : Stmt) (T : TYD) : Prop := GS X s (upY X.K T)
abbrev DYs [Amb] (X : Cx) (s : List Stmt) (T : TYD) : Prop := GSs X s (upY X.K T)
theorem GS.weak {X : Cx} {e : Stmt} {t u : TGn} (p : GS X e t) (w : ∀ D ys σ H, u D ys σ H → t D ys σ H) : GS X e u :=
  ⟨fun A S ip R n ys s₀ c fs Z J gd lv s σ H D g hn z hI ht => p.run A S ip R n ys s₀ c fs Z J gd lv s σ H D g hn z hI (w D ys σ H ht)⟩
theorem GSs.weak {X : Cx} {e : List Stmt} {t u : TGn} (p : GSs X e t) (w : ∀ D ys σ H, u D ys σ H → t D ys σ H) : GSs X e u :=
  ⟨fun A S ip R n ys s₀ c fs Z J gd lv s σ H D g hn z hI ht => p.run A S ip R n ys s₀ c fs Z J gd lv s σ H D g hn z hI (w D ys σ H ht)⟩
section
variable {K : PySem.W.Frag} {X : Cx} {h : Fp} {H H' : Hp} {ω ω' : Om} {a e : Expr} {pos yp : Pos} {Ta : TD} {st : Stmt} {sts : List Stmt} {T : TSD} {U W : TYD}
theorem CntY.go [Amb] {R : List D → Rho → Om → Prop} {Q : List V → L2.St → Hp → Prop} (k : CntY K h H ω R Q) (f : Fr H ω H' ω') : CntY K h H' ω' R Q := fun ds ρ w2 ys σ H2 r f2 => k ds ρ w2 ys σ H2 r (f.trans f2)
theorem CntYR.go [Amb] {R : List D → DQ} {Q : List V → VK} (k : CntYR K h H ω R Q) (f : Fr H ω H' ω') : CntYR K h H' ω' R Q := fun ds d w2 ys v H2 r f2 => k ds d w2 ys v H2 r (f.trans f2)
/-- a statement that hands out nothing -/
def dPlainY (T : TSD) : TYD := fun E ds ρ ω => T { nx := E.nx ds, rt := E.rt ds, bk := E.bk ds, ct := E.ct ds } ρ ω
theorem plain_up [Amb] {D : GEnds} {ys : List V} {σ : L2.St} (u : upY K (dPlainY T) D ys σ H) : upS K T (D.at ys) σ H := by
  obtain ⟨h, ρ, ω, ds, e, sl, w, ra, t, k1, k2, k3, k4⟩ := u
  exact ⟨h, ρ, ω, _, sl, w, t, fun ρ' ω' σ' H' r f w' sl' => k1 ds ρ' ω' ys σ' H' r f w' sl' (ra.keep f.kp), fun d ω' v H' r f w' rp => k2 ds d ω' ys v H' r f w' rp (ra.keep f.kp),
    fun ρ' ω' σ' H' r f w' sl' => k3 ds ρ' ω' ys σ' H' r f w' sl' (ra.keep f.kp), fun ρ' ω' σ' H' r f w' sl' => k4 ds ρ' ω' ys σ' H' r f w' sl' (ra.keep f.kp)⟩
theorem dy_plain [Amb] (p : DS X st T) : DY X st (dPlainY T) := GS.weak (gs_ps p) fun _ _ _ _ => plain_up
def dNextY : TYD := fun E ds ρ ω => E.nx ds ρ ω
def dSeqY (U W : TYD) : TYD := fun E ds ρ ω => U { E with nx := W E } ds ρ ω
theorem dys_cons [Amb] (p : DY X st U) (r : DYs X sts W) : DYs X (st :: sts) (dSeqY U W) := by
  refine GSs.weak (gss_cons p r) fun D ys σ H ⟨h, ρ, ω, ds, e, sl, w, ra, t, k1, k2, k3, k4⟩ => ?_
  exact ⟨h, ρ, ω, ds, _, sl, w, ra, t, fun ds' ρ' ω' ys' σ' H' t' f w' sl' ra' => ⟨h, ρ', ω', ds', e, sl', w', ra', t', k1.go f, k2.go f, k3.go f, k4.go f⟩, k2, k3, k4⟩
theorem dys_one [Amb] (p : DY X st U) : DYs X [st] U := by
  refine GSs.weak (gss_cons p (gss_nil (X := X))) fun D ys σ H z => ?_
  exact z
/-- yield e -/
def dYield (Ta : TD) : TYD := fun E ds ρ ω => ds.length < sizeLine ∧ Ta ρ ω fun d ω1 => E.nx (ds ++ [d]) ρ ω1
theorem dy_yield [Amb] (p : DE X e Ta) (hco : X.env.scope.isCoroutine = false := by rfl) (hi : interactive X.env = false := by rfl) : DY X (.Expr (.Yield (some e) yp) pos) (dYield Ta) := by
  refine GS.weak (gs_yield p hco hi) fun D ys σ H ⟨h, ρ, ω, ds, E, sl, w, ra, ⟨l, t⟩, k1, _⟩ => ?_
  refine ⟨by rw [← ra.len]; exact l, h, ρ, ω, _, sl, w, t, fun d ω1 v H1 t1 f1 w1 r1 => ?_⟩
  exact k1 _ ρ ω1 _ σ H1 t1 f1 w1 (sl.keep f1.kp) (RpAll.app (ra.keep f1.kp) (.cons r1 .nil))
/-- for x in e: .., of a generator -/
def dForY (Ti : TID) (g : TGD) (Tb : TYD) : TYD := fun E ds ρ ω => Ti ρ ω fun xs P ω1 => ∃ I : Nat → List D → Rho → Om → Prop, I 0 ds ρ ω1 ∧ (∀ i ds ρ ω, I i ds ρ ω → P ω) ∧
  (∀ i d ds ρ ω, xs[i]? = some d → I i ds ρ ω → g d ρ ω fun ρ2 ω2 => Tb { E with nx := I (i + 1), ct := I (i + 1), bk := E.nx } ds ρ2 ω2) ∧ ∀ ds ρ ω, I xs.length ds ρ ω → E.nx ds ρ ω
theorem dy_for [Amb] {tg iter : Expr} {body : List Stmt} {Ti : TID} {g : TGD} (hp : PassesOwn (model X.prog X.w) X.A X.env X.xe) (hc : X.calm = true) (hi : DI X tg iter Ti) (hg : DG X tg g) (hb : DYs X body U) (hs : ∀ x, foldedSetIterable iter X.env x = pure x := by intro _; rfl) : DY X (.For tg iter body [] pos) (dForY Ti g U) := by
  refine GS.weak (gs_for hp hc hi hg hb hs) fun D ys σ H ⟨h, ρ, ω, ds, e, sl, w, ra, t, k1, k2, k3, k4⟩ => ?_
  refine ⟨h, ρ, ω, _, sl, w, t, fun xs P ω1 J H1 t1 f1 w1 it => ?_⟩
  obtain ⟨I, i0, ip, step, fin⟩ := t1
  refine ⟨fun i m ys' σ' H' => m = xs.length - i ∧ i ≤ xs.length ∧ ∃ ds' ρ' ω', I i ds' ρ' ω' ∧ Fr H1 ω1 H' ω' ∧ Wd X.K h H' ω' ∧ Sl X.K (fre ω' h) H' σ' ρ' ∧ RpAll X.K (fre ω' h) H' ds' ys', ⟨_, rfl, Nat.zero_le _, ds, ρ, ω1, i0, Fr.refl, w1, sl.keep f1.kp, ra.keep f1.kp⟩, ?_⟩
  rintro i m ys' σ' H' ⟨rfl, hi, ds', ρ', ω', ii, f2, w2, sl2, ra2⟩
  obtain ⟨st, go⟩ := it h i H' ω' (ip _ _ _ _ ii) f2.kp w2
  by_cases lt : i < xs.length
  · obtain ⟨g1, y1⟩ := go xs[i] (by simp [lt])
    refine .inr ⟨g1, fun ys3 σ3 H3 => ∃ ds3 ρ3 ω3, I (i + 1) ds3 ρ3 ω3 ∧ Fr H1 ω1 H3 ω3 ∧ Wd X.K h H3 ω3 ∧ Sl X.K (fre ω3 h) H3 σ3 ρ3 ∧ RpAll X.K (fre ω3 h) H3 ds3 ys3, fun ys3 σ3 H3 ⟨ds3, ρ3, ω3, z⟩ => ⟨_, by omega, rfl, lt, ds3, ρ3, ω3, z⟩, fun x H3 y => ?_⟩
    obtain ⟨f3, w3, r3⟩ := y1 x H3 y
    refine ⟨h, ρ', ω', xs[i], _, sl2.keep f3.kp, w3, r3, step i xs[i] ds' ρ' ω' (by simp [lt]) ii, fun ρ4 ω4 σ4 H4 t4 f4 w4 sl4 => ?_⟩
    have fa := f2.trans (f3.trans f4)
    exact ⟨h, ρ4, ω4, ds', _, sl4, w4, ra2.keep (f3.trans f4).kp, t4, fun ds5 ρ5 ω5 ys5 σ5 H5 t5 f5 w5 sl5 ra5 => ⟨ds5, ρ5, ω5, t5, fa.trans f5, w5, sl5, ra5⟩, k2.go (f1.trans fa), k1.go (f1.trans fa), fun ds5 ρ5 ω5 ys5 σ5 H5 t5 f5 w5 sl5 ra5 => ⟨ds5, ρ5, ω5, t5, fa.trans f5, w5, sl5, ra5⟩⟩
  · have e : i = xs.length := by omega
    subst e
    exact .inl ⟨st rfl, k1 ds' ρ' ω' ys' σ' H' (fin ds' ρ' ω' ii) (f1.trans f2) w2 sl2 ra2⟩
end
/-! ### a generator def -/
abbrev SpGD := List D → Om → (List D → Om → Prop) → Prop
def CntG (K : PySem.W.Frag) (h : Fp) (H : Hp) (ω : Om) (R : List D → Om → Prop) (Q : List V → Hp → Prop) : Prop := ∀ ds ω' ys H', R ds ω' → Fr H ω H' ω' → @Wd amb0 K h H' ω' → RpAll K (fre ω' h) H' ds ys → Q ys H'
def spGU (K : PySem.W.Frag) (S : SpGD) : SpG := fun vs H Q _ => ∃ h ds ω R, RpAll K (fre ω h) H ds vs ∧ @Wd amb0 K h H ω ∧ S ds ω R ∧ CntG K h H ω R Q
theorem GFnG.ofD {P : Program} {w : World} {K : PySem.W.Frag} {mg : Str → Option Value} {base : Heap} {k : Nat} {x qual : Str} {st : Stmt} {f : Addr} {fd : FuncData} {N ps : List Str} {S : SpGD} {T : TYD}
    (F : Fun K x qual st f fd) (sc : GScope N ps (defScope st)) (ar : ∀ ds ω R, S ds ω R → ds.length = ps.length)
    (b : ∀ (cdv : Value) (A : Around) (fs : List Env) (s : Shared) (hp : Hp) (e : XK) (pn : List (Addr × Obj)), Room k (A.deeper (PyProof.Rows.envOfC qual (defScope st) s.heap.objs.size f cdv)) → A.guards = some [] →
      @DYs amb0 (gcxOf P w K mg base N qual (defScope st) f cdv A fs s hp e pn) (defBody st) T)
    (rd : ∀ ds ω R, S ds ω R → T { nx := fun ys _ ω' => R ys ω', rt := fun ys d ω' => d = .non ∧ R ys ω' } [] (startD N ds) ω) : GFnG P w K mg base (k + 1) f fd ps (spGU K S) := by
  refine GFnG.of F sc (fun vs H Q e ⟨h, ds, ω, R, r, _, s, _⟩ => by rw [← r.len]; exact ar ds ω R s) fun cdv A fs s hp vs q e pn room gd ⟨h, ds, ω, R, r, w, sp, k⟩ => ?_
  refine ⟨_, b cdv A fs s hp e pn room gd, h, startD N ds, ω, [], _, Sl.start r, w, .nil, rd ds ω R sp, ?_, ?_, ?_, ?_⟩
  · exact fun ds' ρ' ω' ys σ' H' z f' w' _ ra => k ds' ω' ys H' z f' w' ra
  · rintro ds' d ω' ys v H' ⟨rfl, z⟩ f' w' rp ra
    cases rp
    exact ⟨rfl, k ds' ω' ys H' z f' w' ra⟩
  · exact fun _ _ _ _ _ _ z => z.elim
  · exact fun _ _ _ _ _ _ z => z.elim
variable [Ers]
/-- a generator method with one keyword-only parameter, None if it isn't given -/
def CalG (P : Program) (w : World) (K : PySem.W.Frag) (mg : Str → Option Value) (base : Heap) (k : Nat) (c m : Str) (ps : List Str) (x : Str) (S : SpGD) : Prop :=
  ∃ f fd ds, GFnG P w K mg base k f fd (ps ++ [x]) (spGU K S) ∧ findIn K (.ref (Ers.ad c)) m = some (some (.ref f)) ∧ isFn K (.ref f) = true ∧ keepIn K (.ref f) = true ∧ Vals [V.non] ds ∧ Binds K fd (ps ++ [x]) ds ∧ KwB fd ps x
theorem CalG.mk {P : Program} {w : World} {K : PySem.W.Frag} {mg : Str → Option Value} {base : Heap} {k : Nat} {c m q x : Str} {st : Stmt} {N ps : List Str} {S : SpGD} {T : TYD} (D : MethN K c m q st x) (sc : GScope N (ps ++ [x]) (defScope st))
    (bi : ∀ (D : Addr) (doc pm : Value) (an : Option Addr) (cdv ct : Value) (us ks : List Value), us.length = ps.length → ks.length = 1 →
      KwChain D (([x] : List Str).zip ks) (bindArgs (PySem.W.fnOf m q (defArgs st) (defBody st) (defScope st) .none (.ref D) doc pm an cdv ct) ⟨us, []⟩) ((ps ++ [x]).zip (us ++ ks)))
    (bk : ∀ (kV doc pm : Value) (an : Option Addr) (cdv ct : Value) (us : List Value) (v : Value), us.length = ps.length →
      bindArgs (PySem.W.fnOf m q (defArgs st) (defBody st) (defScope st) .none kV doc pm an cdv ct) ⟨us, [(x, v)]⟩ = pure ((ps ++ [x]).zip (us ++ [v])))
    (ar : ∀ ds ω R, S ds ω R → ds.length = (ps ++ [x]).length)
    (b : ∀ (f : Addr) (cdv : Value) (A : Around) (fs : List Env) (s : Shared) (hp : Hp) (e : XK) (pn : List (Addr × Obj)), Room k (A.deeper (PyProof.Rows.envOfC q (defScope st) s.heap.objs.size f cdv)) → A.guards = some [] →
      @DYs amb0 (gcxOf P w K mg base N q (defScope st) f cdv A fs s hp e pn) (defBody st) T)
    (rd : ∀ ds ω R, S ds ω R → T { nx := fun ys _ ω' => R ys ω', rt := fun ys d ω' => d = .non ∧ R ys ω' } [] (startD N ds) ω) : CalG P w K mg base (k + 1) c m ps x S := by
  obtain ⟨f, fd, hf, hi, F, FD⟩ := D
  obtain ⟨ds, rv, hb⟩ := FD.binds0 (ps := ps ++ [x]) ps.length (by simp) (by simp) fun D doc pm an cdv ct us ks h1 h2 => bi D doc pm an cdv ct us ks h1 h2
  refine ⟨f, fd, ds, GFnG.ofD F sc ar (fun cdv A fs s hp e pn => b f cdv A fs s hp e pn) rd, hf, hi, F.kp, rv, hb, fun s us v hl => ?_⟩
  obtain ⟨oc, od, kV, doc, pm, an, cdv, ct, osl, rfl, _⟩ := F.ex
  exact .of_eq (bk kV doc pm an cdv ct us v hl)
/-! ### list(o.m()), list(o.m(x=e)) -/
section
variable {X : Cx} {c m x nm : Str} {o ke : Expr} {To Te : TD} {ps : List Str} {k : Nat} {apos pos kp p pos' : Pos} {S : SpGD}
def tMethGN (C : Addr) (m : Str) (sp : SpG) (E : XK) (ta : TE) (t : TE) : TGen := fun σ H cont => ta σ H fun x H1 => ∃ a dx fs, x = .ref a ∧ H1 a = some (.ins C dx fs) ∧ fs.lookup m = none ∧ t σ H1 fun y H2 => sp [x, y] H2 cont E
theorem pgen_kw {C f : Addr} {fd : FuncData} {sp : SpG} {E : XK} {ta te : TE} {pl : Sem Bool} (he : PE X o ta) (cl : Cls X.K C) (hm : Meth X.K C m f) (F : GFnG X.prog X.w X.K X.mg X.base k f fd ([x0] ++ [x]) sp) (hr : Room k X.A) (kb : KwB fd [x0] x) (hk : PE X ke te)
    (hpl : (((backTo pos (starEach [] X.env)).any (·.1)) || (backToKw pos (keywordEach [⟨some x, ke, kp⟩] X.env)).any (·.1.isNone)) = false)
    (hks : ((backToKw pos (keywordEach [⟨some x, ke, kp⟩] X.env)).all (·.1.isSome)) = true) (hkn : (backToKw pos (keywordEach [⟨some x, ke, kp⟩] X.env)).filterMap (·.1) = [x])
    (ht : eval (.Call (.Attribute o m apos) [] [⟨some x, ke, kp⟩] pos) X.env = (do
      let ov ← eval o X.env
      standAt apos.atName
      let (f, first) ← holding [ov] (getMethod ov m pl)
      callWith pos f first (backTo pos (starEach [] X.env)) (backToKw pos (keywordEach [⟨some x, ke, kp⟩] X.env)))) :
    PGenG X k (.Call (.Attribute o m apos) [] [⟨some x, ke, kp⟩] pos) (tMethGN C m sp E ta te) E := by
  refine ⟨fun pins s σ H q I h => ?_⟩
  refine PySem.W.methodCall_KW (pl := pl) (thn (he.run pins s σ H _ I h) fun u s1 ⟨ov, H1, I1, rx, a, dx, fs, ex, ea, l, q1⟩ => ?_) ht
  subst ex
  obtain rfl : u = Value.ref a := rx
  refine getmeth_ok I1 ea cl hm l (PySem.W.callWith_KW0 (first := [.ref a]) (h₀ := X.base) I.ok.mod.kin hm.kp hks ?_ hpl)
  refine PyProof.Rows.kws_cons (thn (hk.run pins s1 σ H1 _ I1 q1) fun u s3 ⟨y, H3, I3, ry, q3⟩ => PyProof.Rows.kws_nil ⟨I3.kIn, ?_⟩)
  rw [hkn]
  exact runGen (ar := ⟨[.ref a], [(x, u)]⟩) (us := [.ref a, u]) (vs := [.ref a, y]) F hr (kb s3 [.ref a] u rfl) I3 (.cons rfl (.cons ry .nil)) q3
theorem pgen_kw0 {C f : Addr} {fd : FuncData} {sp : SpG} {E : XK} {ta : TE} {pl : Sem Bool} {ds : List Value} (he : PE X o ta) (cl : Cls X.K C) (hm : Meth X.K C m f) (F : GFnG X.prog X.w X.K X.mg X.base k f fd ([x0] ++ [x]) sp) (hr : Room k X.A) (hv : Vals [V.non] ds) (hb : Binds X.K fd ([x0] ++ [x]) ds)
    (ht : eval (.Call (.Attribute o m apos) [] [] pos) X.env = (do
      let ov ← eval o X.env
      standAt apos.atName
      let (f, first) ← holding [ov] (getMethod ov m pl)
      callWith pos f first (backTo pos (starEach [] X.env)) (backToKw pos (keywordEach [] X.env)))) :
    PGenG X k (.Call (.Attribute o m apos) [] [] pos) (tMethGN C m sp E ta (tC .non)) E := by
  refine ⟨fun pins s σ H q I h => ?_⟩
  refine PySem.W.methodCall_KW (pl := pl) (thn (he.run pins s σ H _ I h) fun u s1 ⟨ov, H1, I1, rx, a, dx, fs, ex, ea, l, q1⟩ => ?_) ht
  subst ex
  obtain rfl : u = Value.ref a := rx
  refine getmeth_ok I1 ea cl hm l (PySem.W.callWith_K0 (first := [.ref a]) I1.kIn hm.kp ?_)
  have q2 : sp [.ref a, .non] H1 q E := q1
  exact runGen (ar := ⟨[.ref a], []⟩) (us := [.ref a] ++ ds) (vs := [.ref a, .non]) F hr (hb s1 [.ref a] I1.kIn (by rw [List.length_append, List.length_append, ← hv.length]; rfl)) I1 (show L2.Vals [V.ref a, V.non] ([Value.ref a] ++ ds) from .cons (show L2.RelV (V.ref a) (Value.ref a) from rfl) hv) q2
/-- list(g), g never raising -/
theorem pe_listGG {e : Expr} {tg : TGen} (h : PGenG X k e tg fun _ _ _ => False) (hr : Room (k + 3) X.A) (gd : X.A.guards = some []) (hg : Gl X nm) (hmg : X.mg nm = none) (hv : bootBuiltins nm = some (.type "list")) (hnm : nm ≠ "__name__" := by decide) (hdb : (nm == ("__debug__" : Str)) = false := by decide)
    (he : starEach [e] X.env = (false, eval e X.env) :: starEach [] X.env := by rfl) : PE X (.Call (.Name nm p) [e] [] pos) (tListG tg) := by
  refine ⟨fun pins s σ H Q I hq => ?_⟩
  refine wpAny_Call_Name_kw (ld_blt I hg hmg hv (PyProof.Rows.callWith_type1 ?_ he rfl) hnm hdb)
  rw [he]
  show wpAny _ _ (spliced ((false, eval e X.env) :: backTo pos (starEach [] X.env))) _ _ s
  refine Calls.spliced_cons (thn (h.run pins s σ H _ I hq) fun u s1 ⟨H1, s0, I1, hG⟩ => Calls.spliced_nil ?_)
  have hsz : s0.heap.objs.size ≤ s1.heap.objs.size := by
    obtain ⟨a, g, c, _, Z⟩ := hG
    exact Nat.le_trans Z.young (Nat.le_of_lt Z.here)
  refine call_listG hr gd I1.ok.frames hG (fun S t acc c H' ys q0 q1 q2 hl q3 q4 q5 q6 q7 q8 => ?_) fun e t g hc => ?_
  · exact ⟨.ref S, _, I1.drained (Nat.le_trans hsz q0) hl q1 q2 .nil q3 q4 q5 q6 q7, rfl, q8 S q7⟩
  · obtain ⟨_, _, _, _, _, _, _, _, _, _, _, _, z⟩ := hc
    exact z.elim
/-- list(o.m(x=e)) -/
def dListG (c m : Str) (S : SpGD) (To Te : TD) : TD := fun ρ ω Q => To ρ ω fun ov ω1 => (∃ fds, FsOf c ov ω1 fds ∧ fds.lookup m = none) ∧ Te ρ ω1 fun y ω2 => S [ov, y] ω2 fun ys ω3 => Q (.lst ys) ω3
theorem listG_up [Amb] {te : TE} {ty : TE} {σ : L2.St} {H : Hp} {Q : VK} (hte : te = up X.K To) (u : up X.K (dListG c m S To Te) σ H Q) (hty : ∀ σ H Q, up X.K Te σ H Q → ty σ H Q) : tListG (tMethGN (Ers.ad c) m (spGU X.K S) (fun _ _ _ => False) te ty) σ H Q := by
  subst hte
  obtain ⟨h, ρ, ω, R, sl, w, t, k⟩ := u
  refine ⟨h, ρ, ω, _, sl, w, t, fun x ω1 vx H1 ⟨⟨fds0, e0, l0⟩, t1⟩ f1 w1 rx => ?_⟩
  obtain ⟨a, dx, fvs, rfl, ha1, rf⟩ := e0.at_ w1 rx
  refine ⟨a, dx, fvs, rfl, ha1, rf.none l0, hty _ _ _ ⟨h, ρ, ω1, _, sl.keep f1.kp, w1, t1, fun y ω2 vy H2 t2 f2 w2 ry => ?_⟩⟩
  refine ⟨h, _, ω2, _, .cons (rx.keep f2.kp) (.cons ry .nil), w2.drop, t2, fun ds ω3 ys H3 r3 f3 w3 ra p e => ?_⟩
  exact (k.go (f1.trans (f2.trans f3))).nlst (Wd.lift w3 (Amb.mono w2.amb f3)) r3 ra e
theorem de_listGK [Amb] {x0 : Str} {pl : Sem Bool} (cl : Cls X.K (Ers.ad c)) (C : CalG X.prog X.w X.K X.mg X.base k c m [x0] x S) (hr : Room (k + 3) X.A) (gd : X.A.guards = some []) (hg : Gl X nm) (hmg : X.mg nm = none) (ho : DE X o To) (hk : DE X ke Te) (hv : bootBuiltins nm = some (.type "list") := by decide +kernel)
    (hpl : (((backTo pos (starEach [] X.env)).any (·.1)) || (backToKw pos (keywordEach [⟨some x, ke, kp⟩] X.env)).any (·.1.isNone)) = false := by rfl)
    (hks : ((backToKw pos (keywordEach [⟨some x, ke, kp⟩] X.env)).all (·.1.isSome)) = true := by rfl) (hkn : (backToKw pos (keywordEach [⟨some x, ke, kp⟩] X.env)).filterMap (·.1) = [x] := by rfl)
    (ht : eval (.Call (.Attribute o m apos) [] [⟨some x, ke, kp⟩] pos) X.env = (do
      let ov ← eval o X.env
      standAt apos.atName
      let (f, first) ← holding [ov] (getMethod ov m pl)
      callWith pos f first (backTo pos (starEach [] X.env)) (backToKw pos (keywordEach [⟨some x, ke, kp⟩] X.env))) := by rfl)
    (hnm : nm ≠ "__name__" := by decide) (hdb : (nm == ("__debug__" : Str)) = false := by decide)
    (he : starEach [.Call (.Attribute o m apos) [] [⟨some x, ke, kp⟩] pos] X.env = (false, eval (.Call (.Attribute o m apos) [] [⟨some x, ke, kp⟩] pos) X.env) :: starEach [] X.env := by rfl) :
    DE X (.Call (.Name nm p) [.Call (.Attribute o m apos) [] [⟨some x, ke, kp⟩] pos] [] pos') (dListG c m S To Te) := by
  obtain ⟨f, fd, ds, F, hi, hfn, hkp, _, _, kb⟩ := C
  exact PE.weak (pe_listGG (pgen_kw ho cl ⟨hi, hfn, hkp⟩ F (hr.mono (by omega)) kb hk hpl hks hkn ht) hr gd hg hmg hv hnm hdb he) fun σ H Q u => listG_up rfl u fun _ _ _ z => z
theorem de_listG0K [Amb] {x0 : Str} {pl : Sem Bool} (cl : Cls X.K (Ers.ad c)) (C : CalG X.prog X.w X.K X.mg X.base k c m [x0] x S) (hr : Room (k + 3) X.A) (gd : X.A.guards = some []) (hg : Gl X nm) (hmg : X.mg nm = none) (ho : DE X o To) (hv : bootBuiltins nm = some (.type "list") := by decide +kernel)
    (ht : eval (.Call (.Attribute o m apos) [] [] pos) X.env = (do
      let ov ← eval o X.env
      standAt apos.atName
      let (f, first) ← holding [ov] (getMethod ov m pl)
      callWith pos f first (backTo pos (starEach [] X.env)) (backToKw pos (keywordEach [] X.env))) := by rfl)
    (hnm : nm ≠ "__name__" := by decide) (hdb : (nm == ("__debug__" : Str)) = false := by decide)
    (he : starEach [.Call (.Attribute o m apos) [] [] pos] X.env = (false, eval (.Call (.Attribute o m apos) [] [] pos) X.env) :: starEach [] X.env := by rfl) :
    DE X (.Call (.Name nm p) [.Call (.Attribute o m apos) [] [] pos] [] pos') (dListG c m S To (dC .non)) := by
  obtain ⟨f, fd, ds, F, hi, hfn, hkp, hvs, hb, _⟩ := C
  refine PE.weak (pe_listGG (pgen_kw0 ho cl ⟨hi, hfn, hkp⟩ F (hr.mono (by omega)) hvs hb ht) hr gd hg hmg hv hnm hdb he) fun σ H Q u => listG_up rfl u fun σ H Q ⟨h, ρ, ω, R, sl, w, t, k⟩ => ?_
  exact k.self w t .non
variable {ρ : Rho} {ω : Om} {Q : DQ}
theorem st_listG (h : To ρ ω fun ov ω1 => (∃ fds, FsOf c ov ω1 fds ∧ fds.lookup m = none) ∧ Te ρ ω1 fun y ω2 => S [ov, y] ω2 fun ys ω3 => Q (.lst ys) ω3) : dListG c m S To Te ρ ω Q := h
end
section
variable {E : DYEnds} {ds : List D} {ρ : Rho} {ω : Om} {Ta : TD} {T : TSD} {U W : TYD}
theorem st_plainY (h : T { nx := E.nx ds, rt := E.rt ds, bk := E.bk ds, ct := E.ct ds } ρ ω) : dPlainY T E ds ρ ω := h
theorem st_seqY (h : U { E with nx := W E } ds ρ ω) : dSeqY U W E ds ρ ω := h
theorem st_nextY (h : E.nx ds ρ ω) : dNextY E ds ρ ω := h
theorem st_forY {Ti : TID} {g : TGD} (h : Ti ρ ω fun xs P ω1 => ∃ I : Nat → List D → Rho → Om → Prop, I 0 ds ρ ω1 ∧ (∀ i ds ρ ω, I i ds ρ ω → P ω) ∧
  (∀ i d ds ρ ω, xs[i]? = some d → I i ds ρ ω → g d ρ ω fun ρ2 ω2 => U { E with nx := I (i + 1), ct := I (i + 1), bk := E.nx } ds ρ2 ω2) ∧ ∀ ds ρ ω, I xs.length ds ρ ω → E.nx ds ρ ω) : dForY Ti g U E ds ρ ω := h
theorem st_yield (l : ds.length < sizeLine) (h : Ta ρ ω fun d ω1 => E.nx (ds ++ [d]) ρ ω1) : dYield Ta E ds ρ ω := ⟨l, h⟩
end
end DL

/-! GK: instances of own classes one of which is below the other: isinstance, ==. -/
namespace DL
open PySem PySem.Spec L2 PyProof.Rows PySem.W
section
variable {prog : Program} {w : World} {A : Around} {E : Value → Shared → Prop} {s : Shared} {K : PySem.W.Frag} {x y C C' L f : Addr} {h₀ : Heap} {m : Str → Option Value} {ox oy : Obj} {od od' : Option Obj}
/-- x == y, y of a class below x's: y's own comes first -/
theorem rc_below {Q : Value → Shared → Prop} (hu : A.units < cLine) (X : K.In s.heap) (I : InstAt s.heap x ox C od) (J : InstAt s.heap y oy C' od') (ne : C ≠ C') (hs : subIn K (.ref C') (.ref C) = some true)
    (hf : findIn K (.ref C') "__eq__" = some (some (.ref f))) (hfn : isFn K (.ref f) = true) (h : wpAny (model prog w) A (call (.ref f) [.ref y, .ref x]) (PySem.W.CmpBack Q) E s) : wpAny (model prog w) A (richCompare .Eq (.ref x) (.ref y)) Q E s := by
  have one : wpAny (model prog w) A (tryCompare (.ref y) "__eq__" (.ref x)) (fun r s' => ∃ v, r = some v ∧ Q v s') E s := by
    unfold tryCompare
    refine wpAny_bind (ifBound_K X J hf hfn (wpAny_mono h (fun v s' hv => ?_) fun _ _ e => e))
    cases v <;> first | exact hv.elim | exact wpAny_pure ⟨_, rfl, hv⟩
  unfold richCompare
  simp only [oneThing_ref]
  refine wpAny_holding (wpAny_bind (wpAny_cRoomFor hu ?_))
  refine wpAny_bind (I.type.here (wpAny_bind (J.type.here ?_)))
  rw [if_pos (by simpa using fun z => ne z)]
  refine wpAny_bind ((looks_subIn X hs).here ?_)
  simp only [if_true]
  refine wpAny_bind (m := tryCompare (.ref y) _ (.ref x)) (wpAny_mono one (fun r s2 z => ?_) fun _ _ e => e)
  obtain ⟨v, rfl, hq⟩ := z
  exact wpAny_bind (wpAny_rule (wpAny_pure hq))
end
variable [Ers]
section
variable {X : Cx} {c d : Str} {S : SpDX} {ps : List Str} {k : Nat} {sp : Sp} {C C' f : Addr} {fd : FuncData}
/-- which of two classes is asked first -/
inductive Ord2 (K : PySem.W.Frag) (C C' : Addr) : Bool → Prop
  | left (h : notFirst K C (.ref C') = true) : Ord2 K C C' false
  | right (n : C ≠ C') (h : subIn K (.ref C') (.ref C) = some true) : Ord2 K C C' true
def rEqX (sp : Sp) (C C' : Addr) (r : Bool) : R2 := fun x y H Q => ∃ q dx fs q2 dx2 fs2, x = .ref q ∧ H q = some (.ins C dx fs) ∧ y = .ref q2 ∧ H q2 = some (.ins C' dx2 fs2) ∧ sp (if r then [.ref q2, .ref q] else [.ref q, .ref q2]) H (fun v H' => ∃ b, v = .bl b ∧ Q (.bl b) H') fun _ _ _ => False
theorem op_eqX {r : Bool} (o : Ord2 X.K C C' r) (hs : findIn X.K (.ref C) "__eq__" = some (some (.ref f))) (hs' : findIn X.K (.ref C') "__eq__" = some (some (.ref f))) (hfn : isFn X.K (.ref f) = true) (F : FnG X.prog X.w X.K X.mg X.base (L2.CX X.prog X.w) k f fd ps sp) (hr : Room k X.A) (gd : X.A.guards = some []) (hb : Binds X.K fd ps []) (hu : X.A.units < cLine) : OpR X (compareOp .Eq) (rEqX sp C C' r) := by
  rintro pins s σ H x y v u Q I rx ry ⟨q, dx, fs, q2, dx2, fs2, rfl, e2, rfl, e4, z⟩
  obtain rfl : v = Value.ref q := rx
  obtain rfl : u = Value.ref q2 := ry
  obtain ⟨mA, O, _⟩ := ins_get I.hok e2
  obtain ⟨od, J, _⟩ := O.look
  obtain ⟨mB, O2, _⟩ := ins_get I.hok e4
  obtain ⟨od2, J2, _⟩ := O2.look
  obtain ⟨m, hF⟩ := I.fr
  show wpAny _ _ (richCompare .Eq (.ref q) (.ref q2)) _ _ _
  cases o with
  | left h =>
    refine cmp_K hu hF I.ok.mod.kin J J2.type h hs hfn (wpAny_mono (runM (W := fun _ _ _ _ => False) (vs := [.ref q, .ref q2]) F hr gd I.env0 hb L2.takes0 I (.cons rfl (.cons rfl .nil)) z) (fun u' s' q => ?_) fun _ _ y => y)
    obtain ⟨v', H', I', r', b, e, q'⟩ := q
    subst e
    obtain rfl : u' = Value.bool b := r'
    exact ⟨.bl b, H', I', rfl, q'⟩
  | right n h =>
    refine rc_below hu (I.ok.mod.kin.keeps hF.keep) J J2 n h hs' hfn (wpAny_mono (runM (W := fun _ _ _ _ => False) (vs := [.ref q2, .ref q]) F hr gd I.env0 hb L2.takes0 I (.cons rfl (.cons rfl .nil)) z) (fun u' s' q => ?_) fun _ _ y => y)
    obtain ⟨v', H', I', r', b, e, q'⟩ := q
    subst e
    obtain rfl : u' = Value.bool b := r'
    exact ⟨.bl b, H', I', rfl, q'⟩
/-- == of two instances, of classes of a family whose __eq__ is one def -/
def dEqX (fam : List Str) (lt : Str → Str → Bool) (S : SpDX) : DO2 := fun x y ω R => ∃ c d fds gds, c ∈ fam ∧ d ∈ fam ∧ FsOf c x ω fds ∧ FsOf d y ω gds ∧ S (if lt d c then [y, x] else [x, y]) ω (fun v ω' => ∃ b, v = .bl b ∧ R (.bl b) ω') fun _ _ _ => False
def rEqF (K : PySem.W.Frag) (fam : List Str) (lt : Str → Str → Bool) (sp : Sp) : R2 := fun x y H Q => ∃ c d, c ∈ fam ∧ d ∈ fam ∧ rEqX sp (Ers.ad c) (Ers.ad d) (lt d c) x y H Q
theorem ok_eqX [Amb] {K : PySem.W.Frag} {fam : List Str} {lt : Str → Str → Bool} : OpD K (dEqX fam lt S) (rEqF K fam lt (spUX K S)) := by
  rintro h x y ω R vx vy H Q ⟨c, d, fds, gds, mc, md, e1, e2, hS⟩ w rx ry k
  obtain ⟨q, dx, fvs, rfl, hq, _⟩ := e1.at_ w rx
  obtain ⟨q2, dx2, fvs2, rfl, hq2, _⟩ := e2.at_ w ry
  refine ⟨c, d, mc, md, q, dx, fvs, q2, dx2, fvs2, rfl, hq, rfl, hq2, ?_⟩
  have key : spUX K S (if lt d c = true then [V.ref q2, V.ref q] else [V.ref q, V.ref q2]) H (fun v H' => ∃ b, v = .bl b ∧ Q (.bl b) H') (fun _ _ _ => False) := by
    cases hl : lt d c with
    | true =>
      rw [hl] at hS
      exact spM0 w (.cons ry (.cons rx .nil)) hS fun d ω' v H' ⟨b, e, r⟩ f' w' rp => by
        subst e
        cases rp
        exact ⟨b, rfl, k _ _ _ _ r f' w' (.bl _)⟩
    | false =>
      rw [hl] at hS
      exact spM0 w (.cons rx (.cons ry .nil)) hS fun d ω' v H' ⟨b, e, r⟩ f' w' rp => by
        subst e
        cases rp
        exact ⟨b, rfl, k _ _ _ _ r f' w' (.bl _)⟩
  exact key
/-- one def is __eq__ of the whole family -/
structure EqFam (K : PySem.W.Frag) (fam : List Str) (lt : Str → Str → Bool) (f : Addr) : Prop where
  eq : ∀ c ∈ fam, findIn K (.ref (Ers.ad c)) "__eq__" = some (some (.ref f))
  ord : ∀ c ∈ fam, ∀ d ∈ fam, Ord2 K (Ers.ad c) (Ers.ad d) (lt d c)
def CalEq (P : Program) (w : World) (K : PySem.W.Frag) (mg : Str → Option Value) (base : Heap) (k : Nat) (fam : List Str) (lt : Str → Str → Bool) (S : SpDX) : Prop :=
  ∃ f fd, FnG P w K mg base (L2.CX P w) k f fd ["self", "other"] (spUX K S) ∧ isFn K (.ref f) = true ∧ Binds K fd ["self", "other"] [] ∧ EqFam K fam lt f
theorem op_eqXC [Amb] {fam : List Str} {lt : Str → Str → Bool} (C : CalEq X.prog X.w X.K X.mg X.base k fam lt S) (hr : Room k X.A) (gd : X.A.guards = some []) (hu : X.A.units + 64 < cLine) : OpR X (compareOp .Eq) (rEqF X.K fam lt (spUX X.K S)) := by
  obtain ⟨f, fd, F, hf, hb, E⟩ := C
  rintro pins s σ H x y v u Q I rx ry ⟨c, d, mc, md, z⟩
  exact op_eqX (E.ord c mc d md) (E.eq c mc) (E.eq d md) hf F hr gd hb (by omega) pins s σ H x y v u Q I rx ry z
/-- from a method of one class to the family -/
theorem CalM.fam {P : Program} {w : World} {K : PySem.W.Frag} {mg : Str → Option Value} {base : Heap} {c : Str} {fam : List Str} {lt : Str → Str → Bool} (C : CalM P w K mg base k c "__eq__" ["self", "other"] S)
    (h : ∀ f, findIn K (.ref (Ers.ad c)) "__eq__" = some (some (.ref f)) → ∀ d ∈ fam, findIn K (.ref (Ers.ad d)) "__eq__" = some (some (.ref f))) (o : ∀ c ∈ fam, ∀ d ∈ fam, Ord2 K (Ers.ad c) (Ers.ad d) (lt d c)) : CalEq P w K mg base k fam lt S := by
  obtain ⟨f, fd, F, hi, hf, _, _, hb⟩ := C
  exact ⟨f, fd, F, hf, hb, h f hi, o⟩
end
/-! ### isinstance(x, C), x an instance of one of the program's own classes -/
section
variable {K : PySem.W.Frag} {ω : Om} {Q : DQ}
def dIsK (A : Str) (fam : List Str) (is : Str → Bool) : DOn := fun xs ω R => ∃ x c fds, xs = [x, clsD A] ∧ c ∈ fam ∧ FsOf c x ω fds ∧ R (.bl (is c)) ω
theorem ok_isK [Amb] {A : Str} {fam : List Str} {is : Str → Bool} (I : ∀ c ∈ fam, ClsI K (Ers.ad c)) (hb : blt A = false) (hk : ∀ c ∈ fam, kitOne K (.ref (Ers.ad c)) (.ref (Ers.ad A)) = some (is c)) : CallD K (dIsK A fam is) (rIsi K) := by
  rintro h xs ω R vs H Q ⟨x, c, fds, rfl, mc, F, r⟩ w rp k
  obtain ⟨v, u, rfl, r1, r2⟩ := rp.two
  have ec : clsD A = .raw (.ref (Ers.ad A)) := by unfold clsD clsV; rw [hb] <;> rfl
  rw [ec] at r2
  cases r2
  obtain ⟨a, dx, fvs, rfl, ha, _⟩ := F.at_ w r1
  have J := I c mc
  exact ⟨_, _, .ref (Ers.ad c), .ref (Ers.ad A), is c, rfl, .own _, .base (.ins ha J.cl J.ha J.hn J.htk J.hm), hk c mc, k.self w r (.bl _)⟩
theorem st_isK {A c : Str} {fam : List Str} {is : Str → Bool} {x : D} {fds : List (Str × D)} (m : c ∈ fam) (F : FsOf c x ω fds) (h : Q (.bl (is c)) ω) : dIsK A fam is [x, clsD A] ω Q := ⟨x, c, fds, rfl, m, F, h⟩
theorem st_eqX {c d : Str} {fam : List Str} {lt : Str → Str → Bool} {S : SpDX} {x y : D} {fds gds : List (Str × D)} (mc : c ∈ fam) (md : d ∈ fam) (a : FsOf c x ω fds) (b : FsOf d y ω gds) (h : S (if lt d c then [y, x] else [x, y]) ω (fun v ω' => ∃ b, v = .bl b ∧ Q (.bl b) ω') fun _ _ _ => False) : dEqX fam lt S x y ω Q := ⟨c, d, fds, gds, mc, md, a, b, h⟩
end
/-! ### Hoist and PromisedHoist -/
/-- whether d is below c -/
def ltF (d c : Str) : Bool := d == "PromisedHoist" && c == "Hoist"
/-- whether an instance of c is one of A -/
def isF (A c : Str) : Bool := A == "Hoist" || c == "PromisedHoist"
theorem kit_same {K : PySem.W.Frag} {C : Addr} : kitOne K (.ref C) (.ref C) = some true := by
  unfold kitOne
  rw [if_pos (by simp)]
theorem eqF_of {K : PySem.W.Frag} {H P fe : Addr} (adH : Ers.ad "Hoist" = H) (adP : Ers.ad "PromisedHoist" = P) (e1 : findIn K (.ref H) "__eq__" = some (some (.ref fe))) (e2 : findIn K (.ref P) "__eq__" = some (some (.ref fe))) (s1 : subIn K (.ref P) (.ref H) = some true) (s2 : subIn K (.ref H) (.ref P) = some false) :
    (∀ f, findIn K (.ref (Ers.ad "Hoist")) "__eq__" = some (some (.ref f)) → ∀ d ∈ (["Hoist", "PromisedHoist"] : List Str), findIn K (.ref (Ers.ad d)) "__eq__" = some (some (.ref f))) ∧ ∀ c ∈ (["Hoist", "PromisedHoist"] : List Str), ∀ d ∈ (["Hoist", "PromisedHoist"] : List Str), Ord2 K (Ers.ad c) (Ers.ad d) (ltF d c) := by
  have ne : H ≠ P := fun z => by rw [z] at s1 s2; rw [s1] at s2; cases s2
  refine ⟨fun f hf => all2 hf ?_, all2 (all2 ?_ ?_) (all2 ?_ ?_)⟩
  · rw [adH, e1] at hf
    rw [adP, e2, hf]
  · exact .left nf_self
  · rw [adH, adP]
    exact .right ne s1
  · rw [adH, adP]
    exact .left (by unfold notFirst; rw [s2]; simp)
  · exact .left nf_self
end DL

local macro_rules | `(tactic| walk_at "d1") => `(tactic| first | (with_reducible first | refine DL.st_seq ?_ | refine DL.st_next ?_ | refine DL.st_asg ?_ | refine DL.st_ret ?_ | refine DL.st_retN ?_ | refine DL.st_drop ?_ | refine DL.st_ifs ?_ | refine DL.st_par ?_ | refine DL.st_par' ?_ | refine DL.st_par3 ?_ | refine DL.st_par3' ?_ | refine DL.st_name ?_ | refine DL.st_gcons ?_ | refine DL.st_gnil ?_ | refine DL.st_c ?_ | refine DL.st_bin ?_ | refine DL.st_un ?_ | refine DL.st_neg ?_ | refine DL.st_addI ?_ | refine DL.st_sub ?_ | refine DL.st_b0 ?_ | refine DL.st_eqI ?_ | refine DL.st_eqStr ?_ | refine DL.st_isN ?_ | refine DL.st_gsub ?_ | refine DL.st_call ?_ | refine DL.st_cons ?_ | refine DL.st_nil ?_ | refine DL.st_lst ?_ | refine DL.st_tup ?_ | refine DL.st_lstO ?_ | refine DL.st_lenT ?_ | refine DL.st_lenL ?_ | refine DL.st_tupT ?_ | refine DL.st_tupL ?_ | refine DL.st_lstT ?_ | refine DL.st_lstL ?_ | refine DL.st_abs ?_ | refine DL.st_ii ?_ | refine DL.st_int1b ?_ | refine DL.st_int1i ?_ | refine DL.st_dic0 ?_ | refine DL.st_dic1 ?_ | refine DL.st_dic1' ?_ | refine DL.st_tst ?_ | refine DL.st_bl ?_ | refine DL.st_andT ?_ | refine DL.st_orT ?_ | refine DL.st_notT ?_ | refine DL.st_andV ?_ | refine DL.st_orV ?_ | refine DL.st_notV ?_ | refine DL.st_if ?_ | refine DL.st_chain ?_ | refine DL.st_sl ?_ | refine DL.st_slT ?_ | refine DL.st_slL ?_ | refine DL.st_nop ?_ | refine DL.st_part ?_ | refine DL.st_int ?_ | refine DL.st_negT ?_ | refine DL.st_negF ?_ | refine DL.st_sameN ?_ | refine DL.st_sameP ?_ | refine DL.st_T ?_ | refine DL.st_F ?_ | refine DL.st_T2 ?_ | refine DL.st_F2 ?_ | refine DL.st_nT ?_ | refine DL.st_nF ?_ | refine DL.st_lc ?_ | refine DL.st_lcO ?_ | refine DL.st_rng1 ?_ | refine DL.st_items ?_ | refine DL.st_itemsL ?_ | refine DL.st_itemsT ?_ | refine DL.st_enum ?_ | refine DL.st_enum' ?_ | refine DL.st_for ?_ | refine DL.st_tupRg ?_ | refine DL.st_p6 ?_ | refine DL.st_p18 ?_ | refine DL.st_p39 ?_ | refine DL.st_rev ?_ | refine DL.st_rev' ?_ | refine DL.st_soSet ?_ | refine DL.st_isB ?_ | refine DL.st_inL ?_ | refine DL.st_yes ?_ | refine DL.st_app ?_ | refine DL.st_soSetL ?_ | refine DL.st_inT ?_ | refine DL.st_eqIntsT ?_ | refine DL.st_star ?_ | refine DL.st_starT ?_ | refine DL.st_starL ?_ | refine DL.st_revL ?_ | refine DL.st_zipL ?_ | refine DL.st_joined ?_ | refine DL.st_jnil ?_ | refine DL.st_jcons ?_ | refine DL.st_fmt ?_ | refine DL.st_join ?_ | refine DL.st_join' ?_ | refine DL.st_pop ?_ | refine DL.st_dget ?_ | refine DL.st_dput ?_ | refine DL.st_zip ?_ | refine DL.st_zip' ?_ | refine DL.st_lstRgO ?_ | refine DL.st_while ?_ | refine DL.st_dic0O ?_ | refine DL.st_notB ?_ | refine DL.st_dicT ?_ | refine DL.st_dinT ?_ | refine DL.st_dputT ?_ | refine DL.st_inTups ?_ | refine DL.st_dicK ?_ | refine DL.st_itemsD ?_ | refine DL.st_setd ?_ | refine DL.st_extO ?_ | refine DL.st_rng2 ?_ | refine DL.st_callX ?_ | refine DL.st_raise ?_ | refine DL.st_soSetB ?_ | refine DL.st_ch3 ?_ | refine DL.st_dinK ?_ | refine DL.st_dgetN ?_ | refine DL.st_idx ?_ | refine DL.st_dgetT ?_ | refine DL.st_dgetTN ?_ | refine DL.st_dsetT ?_ | refine DL.st_fldS ?_ | refine DL.st_fld ?_ | refine DL.st_make ?_ | refine DL.st_makeO ?_ | refine DL.st_subM ?_ | refine DL.st_binM ?_ | refine DL.st_callM ?_ | refine DL.st_fldAug ?_ | refine DL.st_cntB ?_ | refine DL.st_idxB ?_ | refine DL.st_meth ?_ | refine DL.st_p8 ?_ | refine DL.st_callE ?_ | refine DL.st_prop ?_ | refine DL.st_methN ?_ | refine DL.st_methKw ?_ | refine DL.st_pop0 ?_ | refine DL.st_raise0 ?_ | refine DL.st_gone ?_ | refine DL.st_rng3 ?_ | refine DL.st_methNA ?_ | refine DL.st_oneOf (by assumption) ?_ | refine DL.st_oneOfS (by assumption) ?_ | refine DL.st_clsM ?_ | refine DL.st_methStar ?_ | refine DL.st_finC ?_ | refine DL.st_kget ?_ | refine DL.st_enumL ?_ | refine DL.st_enumL' ?_ | refine DL.st_tryO ?_ | refine DL.st_listG ?_ | refine DL.st_plainY ?_ | refine DL.st_seqY ?_ | refine DL.st_nextY ?_ | refine DL.st_forY ?_) | ((with_reducible refine DL.st_var (d := ?d) ?e ?_); (case e => exact rfl)) | ((with_reducible refine DL.st_gtup ?e ?_); (case e => exact rfl)) | ((with_reducible refine DL.st_sz ?e ?_); (case e => (simp only [List.length_cons, List.length_nil]; decide))) | ((with_reducible refine DL.st_isiT (t' := ?t) ?n ?e ?b ?_); (case n => decide); (case e => exact rfl); (case b => decide)) | ((with_reducible refine DL.st_isiF (t' := ?t) ?n ?e ?b ?_); (case n => decide); (case e => exact rfl); (case b => decide)))
local macro_rules | `(tactic| walk_at "ds") => `(tactic| repeat walk_at "d1")

namespace K52
open PySem PySem.Spec L2 DL
variable [Tbl]
variable [Ers]
abbrev CS_Hoist : List Str := ["Hoist", "PromisedHoist"]
abbrev CS_Promise : List Str := ["PromisedHoist"]
def prsK : List (Str × Str) := [("TooLow", "TooLow")]
def flsK : List Str := ["number"]
def T_is_number_between : TSD := (dRet (dAndV (dCall dIsi (dCons (dVar 0) (dCons (dC (.raw (.ty "int"))) dNil))) (dAndV (dNotV (dCall dIsi (dCons (dVar 0) (dCons (dC (.raw (.ty "bool"))) dNil)))) (dChain dLe dLe (dVar 1) (dVar 0) (dVar 2)))))

/-- a number from lo to hi -/
def numB : D → Int → Int → Bool
  | .int i, lo, hi => decide (lo ≤ i ∧ i ≤ hi)
  | _, _, _ => false
def S_is_number_between : SpD := fun ds ω R => ∃ v lo hi, ds = [v, .int lo, .int hi] ∧ v.ok = true ∧ R (.bl (numB v lo hi)) ω
theorem ar_is_number_between : ∀ ds ω R, S_is_number_between ds ω R → ds.length = ["value", "low", "high"].length := by
  rintro ds ω R ⟨v, lo, hi, rfl, _⟩
  rfl
theorem rd_is_number_between : ∀ ds ω R, S_is_number_between ds ω R → T_is_number_between { nx := fun _ ω' => R .non ω', rt := R } (startD ["value", "low", "high"] ds) ω := by
  rintro ds ω R ⟨v, lo, hi, rfl, ok, q⟩
  show T_is_number_between _ [some v, some (.int lo), some (.int hi)] ω
  unfold T_is_number_between
  cases v with
  | raw v => simp [D.ok] at ok
  | obj _ _ => simp [D.ok] at ok
  | int i =>
    walk_at "ds"
    refine st_dec (fun h1 => ?_) fun h1 => ?_
    · walk_at "ds"
      have e : numB (.int i) lo hi = decide (i ≤ hi) := by simp [numB, h1]
      rw [e] at q
      exact q
    · have e : numB (.int i) lo hi = false := by simp [numB, h1]
      rw [e] at q
      exact q
  | bl b => walk_at "ds"; exact q
  | _ => walk_at "ds"; exact q

def T_is_excess : TSD := (dRet (dCall (S_is_number_between) (dCons (dVar 0) (dCons (dC (.int 1)) (dCons (dC (.int 1000000)) dNil)))))

def S_is_excess : SpD := fun ds ω R => ∃ v, ds = [v] ∧ v.ok = true ∧ R (.bl (numB v 1 1000000)) ω
theorem ar_is_excess : ∀ ds ω R, S_is_excess ds ω R → ds.length = ["value"].length := by
  rintro ds ω R ⟨v, rfl, _⟩
  rfl
theorem rd_is_excess : ∀ ds ω R, S_is_excess ds ω R → T_is_excess { nx := fun _ ω' => R .non ω', rt := R } (startD ["value"] ds) ω := by
  rintro ds ω R ⟨v, rfl, ok, q⟩
  show T_is_excess _ [some v] ω
  unfold T_is_excess
  walk_at "ds"
  exact ⟨v, 1, 1000000, rfl, ok, q⟩

def T_is_weight : TSD := (dRet (dCall (S_is_number_between) (dCons (dVar 0) (dCons (dC (.int 1)) (dCons (dC (.int 1000000)) dNil)))))

def S_is_weight : SpD := fun ds ω R => ∃ v, ds = [v] ∧ v.ok = true ∧ R (.bl (numB v 1 1000000)) ω
theorem ar_is_weight : ∀ ds ω R, S_is_weight ds ω R → ds.length = ["value"].length := by
  rintro ds ω R ⟨v, rfl, _⟩
  rfl
theorem rd_is_weight : ∀ ds ω R, S_is_weight ds ω R → T_is_weight { nx := fun _ ω' => R .non ω', rt := R } (startD ["value"] ds) ω := by
  rintro ds ω R ⟨v, rfl, ok, q⟩
  show T_is_weight _ [some v] ω
  unfold T_is_weight
  walk_at "ds"
  exact ⟨v, 1, 1000000, rfl, ok, q⟩

def T_tower_error : TSD := (dSeq (dIfS (dOrT (dNotT (dTst (dCall dIsi (dCons (dVar 0) (dCons (dC (.raw (.ty "tuple"))) dNil))))) (dTst (dBin (dEq true) (dCall dLen (dCons (dVar 0) dNil)) (dC (.int 2))))) (dRet (dTup (dCons (dC .non) (dCons (dC (.str "tower")) dNil)))) dNext)
    (dSeq (dAsg (dVar 0) (dgTup 2 (dgCons (dgName 1) (dgCons (dgName 2) dgNil))))
    (dSeq (dIfS (dNotT (dTst (dCall (S_is_excess) (dCons (dVar 1) dNil)))) (dRet (dTup (dCons (dC .non) (dCons (dC (.str "excess")) dNil)))) dNext)
    (dSeq (dIfS (dOrT (dNotT (dTst (dCall dIsi (dCons (dVar 2) (dCons (dC (.raw (.ty "tuple"))) dNil))))) (dTst (dBin dGt (dCall dLen (dCons (dVar 2) dNil)) (dC (.int 24))))) (dRet (dTup (dCons (dC .non) (dCons (dC (.str "weights")) dNil)))) dNext)
    (dSeq (dFor (dEnum (dCons (dVar 2) dNil)) (dgTup 2 (dgCons (dgName 3) (dgCons (dgName 4) dgNil))) (dIfS (dNotT (dTst (dCall (S_is_weight) (dCons (dVar 4) dNil)))) (dRet (dTup (dCons (dVar 3) (dCons (dC (.str "weight")) dNil)))) dNext))
    (dRet (dC .non)))))))

def S_tower_error : SpD := fun ds ω R => ∃ (e : Int) (ws : List Int), ds = [towD e ws] ∧ 1 ≤ e ∧ e ≤ 1000000 ∧ ws.length ≤ 24 ∧ (∀ w ∈ ws, 1 ≤ w ∧ w ≤ 1000000) ∧ R .non ω
theorem ar_tower_error : ∀ ds ω R, S_tower_error ds ω R → ds.length = ["value"].length := by
  rintro ds ω R ⟨e, ws, rfl, _⟩
  rfl
theorem rd_tower_error : ∀ ds ω R, S_tower_error ds ω R → T_tower_error { nx := fun _ ω' => R .non ω', rt := R } (startD ["value", "excess", "weights", "person", "weight"] ds) ω := by
  rintro ds ω R ⟨e, ws, rfl, e0, e1, wl, hw, q⟩
  show T_tower_error _ [some (towD e ws), none, none, none, none] ω
  unfold T_tower_error
  walk_at "ds"
  rw [if_neg (by simp)]
  walk_at "ds"
  refine ⟨_, rfl, rfl, ?_⟩
  rw [show numB (.int e) 1 1000000 = true from decide_eq_true ⟨e0, e1⟩]
  walk_at "ds"
  refine st_dec (fun c => (by rw [List.length_map] at c; omega : False).elim) fun c => ?_
  walk_at "ds"
  refine ⟨fun i ρ ω' => ω' = ω ∧ ∃ v3 v4, ρ = [some (towD e ws), some (.int e), some (.tup (ws.map D.int)), v3, v4], ⟨rfl, _, _, rfl⟩, fun _ _ _ _ => trivial, ?_, ?_⟩
  · rintro i d ρ ω' ed ⟨rfl, v3, v4, rfl⟩
    obtain ⟨w, hwm, rfl⟩ : ∃ w ∈ ws, d = .tup [.int (i : Int), .int w] := by
      have li := (List.getElem?_eq_some_iff.mp ed).1
      rw [enumD_len, List.length_map] at li
      rw [enumD_get (d := .int ws[i]) (by rw [List.getElem?_map, List.getElem?_eq_getElem li]; rfl)] at ed
      cases ed
      exact ⟨_, List.getElem_mem li, rfl⟩
    walk_at "ds"
    refine ⟨_, rfl, rfl, ?_⟩
    have := hw w hwm
    rw [show numB (.int w) 1 1000000 = true from decide_eq_true ⟨this.1, this.2⟩]
    walk_at "ds"
    exact ⟨rfl, _, _, rfl⟩
  · rintro ρ ω' ⟨rfl, v3, v4, rfl⟩
    walk_at "ds"
    exact q

def T_check_number : DXS → TSD := fun RX => (dIfS (dNotT (dTst (dCall (S_is_number_between) (dCons (dVar 0) (dCons (dC (.int 0)) (dCons (dC (.int 100000000)) dNil)))))) (dRaise "BadNumber" "value" (dVar 0) RX) dNext)

def S_check_number : SpDX := fun ds ω R RX => ∃ v, ds = [v] ∧ v.ok = true ∧ (numB v 0 100000000 = true → R .non ω) ∧ (numB v 0 100000000 = false → RX "BadNumber" (some [("value", v)]) ω)
theorem ar_check_number : ∀ ds ω R RX, S_check_number ds ω R RX → ds.length = ["value"].length := by
  rintro ds ω R RX ⟨v, rfl, _⟩
  rfl
theorem rd_check_number : ∀ ds ω R RX, S_check_number ds ω R RX → T_check_number (noS RX) { nx := fun _ ω' => R .non ω', rt := R } (startD ["value"] ds) ω := by
  rintro ds ω R RX ⟨v, rfl, ok, q, qx⟩
  show T_check_number _ _ [some v] ω
  unfold T_check_number
  walk_at "ds"
  refine ⟨v, 0, 100000000, rfl, ok, ?_⟩
  cases hb : numB v 0 100000000 with
  | true => walk_at "ds"; exact q hb
  | false => walk_at "ds"; exact qx hb

def T_lighter_weight : TSD := (dSeq (dAsg (dVar 0) (dgTup 2 (dgCons (dgName 2) (dgCons (dgName 3) dgNil))))
    (dRet (dCall dSum (dCons (dLc (dItems (dVar 3)) (dgName 4) (dTst (dBin dLt (dVar 4) (dBin dIx (dVar 3) (dVar 1)))) (dVar 4) [4]) dNil))))

def S_lighter_weight : SpD := fun ds ω R => ∃ (e : D) (ws : List Int) (k : Nat), ds = [.tup [e, .tup (ws.map D.int)], .int k] ∧ k < ws.length ∧ ws.length ≤ 1000 ∧ R (.int (lite ws (ws.getD k 0))) ω
theorem ar_lighter_weight : ∀ ds ω R, S_lighter_weight ds ω R → ds.length = ["tower", "person"].length := by
  rintro ds ω R ⟨e, ws, k, rfl, _⟩
  rfl
theorem rd_lighter_weight : ∀ ds ω R, S_lighter_weight ds ω R → T_lighter_weight { nx := fun _ ω' => R .non ω', rt := R } (startD ["tower", "person", "_", "weights", "weight"] ds) ω := by
  rintro ds ω R ⟨e, ws, k, rfl, hk, hl, q⟩
  show T_lighter_weight _ [some (.tup [e, .tup (ws.map D.int)]), some (.int k), none, none, none] ω
  unfold T_lighter_weight
  walk_at "ds"
  have at1 : L2.atI (ws.map D.int) (k : Int) = some (.int (ws.getD k 0)) := by
    rw [atI_nat (by omega) (by rw [List.length_map]; omega), List.getElem_map, List.getD_eq_getElem?_getD, List.getElem?_eq_getElem hk]
    rfl
  refine lc_fun (fun d => match d with | .int v => decide (v < ws.getD k 0) | _ => false) id (by rw [List.length_map]; exact Nat.le_trans hl (by decide)) trivial (fun d Z acc hd hac k1 k2 => ?_) ?_
  · obtain ⟨n, hn, rfl⟩ := List.mem_map.mp hd
    walk_at "ds"
    refine st_ixT at1 ?_
    walk_at "ds"
    refine st_dec (fun c => ?_) fun c => ?_
    · walk_at "ds"
      exact ⟨hac, k1 (decide_eq_true c)⟩
    · exact k2 (decide_eq_false c)
  · walk_at "ds"
    rw [filt_mapI _ (fun v => decide (v < ws.getD k 0)) fun n => rfl]
    exact ⟨_, _, rfl, rfl, q⟩

def T_room_of : TSD := (dSeq (dAsg (dVar 0) (dgTup 2 (dgCons (dgName 2) (dgCons (dgName 3) dgNil))))
    (dRet (dBin dSub (dBin dAdd (dVar 2) (dCall (S_lighter_weight) (dCons (dVar 0) (dCons (dVar 1) dNil)))) (dBin dIx (dVar 3) (dVar 1)))))

def S_room_of : SpD := fun ds ω R => ∃ (e : Int) (ws : List Int) (k : Int), ds = [.tup [.int e, .tup (ws.map D.int)], .int k] ∧ 0 ≤ k ∧ k < ws.length ∧ ws.length ≤ 1000 ∧ R (.int (roomI e ws k)) ω
theorem ar_room_of : ∀ ds ω R, S_room_of ds ω R → ds.length = ["tower", "person"].length := by
  rintro ds ω R ⟨e, ws, k, rfl, _⟩
  rfl
theorem rd_room_of : ∀ ds ω R, S_room_of ds ω R → T_room_of { nx := fun _ ω' => R .non ω', rt := R } (startD ["tower", "person", "excess", "weights"] ds) ω := by
  rintro ds ω R ⟨e, ws, k, rfl, k0, k1, hl, q⟩
  show T_room_of _ [some (.tup [.int e, .tup (ws.map D.int)]), some (.int k), none, none] ω
  unfold T_room_of
  walk_at "ds"
  refine ⟨.int e, ws, k.toNat, by rw [Int.toNat_of_nonneg k0], by omega, hl, ?_⟩
  walk_at "ds"
  refine st_ixT (at_w k0 k1) ?_
  walk_at "ds"
  exact q

def T_people_by_weight : TSD := (dSeq (dAsg (dVar 0) (dgTup 2 (dgCons (dgName 1) (dgCons (dgName 2) dgNil))))
    (dRet (dSortKey (Tbl.P "people_by_weight") (lamQ "people_by_weight") 2 (dCall dLen (dCons (dVar 2) dNil)))))

def S_people_by_weight : SpD := fun ds ω R => ∃ (e : D) (ws : List Int), ds = [.tup [e, .tup (ws.map D.int)]] ∧ ws.length ≤ 1000 ∧ TabOn "people_by_weight" ω ∧ R (.lst ((LK.byW ws).map D.int)) ω
theorem ar_people_by_weight : ∀ ds ω R, S_people_by_weight ds ω R → ds.length = ["tower"].length := by
  rintro ds ω R ⟨e, ws, rfl, _⟩
  rfl
theorem rd_people_by_weight : ∀ ds ω R, S_people_by_weight ds ω R → T_people_by_weight { nx := fun _ ω' => R .non ω', rt := R } (startD ["tower", "_", "weights"] ds) ω := by
  rintro ds ω R ⟨e, ws, rfl, hl, ht, q⟩
  show T_people_by_weight _ [some (.tup [e, .tup (ws.map D.int)]), none, none] ω
  unfold T_people_by_weight
  walk_at "ds"
  show dSortKey _ _ _ _ _ _ _
  unfold dSortKey
  walk_at "ds"
  rw [List.length_map]
  exact ⟨ws, rfl, hl, ht, rfl, q⟩

def T_stuck_person : TSD := (dSeq (dFor (dItems (dCall (S_people_by_weight) (dCons (dVar 0) dNil))) (dgName 1) (dIfS (dTst (dBin dLt (dCall (S_room_of) (dCons (dVar 0) (dCons (dVar 1) dNil))) (dC (.int 0)))) (dRet (dVar 1)) dNext))
    (dRet (dC .non)))

def S_stuck_person : SpD := fun ds ω R => ∃ (e : Int) (ws : List Int), ds = [.tup [.int e, .tup (ws.map D.int)]] ∧ ws.length ≤ 1000 ∧ TabOn "people_by_weight" ω ∧ R (optD (stk e ws)) ω
theorem ar_stuck_person : ∀ ds ω R, S_stuck_person ds ω R → ds.length = ["tower"].length := by
  rintro ds ω R ⟨e, ws, rfl, _⟩
  rfl
theorem rd_stuck_person : ∀ ds ω R, S_stuck_person ds ω R → T_stuck_person { nx := fun _ ω' => R .non ω', rt := R } (startD ["tower", "person"] ds) ω := by
  rintro ds ω R ⟨e, ws, rfl, hl, ht, q⟩
  show T_stuck_person _ [some (.tup [.int e, .tup (ws.map D.int)]), none] ω
  unfold T_stuck_person
  walk_at "ds"
  refine ⟨.int e, ws, rfl, hl, ht, ?_⟩
  walk_at "ds"
  refine ⟨fun i ρ ω' => ω' = ω ∧ ∃ v, ρ = [some (.tup [.int e, .tup (ws.map D.int)]), v] ∧ stk e ws = ((LK.byW ws).drop i).find? fun p => decide (roomI e ws p < 0), ⟨rfl, _, rfl, rfl⟩, fun _ _ _ _ => trivial, ?_, ?_⟩
  · rintro i d ρ ω' ed ⟨rfl, v, rfl, hi⟩
    obtain ⟨p, ep, rfl⟩ : ∃ w, (LK.byW ws)[i]? = some w ∧ d = .int w := by
      rw [List.getElem?_map] at ed
      cases y : (LK.byW ws)[i]? with
      | none => rw [y] at ed; cases ed
      | some w => rw [y] at ed; cases ed; exact ⟨w, rfl, rfl⟩
    have hp := byW_mem.mp (List.mem_of_getElem? ep)
    obtain ⟨li, ew'⟩ := List.getElem?_eq_some_iff.mp ep
    have dr : (LK.byW ws).drop i = p :: (LK.byW ws).drop (i + 1) := by rw [← ew']; exact List.drop_eq_getElem_cons li
    rw [dr] at hi
    walk_at "ds"
    refine ⟨e, ws, p, rfl, hp.1, hp.2, hl, ?_⟩
    walk_at "ds"
    refine st_dec (fun c => ?_) fun c => ?_
    · walk_at "ds"
      rw [List.find?_cons_of_pos (by simpa using c)] at hi
      rw [hi] at q
      exact q
    · walk_at "ds"
      rw [List.find?_cons_of_neg (by simpa using c)] at hi
      exact ⟨rfl, _, rfl, hi⟩
  · rintro ρ ω' ⟨rfl, v, rfl, hi⟩
    walk_at "ds"
    rw [List.length_map, List.drop_length] at hi
    rw [hi] at q
    exact q

def T_reach_weight : TSD := (dSeq (dAsg (dVar 0) (dgTup 2 (dgCons (dgName 1) (dgCons (dgName 2) dgNil))))
    (dSeq (dAsg (dCall (S_stuck_person) (dCons (dVar 0) dNil)) (dgName 3))
    (dRet (dIf (dTst (dBin (dIsN false) (dVar 3) (dC .non))) (dCall dSumT (dCons (dVar 2) dNil)) (dCall (S_lighter_weight) (dCons (dVar 0) (dCons (dVar 3) dNil)))))))

def S_reach_weight : SpD := fun ds ω R => ∃ (e : Int) (ws : List Int), ds = [.tup [.int e, .tup (ws.map D.int)]] ∧ ws.length ≤ 1000 ∧ TabOn "people_by_weight" ω ∧ R (.int (rch e ws)) ω
theorem ar_reach_weight : ∀ ds ω R, S_reach_weight ds ω R → ds.length = ["tower"].length := by
  rintro ds ω R ⟨e, ws, rfl, _⟩
  rfl
theorem rd_reach_weight : ∀ ds ω R, S_reach_weight ds ω R → T_reach_weight { nx := fun _ ω' => R .non ω', rt := R } (startD ["tower", "_", "weights", "person"] ds) ω := by
  rintro ds ω R ⟨e, ws, rfl, hl, ht, q⟩
  show T_reach_weight _ [some (.tup [.int e, .tup (ws.map D.int)]), none, none, none] ω
  unfold T_reach_weight
  walk_at "ds"
  refine ⟨e, ws, rfl, hl, ht, ?_⟩
  cases hs : stk e ws with
  | none =>
    have er : rch e ws = ws.sum := by unfold rch; rw [hs]
    rw [er] at q
    rw [show optD none = D.non from rfl]
    walk_at "ds"
    rw [show isNonD D.non = true from rfl]
    walk_at "ds"
    exact ⟨ws, rfl, q⟩
  | some p =>
    have er : rch e ws = lite ws (wAt ws p) := by unfold rch; rw [hs]
    rw [er] at q
    obtain ⟨p0, p1, _⟩ := stk_some hs
    rw [show optD (some p) = D.int p from rfl]
    walk_at "ds"
    rw [show isNonD (D.int p) = false from rfl]
    walk_at "ds"
    exact ⟨.int e, ws, p.toNat, by show [_, D.int p] = _; rw [Int.toNat_of_nonneg p0], by omega, hl, q⟩

def T_Hoist_tower : DXS → TSD := fun RX => (dRet (dBin dIx (dSome CS_Hoist fun c => (dFld c "_towers" (dVar 0))) (dUn dNeg (dC (.int 1)))))

def S_Hoist_tower : SpDX := fun ds ω R RX => ∃ (L : Option Int) (x dx : Addr) (ts es : List D) (t : D), ds = [.raw (.ref x)] ∧ ω x = some (.ins (Ers.ad (hoC L)) dx (hoG L (ts ++ [t]) es)) ∧ R t ω
theorem ar_Hoist_tower : ∀ ds ω R RX, S_Hoist_tower ds ω R RX → ds.length = ["self"].length := by
  rintro ds ω R RX ⟨L, x, dx, ts, es, t, rfl, _⟩
  rfl
theorem rd_Hoist_tower : ∀ ds ω R RX, S_Hoist_tower ds ω R RX → T_Hoist_tower (noS RX) { nx := fun _ ω' => R .non ω', rt := R } (startD ["self"] ds) ω := by
  rintro ds ω R RX ⟨L, x, dx, ts, es, t, rfl, hx, q⟩
  have hcm := hoC_mem L
  show T_Hoist_tower _ _ [some (.raw (.ref x))] ω
  unfold T_Hoist_tower
  walk_at "ds"
  refine ⟨_, _, .own hx, rfl, ?_⟩
  walk_at "ds"
  refine st_ixT atI_last' ?_
  exact q

def T_likeness : TSD := (dSeq (dAsg (dSome CS_Hoist fun c => (dProp c S_Hoist_tower (dVar 0))) (dgTup 2 (dgCons (dgName 1) (dgCons (dgName 2) dgNil))))
    (dSeq (dAsg (dIf (dTst (dCall (dIsK "PromisedHoist" CS_Hoist (isF "PromisedHoist")) (dCons (dVar 0) (dCons (dC (clsD "PromisedHoist")) dNil)))) (dSome CS_Promise fun c => (dFld c "_least" (dVar 0))) (dC .non)) (dgName 3))
    (dRet (dTup (dCons (dVar 1) (dCons (dCall dSortedA (dCons (dVar 2) dNil)) (dCons (dVar 3) dNil)))))))

def leastD : Option Int → D
  | none => .non
  | some n => .int n
/-- what is the same for hoists that are equal -/
def likeD (L : Option Int) (e : Int) (ws : List Int) : D := .tup [.int e, .lst ((srt ws).map D.int), leastD L]
theorem eqv_least (L M : Option Int) : PyData.eqv (leastD L).py (leastD M).py = decide (L = M) := by
  cases L with
  | none => cases M <;> simp [leastD, D.py, PyData.eqv]
  | some a =>
    cases M with
    | none => simp [leastD, D.py, PyData.eqv]
    | some b =>
      simp only [leastD, D.py, PyData.eqv, Option.some.injEq]
      by_cases e : a = b <;> simp [e]
theorem like_eq {L M : Option Int} {e f : Int} {ws vs : List Int} {ω : Om} {Q : DQ} (h : Q (.bl (decide (e = f ∧ srt ws = srt vs ∧ L = M))) ω) : dEq false (likeD L e ws) (likeD M f vs) ω Q := by
  have fl : ∀ (L : Option Int) (e : Int) (ws : List Int), (likeD L e ws).flat = true ∧ SeqAt.shaped (likeD L e ws).py = true := fun L e ws => by
    have h0 := flat_ints (srt ws)
    obtain ⟨h1, h2⟩ := lay_ints (srt ws)
    cases L <;> exact ⟨by simp [likeD, leastD, D.flat, flatAll, h0], by simp [likeD, leastD, SeqAt.shaped, D.py, pyAll, PyData.canLay0, PyData.canLayAll0, PyData.depth, PyData.depthAll, h1, h2]⟩
  show eqD _ _ ∧ Q _ ω
  refine ⟨⟨(fl L e ws).1, (fl M f vs).1, (fl L e ws).2, (fl M f vs).2⟩, ?_⟩
  have ev : PyData.eqv (likeD L e ws).py (likeD M f vs).py = decide (e = f ∧ srt ws = srt vs ∧ L = M) := by
    have e1 := eqv_least L M
    have e2 := eqv_ints (srt ws) (srt vs)
    simp only [likeD, D.py, pyAll, PyData.eqv, PyData.eqvAll, e2] at e1 ⊢
    rw [e1]
    by_cases a : e = f <;> by_cases b : srt ws = srt vs <;> by_cases c : L = M <;> simp [a, b, c]
  rw [ev]
  exact h
def S_likeness : SpD := fun ds ω R => ∃ (L : Option Int) (x dx : Addr) (ts es : List D) (e : Int) (ws : List Int), ds = [.raw (.ref x)] ∧ ω x = some (.ins (Ers.ad (hoC L)) dx (hoG L (ts ++ [towD e ws]) es)) ∧ R (likeD L e ws) ω
theorem ar_likeness : ∀ ds ω R, S_likeness ds ω R → ds.length = ["hoist"].length := by
  rintro ds ω R ⟨L, x, dx, ts, es, e, ws, rfl, _⟩
  rfl
theorem rd_likeness : ∀ ds ω R, S_likeness ds ω R → T_likeness { nx := fun _ ω' => R .non ω', rt := R } (startD ["hoist", "excess", "weights", "promised"] ds) ω := by
  rintro ds ω R ⟨L, x, dx, ts, es, e, ws, rfl, hx, q⟩
  have hcm := hoC_mem L
  show T_likeness _ [some (.raw (.ref x)), none, none, none] ω
  unfold T_likeness
  walk_at "ds"
  refine ⟨⟨_, .own hx⟩, L, x, dx, ts, es, _, rfl, hx, ?_⟩
  unfold towD
  walk_at "ds"
  refine st_isK hcm (.own hx) ?_
  have mp : ("PromisedHoist" : Str) ∈ CS_Promise := List.mem_cons_self
  cases L with
  | none =>
    rw [show isF "PromisedHoist" (hoC none) = false from by decide]
    walk_at "ds"
    refine st_sortedT fun ns' hp hs => ?_
    obtain rfl : ns' = srt ws := srt_eq hp hs
    walk_at "ds"
    exact q
  | some n =>
    rw [show isF "PromisedHoist" (hoC (some n)) = true from (show isF "PromisedHoist" "PromisedHoist" = true by decide)]
    walk_at "ds"
    refine ⟨_, _, .own hx, hoG_l, ?_⟩
    walk_at "ds"
    refine st_sortedT fun ns' hp hs => ?_
    obtain rfl : ns' = srt ws := srt_eq hp hs
    walk_at "ds"
    exact q

def T__law_deck : TSD := (dRet (dLstO (dCons (dLcO (dItems (dSl (dVar 0) dNoP (dPart (dC (.int 63))))) (dgName 1) dYes (dCall dAbs (dCons (dVar 1) dNil)) [1]) (dCons (dC (.int 0)) dNil))))

/-- what was owned besides the deck is as it was -/
def ExtA (a p : Addr) (ω ω' : Om) : Prop := ∀ b, b ≠ a → b ≠ p → ω b ≠ none → ω' b = ω b
theorem ExtA.cell {a p b : Addr} {ω ω' : Om} {c : Cell} (x : ExtA a p ω ω') (na : b ≠ a) (np : b ≠ p) (e : ω b = some c) : ω' b = some c := (x b na np (by rw [e]; exact fun z => nomatch z)).trans e
theorem ExtA.of {a p : Addr} {ω ω' : Om} (x : Ext ω ω') : ExtA a p ω ω' := fun b _ _ h => x b h
theorem ExtA.trans {a p : Addr} {ω ω1 ω2 : Om} (x : ExtA a p ω ω1) (y : ExtA a p ω1 ω2) : ExtA a p ω ω2 := fun b na np h => (y b na np (by rw [x b na np h]; exact h)).trans (x b na np h)
theorem ExtA.fr {a p : Addr} {ω ω' : Om} (h : ∀ b, b ≠ a → b ≠ p → ω' b = ω b) : ExtA a p ω ω' := fun b na np _ => h b na np
/-- the deck, and all else that was owned at the start -/
def DeckX (ω0 ω : Om) (a p : Addr) (N : Nat) : Prop := DeckW ω a p N ∧ ExtA a p ω0 ω
theorem DeckX.le {ω0 ω : Om} {a p : Addr} {N M : Nat} (h : DeckX ω0 ω a p N) (l : N ≤ M) : DeckX ω0 ω a p M := ⟨h.1.le l, h.2⟩
theorem DeckX.has {ω0 ω : Om} {a p b : Addr} {N : Nat} (h : DeckX ω0 ω a p N) (e : ω b = none) : b ≠ a ∧ b ≠ p := h.1.has e
theorem DeckX.free {ω0 ω : Om} {a p b : Addr} {N : Nat} (h : DeckX ω0 ω a p N) (e : ω b = none) : ω0 b = none := by
  obtain ⟨na, np⟩ := h.has e
  cases z : ω0 b with
  | none => rfl
  | some c =>
    have y := h.2.cell na np z
    rw [e] at y
    cases y
theorem DeckX.set {ω0 ω : Om} {a p b : Addr} {N : Nat} {c : Cell} (h : DeckX ω0 ω a p N) (na : b ≠ a) (np : b ≠ p) (f : ω0 b = none) : DeckX ω0 (oset ω b c) a p N := ⟨h.1.set na np, fun x xa xp hx => by
  rw [oset_ne fun e => hx (by rw [e]; exact f)]
  exact h.2 x xa xp hx⟩
theorem DeckX.go {ω0 ω ω' : Om} {a p : Addr} {N M : Nat} (h : DeckX ω0 ω a p N) (h2 : DeckX ω ω' a p M) : DeckX ω0 ω' a p M := ⟨h2.1, h.2.trans h2.2⟩
theorem st_drawX {ω0 ω : Om} {a p : Addr} {N : Nat} {k : Int} {Q : DQ} (d : DeckX ω0 ω a p N) (hN : N ≤ 2 ^ 40) (k0 : 0 < k) (k1 : k < 2 ^ 100) (h : ∀ (i : Int) ω', 0 ≤ i → i < k → DeckX ω0 ω' a p (N + 1) → Q (.int i) ω') : DrawS [.raw (.ref a), .int k] ω Q :=
  st_drawF d.1 hN k0 k1 fun i ω' h0 h1 d' f => h i ω' h0 h1 ⟨d', d.2.trans (ExtA.fr f)⟩
theorem st_drawFX {ω0 ω : Om} {a p : Addr} {N : Nat} {k : Int} {Q : DQ} (d : DeckX ω0 ω a p N) (hN : N ≤ 2 ^ 40) (k0 : 0 < k) (k1 : k < 2 ^ 100) (h : ∀ (i : Int) ω', 0 ≤ i → i < k → DeckX ω0 ω' a p (N + 1) → (∀ b, b ≠ a → b ≠ p → ω' b = ω b) → Q (.int i) ω') : DrawS [.raw (.ref a), .int k] ω Q :=
  st_drawF d.1 hN k0 k1 fun i ω' h0 h1 d' f => h i ω' h0 h1 ⟨d', d.2.trans (ExtA.fr f)⟩ f
def S__law_deck : SpD := fun ds ω R => ∃ ns : List Int, ds = [.lst (ns.map D.int)] ∧ ∀ a p ω', DeckX ω ω' a p 0 → ω a = none → ω p = none → R (.raw (.ref a)) ω'
theorem ar__law_deck : ∀ ds ω R, S__law_deck ds ω R → ds.length = ["script"].length := by
  rintro ds ω R ⟨ns, rfl, _⟩
  rfl
theorem rd__law_deck : ∀ ds ω R, S__law_deck ds ω R → T__law_deck { nx := fun _ ω' => R .non ω', rt := R } (startD ["script", "cell"] ds) ω := by
  rintro ds ω R ⟨ns, rfl, q⟩
  show T__law_deck _ [some (.lst (ns.map D.int)), none] ω
  unfold T__law_deck
  walk_at "ds"
  rw [cut_to (by decide)]
  have l63 : ((ns.map D.int).take (63 : Int).toNat).length ≤ 63 := by rw [List.length_take]; exact Nat.min_le_left _ _
  refine lc_map (fun _ y => ∃ i, y = .int i) (fun _ ω' => ω' = ω) rfl (fun _ _ _ => trivial) (Nat.le_trans l63 (by decide)) (fun i d ω' Z e hw k => ?_) fun acc ω' hl ha hw => ?_
  · subst hw
    have ed : ∃ i, d = .int i := by
      have := List.mem_of_mem_take (List.mem_of_getElem? e)
      obtain ⟨i, _, rfl⟩ := List.mem_map.mp this
      exact ⟨i, rfl⟩
    obtain ⟨i, rfl⟩ := ed
    show dgName 1 _ (wipeD [some (.lst (ns.map D.int)), none] [1]) _ _
    walk_at "ds"
    exact k _ _ ⟨_, rfl⟩ rfl
  · subst hw
    intro p hp
    walk_at "ds"
    intro a ha2
    obtain ⟨cells, rfl⟩ := ints_of (xs := acc) fun x hx => by
      obtain ⟨j, hj, ej⟩ := List.mem_iff_getElem.mp hx
      obtain ⟨_, _, h⟩ := ha j x (by rw [List.getElem?_eq_getElem hj, ej])
      exact h
    have nap : a ≠ p := fun z => by
      rw [z, oset_same] at ha2
      cases ha2
    have ha0 : ω' a = none := by rw [oset_ne nap] at ha2; exact ha2
    refine q a p _ ⟨⟨nap, cells, 0, oset_same, by rw [oset_ne (Ne.symm nap), oset_same], Nat.le_refl _, ?_⟩, fun b n1 n2 _ => by rw [oset_ne n1, oset_ne n2]⟩ ha0 hp
    rw [List.length_map] at hl
    omega

def T__law_draw : TSD := (dSeq (dAsg (dBin dAdd (dBin dIx (dVar 0) (dC (.int 1))) (dC (.int 1))) (dgSub (dVar 0) (dC (.int 1))))
    (dSeq (dAsg (dC (.int 0)) (dgName 2))
    (dSeq (dAsg (dUn dNeg (dC (.int 1))) (dgName 3))
    (dSeq (dIfS (dTst (dBin dGt (dCall dLen (dCons (dBin dIx (dVar 0) (dC (.int 0))) dNil)) (dC (.int 0)))) (dSeq (dAsg (dBin dMod (dBin dIx (dVar 0) (dC (.int 1))) (dCall dLen (dCons (dBin dIx (dVar 0) (dC (.int 0))) dNil))) (dgName 3))
    (dAsg (dBin dIx (dBin dIx (dVar 0) (dC (.int 0))) (dVar 3)) (dgName 2))) dNext)
    (dSeq (dIfS (dTst (dBin dGe (dVar 2) (dBin dPow (dC (.int 10)) (dC (.int 18))))) (dSeq (dAsg (dBin dFdv (dVar 2) (dVar 1)) (dgSub (dBin dIx (dVar 0) (dC (.int 0))) (dVar 3)))
    (dRet (dBin dMod (dVar 2) (dVar 1)))) dNext)
    (dRet (dBin dMod (dBin dMod (dBin dPow (dBin dAdd (dBin dAdd (dBin dMod (dVar 2) (dC (.int 2147483587))) (dBin dMul (dC (.int 7919)) (dBin dIx (dVar 0) (dC (.int 1))))) (dC (.int 1))) (dC (.int 5))) (dC (.int 2147483647))) (dVar 1))))))))

def S__law_draw : SpD := DrawS
theorem ar__law_draw : ∀ ds ω R, S__law_draw ds ω R → ds.length = ["deck", "many"].length := by
  rintro ds ω R ⟨a, p, N, k, rfl, _⟩
  rfl
theorem rd__law_draw : ∀ ds ω R, S__law_draw ds ω R → T__law_draw { nx := fun _ ω' => R .non ω', rt := R } (startD ["deck", "many", "cell", "place"] ds) ω := by
  rintro ds ω R ⟨a, p, N, k, rfl, k0, k1, ⟨nap, cells, n, ha, hp, hn, hl⟩, hN, q⟩
  show T__law_draw _ [some (.raw (.ref a)), some (.int k), none, none] ω
  unfold T__law_draw
  walk_at "ds"
  refine st_ixO ha atI_1 ?_
  walk_at "ds"
  refine st_gsub' ha (ixN_nat (by decide) (by simp only [List.length_cons, List.length_nil]; decide)) ?_
  -- the count is one more
  have e1 : (n : Int) + 1 = ((n + 1 : Nat) : Int) := by omega
  rw [e1]
  have ha1 : oset ω a (.lst ([D.raw (.ref p), D.int n].set (1 : Int).toNat (D.int ((n + 1 : Nat) : Int)))) a = some (.lst [.raw (.ref p), .int ((n + 1 : Nat) : Int)]) := oset_same
  have hp1 : oset ω a (.lst ([D.raw (.ref p), D.int n].set (1 : Int).toNat (D.int ((n + 1 : Nat) : Int)))) p = some (.lst (cells.map D.int)) := by rw [oset_ne (Ne.symm nap)]; exact hp
  have hb1 : ∀ b, b ≠ a → b ≠ p → oset ω a (.lst ([D.raw (.ref p), D.int n].set (1 : Int).toNat (D.int ((n + 1 : Nat) : Int)))) b = ω b := fun b h _ => oset_ne h
  generalize oset ω a (.lst ([D.raw (.ref p), D.int n].set (1 : Int).toNat (D.int ((n + 1 : Nat) : Int)))) = ω1 at ha1 hp1 hb1 ⊢
  have D1 : Deck ω1 a p (N + 1) := ⟨nap, cells, n + 1, ha1, hp1, by omega, hl⟩
  -- the last row, whatever the cell is
  have last : ∀ c i : D, ∀ x : Int, c = .int x → dRet (dBin dMod (dBin dMod (dBin dPow (dBin dAdd (dBin dAdd (dBin dMod (dVar 2) (dC (.int 2147483587))) (dBin dMul (dC (.int 7919)) (dBin dIx (dVar 0) (dC (.int 1))))) (dC (.int 1))) (dC (.int 5))) (dC (.int 2147483647))) (dVar 1))
      { nx := fun _ ω' => R .non ω', rt := R } [some (.raw (.ref a)), some (.int k), some c, some i] ω1 := by
    rintro c i x rfl
    walk_at "ds"
    refine st_mod (by decide) ?_
    walk_at "ds"
    refine st_ixO ha1 atI_1 ?_
    walk_at "ds"
    refine st_mulI (.inl (by decide)) ?_
    walk_at "ds"
    have m0 : 0 ≤ x % 2147483587 := Int.emod_nonneg _ (by decide)
    have m1 : x % 2147483587 < 2147483587 := Int.emod_lt_of_pos _ (by decide)
    refine st_pow (pow_lt64 (by omega) (by omega)) ?_
    walk_at "ds"
    refine st_mod (by decide) ?_
    walk_at "ds"
    refine st_mod k0 ?_
    exact q _ ω1 (Int.emod_nonneg _ (by omega)) (Int.emod_lt_of_pos _ k0) D1 hb1
  walk_at "ds"
  refine st_ixO ha1 atI_0 ?_
  walk_at "ds"
  refine st_lenO hp1 ?_
  walk_at "ds"
  rw [List.length_map]
  refine st_dec (fun hc => ?_) fun hc => ?_
  · -- a cell is taken
    walk_at "ds"
    refine st_ixO ha1 atI_1 ?_
    walk_at "ds"
    refine st_ixO ha1 atI_0 ?_
    walk_at "ds"
    refine st_lenO hp1 ?_
    rw [List.length_map]
    refine st_mod hc ?_
    have i0 : 0 ≤ ((n + 1 : Nat) : Int) % (cells.length : Int) := Int.emod_nonneg _ (by omega)
    have i1 : ((n + 1 : Nat) : Int) % (cells.length : Int) < (cells.length : Int) := Int.emod_lt_of_pos _ hc
    generalize ((n + 1 : Nat) : Int) % (cells.length : Int) = i at i0 i1
    walk_at "ds"
    refine st_ixO ha1 atI_0 ?_
    walk_at "ds"
    refine st_ixO hp1 (atI_nat i0 (by rw [List.length_map]; exact i1)) ?_
    rw [List.getElem_map]
    generalize cells[i.toNat] = x
    walk_at "ds"
    refine st_dec (fun hx => ?_) fun hx => ?_
    · walk_at "ds"
      refine st_fdv (divW k0 (by omega)) ?_
      walk_at "ds"
      refine st_ixO ha1 atI_0 ?_
      walk_at "ds"
      refine st_gsub' hp1 (ixN_nat i0 (by rw [List.length_map]; exact i1)) ?_
      walk_at "ds"
      refine st_mod k0 ?_
      refine q _ _ (Int.emod_nonneg _ (by omega)) (Int.emod_lt_of_pos _ k0) ⟨nap, cells.set i.toNat (x / k), n + 1, ?_, ?_, by omega, by rw [List.length_set]; exact hl⟩ fun b h1 h2 => ?_
      · rw [oset_ne nap]; exact ha1
      · rw [oset_same, List.map_set]
      · rw [oset_ne h2]; exact hb1 b h1 h2
    · exact last (.int x) (.int i) x rfl
  · walk_at "ds"
    refine st_dec (fun hx => ?_) fun hx => ?_
    · exact absurd hx (by decide)
    · exact last (.int 0) (.int (-1)) 0 rfl

def T__law_weight : TSD := (dSeq (dAsg (dCall dSumT (dCons (dVar 2) dNil)) (dgName 3))
    (dSeq (dAsg (dLst (dCons (dBin dAdd (dC (.int 1)) (dCall (S__law_draw) (dCons (dVar 0) (dCons (dC (.int 6)) dNil)))) (dCons (dBin dAdd (dVar 3) (dVar 1)) (dCons (dBin dAdd (dBin dAdd (dVar 3) (dVar 1)) (dC (.int 1))) (dCons (dBin dAdd (dC (.int 1)) (dCall (S__law_draw) (dCons (dVar 0) (dCons (dC (.int 40)) dNil)))) (dCons (dBin dSub (dVar 3) (dC (.int 1))) dNil)))))) (dgName 4))
    (dRet (dCall dMax2 (dCons (dC (.int 1)) (dCons (dCall dMin2 (dCons (dBin dPow (dC (.int 10)) (dC (.int 6))) (dCons (dBin dIx (dBin dAdd (dVar 4) (dLst (dCons (dBin dAdd (dC (.int 1)) (dCall (S__law_draw) (dCons (dVar 0) (dCons (dBin dPow (dC (.int 10)) (dC (.int 6))) dNil)))) dNil))) (dCall (S__law_draw) (dCons (dVar 0) (dCons (dC (.int 6)) dNil)))) dNil))) dNil))))))

def S__law_weight : SpD := fun ds ω R => ∃ (ω0 : Om) (a p : Addr) (N : Nat) (e : Int) (ws : List Int), ds = [.raw (.ref a), .int e, .tup (ws.map D.int)] ∧ DeckX ω0 ω a p N ∧ N ≤ 2 ^ 39 ∧ ws.length ≤ 1000 ∧
  ∀ (w : Int) ω', 1 ≤ w → w ≤ 1000000 → DeckX ω0 ω' a p (N + 4) → R (.int w) ω'
theorem ar__law_weight : ∀ ds ω R, S__law_weight ds ω R → ds.length = ["deck", "excess", "weights"].length := by
  rintro ds ω R ⟨ω0, a, p, N, e, ws, rfl, _⟩
  rfl
theorem rd__law_weight : ∀ ds ω R, S__law_weight ds ω R → T__law_weight { nx := fun _ ω' => R .non ω', rt := R } (startD ["deck", "excess", "weights", "total", "some"] ds) ω := by
  rintro ds ω R ⟨ω0, a, p, N, e, ws, rfl, hd, hN, hl, q⟩
  show T__law_weight _ [some (.raw (.ref a)), some (.int e), some (.tup (ws.map D.int)), none, none] ω
  unfold T__law_weight
  walk_at "ds"
  refine ⟨ws, rfl, ?_⟩
  walk_at "ds"
  refine st_drawX hd (by omega) (by decide) (by decide) fun i1 ω1 a0 a1 d1 => ?_
  walk_at "ds"
  refine st_drawX d1 (by omega) (by decide) (by decide) fun i2 ω2 b0 b1 d2 => ?_
  walk_at "ds"
  refine st_drawX d2 (by omega) (by decide) (by decide) fun i3 ω3 c0 c1 d3 => ?_
  walk_at "ds"
  refine st_addL (by simp only [List.length_cons, List.length_nil]; decide) ?_
  walk_at "ds"
  refine st_drawX d3 (by omega) (by decide) (by decide) fun i4 ω4 e0 e1 d4 => ?_
  walk_at "ds"
  refine st_pick (fun d => ∃ n, d = .int n) e0 (by simpa using e1) (all_cons ⟨_, rfl⟩ (all_cons ⟨_, rfl⟩ (all_cons ⟨_, rfl⟩ (all_cons ⟨_, rfl⟩ (all_cons ⟨_, rfl⟩ (all_cons ⟨_, rfl⟩ all_nil)))))) ?_
  rintro _ ⟨wn, rfl⟩
  walk_at "ds"
  generalize hnw : (if (if wn < 1000000 then wn else (1000000 : Int)) > 1 then (if wn < 1000000 then wn else (1000000 : Int)) else (1 : Int)) = nw
  have nb : 1 ≤ nw ∧ nw ≤ 1000000 := by
    rw [← hnw]
    constructor <;> (split <;> (try split) <;> omega)
  exact q nw ω4 nb.1 nb.2 d4

def T__law_tower : TSD := (dSeq (dPar 2 3 (dCons (dBin dAdd (dC (.int 1)) (dCall (S__law_draw) (dCons (dVar 0) (dCons (dBin dIx (dLst (dCons (dC (.int 3)) (dCons (dC (.int 20)) (dCons (dBin dPow (dC (.int 10)) (dC (.int 6))) dNil)))) (dCall (S__law_draw) (dCons (dVar 0) (dCons (dC (.int 3)) dNil)))) dNil)))) (dCons (dTup dNil) dNil)))
    (dSeq (dFor (dRng1 (dCons (dCall (S__law_draw) (dCons (dVar 0) (dCons (dBin dAdd (dVar 1) (dC (.int 1))) dNil))) dNil)) (dgName 4) (dSeq (dAsg (dCall (S__law_draw) (dCons (dVar 0) (dCons (dBin dAdd (dCall dLen (dCons (dVar 3) dNil)) (dC (.int 1))) dNil))) (dgName 5))
    (dAsg (dBin dAdd (dBin dAdd (dSl (dVar 3) dNoP (dPart (dVar 5))) (dTup (dCons (dCall (S__law_weight) (dCons (dVar 0) (dCons (dVar 2) (dCons (dVar 3) dNil)))) dNil))) (dSl (dVar 3) (dPart (dVar 5)) dNoP)) (dgName 3))))
    (dRet (dTup (dCons (dVar 2) (dCons (dVar 3) dNil))))))

def S__law_tower : SpD := fun ds ω R => ∃ (ω0 : Om) (a p : Addr) (N : Nat) (most : Int), ds = [.raw (.ref a), .int most] ∧ DeckX ω0 ω a p N ∧ N ≤ 2 ^ 38 ∧ 0 ≤ most ∧ most ≤ 24 ∧
  ∀ (e : Int) (ws : List Int) ω', 1 ≤ e → e ≤ 1000000 → (ws.length : Int) ≤ most → (∀ w ∈ ws, 1 ≤ w ∧ w ≤ 1000000) → DeckX ω0 ω' a p (N + 200) → R (.tup [.int e, .tup (ws.map D.int)]) ω'
theorem ar__law_tower : ∀ ds ω R, S__law_tower ds ω R → ds.length = ["deck", "most"].length := by
  rintro ds ω R ⟨ω0, a, p, N, most, rfl, _⟩
  rfl
theorem rd__law_tower : ∀ ds ω R, S__law_tower ds ω R → T__law_tower { nx := fun _ ω' => R .non ω', rt := R } (startD ["deck", "most", "excess", "weights", "k", "at"] ds) ω := by
  rintro ds ω R ⟨ω0, a, p, N, most, rfl, hd, hN, m0, m1, q⟩
  show T__law_tower _ [some (.raw (.ref a)), some (.int most), none, none, none, none] ω
  unfold T__law_tower
  walk_at "ds"
  refine st_drawX hd (by omega) (by decide) (by decide) fun c ω1 c0 c1 d1 => ?_
  refine st_pick (fun d => ∃ n, d = .int n ∧ 1 ≤ n ∧ n ≤ 1000000) c0 (by simpa using c1) (all_cons ⟨3, rfl, by decide, by decide⟩ (all_cons ⟨20, rfl, by decide, by decide⟩ (all_cons ⟨_, rfl, by decide, by decide⟩ all_nil))) ?_
  rintro _ ⟨n, rfl, n1, n2⟩
  walk_at "ds"
  refine st_drawX d1 (by omega) (by omega) (by omega) fun x ω2 x0 x1 d2 => ?_
  walk_at "ds"
  refine st_drawX d2 (by omega) (by omega) (by omega) fun cnt ω3 k0 k1 d3 => ?_
  walk_at "ds"
  refine st_rng1' (by omega) (by omega) ?_
  refine ⟨fun i ρ ω' => ∃ v4 v5, ∃ fs : List Int, ρ = [some (.raw (.ref a)), some (.int most), some (.int (1 + x)), some (.tup (fs.map D.int)), v4, v5] ∧ (i : Int) ≤ cnt ∧ fs.length = i ∧ (∀ w ∈ fs, 1 ≤ w ∧ w ≤ 1000000) ∧ DeckX ω0 ω' a p (N + 3 + 5 * i), ⟨_, _, [], rfl, k0, rfl, fun _ h => (nomatch h), d3⟩, fun _ _ _ _ => trivial, ?_, ?_⟩
  · rintro i d ρ ω6 ed ⟨v4, v5, fs, rfl, hi, fl, hfs, d6⟩
    have li : (i : Int) < cnt := by
      have z := (List.getElem?_eq_some_iff.mp ed).1
      rw [rngD_len] at z
      omega
    walk_at "ds"
    rw [List.length_map]
    refine st_drawX d6 (by omega) (by omega) (by omega) fun j ω7 j0 j1 d7 => ?_
    walk_at "ds"
    rw [cut_to j0]
    refine ⟨ω0, a, p, _, 1 + x, fs, rfl, d7, by omega, by omega, fun w ω8 w0 w1 d8 => ?_⟩
    walk_at "ds"
    refine st_addT (size100 (by simp only [List.length_cons, List.length_nil, List.length_take, List.length_map]; omega)) ?_
    walk_at "ds"
    rw [cut_from j0]
    refine st_addT (size100 (by simp only [List.length_append, List.length_cons, List.length_nil, List.length_take, List.length_drop, List.length_map]; omega)) ?_
    walk_at "ds"
    rw [show List.take j.toNat (fs.map D.int) ++ [D.int w] ++ List.drop j.toNat (fs.map D.int) = (fs.take j.toNat ++ w :: fs.drop j.toNat).map D.int by simp [List.map_take, List.map_drop]]
    refine ⟨_, _, fs.take j.toNat ++ w :: fs.drop j.toNat, rfl, by omega, ?_, fun u hu => ?_, d8.le (by omega)⟩
    · simp only [List.length_append, List.length_cons, List.length_take, List.length_drop]
      omega
    · rcases List.mem_append.mp hu with z | z
      · exact hfs u (List.mem_of_mem_take z)
      · rcases List.mem_cons.mp z with z | z
        · omega
        · exact hfs u (List.mem_of_mem_drop z)
  · rintro ρ ω6 ⟨v4, v5, fs, rfl, hi, fl, hfs, d6⟩
    rw [rngD_len] at fl hi d6
    walk_at "ds"
    exact q (1 + x) fs ω6 (by omega) (by omega) (by omega) hfs (d6.le (by omega))

def T__law_after : TSD := (dSeq (dAsg (dVar 0) (dgTup 2 (dgCons (dgName 2) (dgCons (dgName 3) dgNil))))
    (dSeq (dIfS (dTst (dBin (dEq false) (dBin dIx (dVar 1) (dC (.int 0))) (dC (.str "come")))) (dRet (dTup (dCons (dVar 2) (dCons (dBin dAdd (dVar 3) (dTup (dCons (dBin dIx (dVar 1) (dC (.int 1))) dNil))) dNil)))) dNext)
    (dSeq (dIfS (dTst (dBin (dEq false) (dBin dIx (dVar 1) (dC (.int 0))) (dC (.str "leave")))) (dRet (dTup (dCons (dVar 2) (dCons (dBin dAdd (dSl (dVar 3) dNoP (dPart (dBin dIx (dVar 1) (dC (.int 1))))) (dSl (dVar 3) (dPart (dBin dAdd (dBin dIx (dVar 1) (dC (.int 1))) (dC (.int 1)))) dNoP)) dNil)))) dNext)
    (dSeq (dIfS (dTst (dBin (dEq false) (dBin dIx (dVar 1) (dC (.int 0))) (dC (.str "weigh")))) (dRet (dTup (dCons (dVar 2) (dCons (dBin dAdd (dBin dAdd (dSl (dVar 3) dNoP (dPart (dBin dIx (dVar 1) (dC (.int 1))))) (dTup (dCons (dBin dIx (dVar 1) (dC (.int 2))) dNil))) (dSl (dVar 3) (dPart (dBin dAdd (dBin dIx (dVar 1) (dC (.int 1))) (dC (.int 1)))) dNoP)) dNil)))) dNext)
    (dRet (dTup (dCons (dBin dIx (dVar 1) (dC (.int 1))) (dCons (dVar 3) dNil))))))))

def S__law_after : SpD := fun ds ω R => ∃ (e : Int) (ws : List Int) (d : Ed), ds = [towD e ws, d.d] ∧ TowOk e ws ∧ d.can ws ∧ R (towD (d.e e) (d.ws ws)) ω
theorem ar__law_after : ∀ ds ω R, S__law_after ds ω R → ds.length = ["tower", "edit"].length := by
  rintro ds ω R ⟨e, ws, d, rfl, _⟩
  rfl
theorem rd__law_after : ∀ ds ω R, S__law_after ds ω R → T__law_after { nx := fun _ ω' => R .non ω', rt := R } (startD ["tower", "edit", "excess", "weights"] ds) ω := by
  rintro ds ω R ⟨e, ws, d, rfl, ht, hc, q⟩
  obtain ⟨_, _, hl, _⟩ := ht
  cases d with
  | come w =>
    show T__law_after _ [some (towD e ws), some (.tup [.str "come", .int w]), none, none] ω
    unfold T__law_after
    walk_at "ds"
    refine st_ixT (i := 0) rfl ?_
    walk_at "ds"
    refine st_ixT (i := 1) rfl ?_
    walk_at "ds"
    refine st_addT (by rw [List.length_map]; exact size100 (by simp only [List.length_cons, List.length_nil]; omega)) ?_
    walk_at "ds"
    rw [show ws.map D.int ++ [D.int w] = (ws ++ [w]).map D.int by rw [List.map_append]; rfl]
    exact q
  | leave k =>
    show T__law_after _ [some (towD e ws), some (.tup [.str "leave", .int k]), none, none] ω
    unfold T__law_after
    walk_at "ds"
    refine st_ixT (i := 0) rfl ?_
    walk_at "ds"
    rw [if_neg (by decide)]
    walk_at "ds"
    refine st_ixT (i := 0) rfl ?_
    walk_at "ds"
    refine st_ixT (i := 1) rfl ?_
    walk_at "ds"
    refine st_ixT (i := 1) rfl ?_
    walk_at "ds"
    have k0 : 0 ≤ k := hc.1
    rw [cut_to k0, cut_from (show 0 ≤ k + 1 by omega)]
    refine st_addT (size100 (by simp only [List.length_take, List.length_drop, List.length_map]; omega)) ?_
    walk_at "ds"
    rw [show List.take k.toNat (ws.map D.int) ++ List.drop (k + 1).toNat (ws.map D.int) = (ws.take k.toNat ++ ws.drop (k + 1).toNat).map D.int by simp [List.map_take, List.map_drop]]
    exact q
  | weigh k w =>
    show T__law_after _ [some (towD e ws), some (.tup [.str "weigh", .int k, .int w]), none, none] ω
    unfold T__law_after
    walk_at "ds"
    refine st_ixT (i := 0) rfl ?_
    walk_at "ds"
    rw [if_neg (by decide)]
    walk_at "ds"
    refine st_ixT (i := 0) rfl ?_
    walk_at "ds"
    rw [if_neg (by decide)]
    walk_at "ds"
    refine st_ixT (i := 0) rfl ?_
    walk_at "ds"
    refine st_ixT (i := 1) rfl ?_
    walk_at "ds"
    refine st_ixT (i := 2) rfl ?_
    walk_at "ds"
    have k0 : 0 ≤ k := hc.1
    rw [cut_to k0]
    refine st_addT (size100 (by simp only [List.length_take, List.length_cons, List.length_nil, List.length_map]; omega)) ?_
    walk_at "ds"
    refine st_ixT (i := 1) rfl ?_
    walk_at "ds"
    rw [cut_from (show 0 ≤ k + 1 by omega)]
    refine st_addT (size100 (by simp only [List.length_append, List.length_cons, List.length_nil, List.length_take, List.length_drop, List.length_map]; omega)) ?_
    walk_at "ds"
    rw [show List.take k.toNat (ws.map D.int) ++ [D.int w] ++ List.drop (k + 1).toNat (ws.map D.int) = (ws.take k.toNat ++ w :: ws.drop (k + 1).toNat).map D.int by simp [List.map_take, List.map_drop]]
    exact q
  | loosen u =>
    show T__law_after _ [some (towD e ws), some (.tup [.str "loosen", .int u]), none, none] ω
    unfold T__law_after
    walk_at "ds"
    refine st_ixT (i := 0) rfl ?_
    walk_at "ds"
    rw [if_neg (by decide)]
    walk_at "ds"
    refine st_ixT (i := 0) rfl ?_
    walk_at "ds"
    rw [if_neg (by decide)]
    walk_at "ds"
    refine st_ixT (i := 0) rfl ?_
    walk_at "ds"
    rw [if_neg (by decide)]
    walk_at "ds"
    refine st_ixT (i := 1) rfl ?_
    walk_at "ds"
    exact q

def T__law_edit : TSD := (dSeq (dAsg (dVar 1) (dgTup 2 (dgCons (dgName 2) (dgCons (dgName 3) dgNil))))
    (dSeq (dAsg (dCall (S__law_draw) (dCons (dVar 0) (dCons (dC (.int 7)) dNil))) (dgName 4))
    (dSeq (dIfS (dOrT (dTst (dBin (dEq false) (dVar 4) (dC (.int 0)))) (dAndT (dTst (dBin (dEq false) (dVar 3) (dTup dNil))) (dTst (dBin dLt (dVar 4) (dC (.int 3)))))) (dSeq (dAsg (dLst (dCons (dBin dAdd (dC (.int 1)) (dCall (S__law_draw) (dCons (dVar 0) (dCons (dC (.int 9)) dNil)))) (dCons (dCall dMin2 (dCons (dBin dPow (dC (.int 10)) (dC (.int 6))) (dCons (dBin dAdd (dVar 2) (dC (.int 1))) dNil))) (dCons (dCall dMax2 (dCons (dC (.int 1)) (dCons (dBin dSub (dVar 2) (dC (.int 1))) dNil))) dNil)))) (dgName 5))
    (dRet (dTup (dCons (dC (.str "loosen")) (dCons (dBin dIx (dVar 5) (dCall (S__law_draw) (dCons (dVar 0) (dCons (dC (.int 3)) dNil)))) dNil))))) dNext)
    (dSeq (dIfS (dOrT (dTst (dBin (dEq false) (dVar 4) (dC (.int 1)))) (dAndT (dTst (dBin (dEq false) (dCall dLen (dCons (dVar 3) dNil)) (dC (.int 24)))) (dTst (dBin dGt (dVar 4) (dC (.int 2)))))) (dRet (dTup (dCons (dC (.str "leave")) (dCons (dCall (S__law_draw) (dCons (dVar 0) (dCons (dCall dLen (dCons (dVar 3) dNil)) dNil))) dNil)))) dNext)
    (dSeq (dIfS (dTst (dBin (dEq false) (dVar 4) (dC (.int 2)))) (dRet (dTup (dCons (dC (.str "weigh")) (dCons (dCall (S__law_draw) (dCons (dVar 0) (dCons (dCall dLen (dCons (dVar 3) dNil)) dNil))) (dCons (dCall (S__law_weight) (dCons (dVar 0) (dCons (dVar 2) (dCons (dVar 3) dNil)))) dNil))))) dNext)
    (dRet (dTup (dCons (dC (.str "come")) (dCons (dCall (S__law_weight) (dCons (dVar 0) (dCons (dVar 2) (dCons (dVar 3) dNil)))) dNil)))))))))

def S__law_edit : SpD := fun ds ω R => ∃ (ω0 : Om) (a p : Addr) (N : Nat) (e : Int) (ws : List Int), ds = [.raw (.ref a), towD e ws] ∧ DeckX ω0 ω a p N ∧ N ≤ 2 ^ 38 ∧ TowOk e ws ∧
  ∀ (d : Ed) ω', d.can ws → DeckX ω0 ω' a p (N + 10) → R d.d ω'
theorem ar__law_edit : ∀ ds ω R, S__law_edit ds ω R → ds.length = ["deck", "tower"].length := by
  rintro ds ω R ⟨ω0, a, p, N, e, ws, rfl, _⟩
  rfl
theorem rd__law_edit : ∀ ds ω R, S__law_edit ds ω R → T__law_edit { nx := fun _ ω' => R .non ω', rt := R } (startD ["deck", "tower", "excess", "weights", "way", "near"] ds) ω := by
  rintro ds ω R ⟨ω0, a, p, N, e, ws, rfl, hd, hN, ht, q⟩
  obtain ⟨e0, e1, wl, hw⟩ := ht
  show T__law_edit _ [some (.raw (.ref a)), some (towD e ws), none, none, none, none] ω
  unfold T__law_edit
  walk_at "ds"
  refine st_drawX hd (by omega) (by decide) (by decide) fun way ω1 w0 w1 d1 => ?_
  walk_at "ds"
  refine st_dec (fun c0 => ?_) fun c0 => ?_
  · walk_at "ds"
    refine st_drawX d1 (by omega) (by decide) (by decide) fun i ω2 i0 i1 d2 => ?_
    walk_at "ds"
    refine st_drawX d2 (by omega) (by decide) (by decide) fun j ω3 j0 j1 d3 => ?_
    refine st_pick (fun d => ∃ n, d = .int n ∧ 1 ≤ n ∧ n ≤ 1000000) j0 (by simpa using j1) (all_cons ⟨_, rfl, by omega, by omega⟩ (all_cons ⟨_, rfl, by split <;> omega, by split <;> omega⟩ (all_cons ⟨_, rfl, by split <;> omega, by split <;> omega⟩ all_nil))) ?_
    rintro _ ⟨n, rfl, n0, n1⟩
    walk_at "ds"
    exact q (.loosen n) ω3 ⟨n0, n1⟩ (d3.le (by omega))
  · walk_at "ds"
    refine st_eqIntsT (ms := []) ?_
    walk_at "ds"
    rw [if_neg (show ¬ (false = true) by decide)]
    refine st_dec (fun cn => ?_) fun cn => ?_
    · walk_at "ds"
      refine st_dec (fun c3 => ?_) fun c3 => ?_
      · walk_at "ds"
        refine st_drawX d1 (by omega) (by decide) (by decide) fun i ω2 i0 i1 d2 => ?_
        walk_at "ds"
        refine st_drawX d2 (by omega) (by decide) (by decide) fun j ω3 j0 j1 d3 => ?_
        refine st_pick (fun d => ∃ n, d = .int n ∧ 1 ≤ n ∧ n ≤ 1000000) j0 (by simpa using j1) (all_cons ⟨_, rfl, by omega, by omega⟩ (all_cons ⟨_, rfl, by split <;> omega, by split <;> omega⟩ (all_cons ⟨_, rfl, by split <;> omega, by split <;> omega⟩ all_nil))) ?_
        rintro _ ⟨n, rfl, n0, n1⟩
        walk_at "ds"
        exact q (.loosen n) ω3 ⟨n0, n1⟩ (d3.le (by omega))
      · have cz : ws ≠ [] ∨ 3 ≤ way := .inr (by omega)
        walk_at "ds"
        refine st_dec (fun c1 => ?_) fun c1 => ?_
        · have wn : ws ≠ [] := cz.elim id fun z => by omega
          have wn := List.length_pos_iff.mpr wn
          walk_at "ds"
          rw [List.length_map]
          refine st_drawX d1 (by omega) (by omega) (by omega) fun i ω2 i0 i1 d2 => ?_
          walk_at "ds"
          exact q (.leave i) ω2 ⟨i0, i1⟩ (d2.le (by omega))
        · walk_at "ds"
          rw [List.length_map]
          refine st_dec (fun c2 => ?_) fun c2 => ?_
          · walk_at "ds"
            refine st_dec (fun c3 => ?_) fun c3 => ?_
            · walk_at "ds"
              rw [List.length_map]
              refine st_drawX d1 (by omega) (by omega) (by omega) fun i ω2 i0 i1 d2 => ?_
              walk_at "ds"
              exact q (.leave i) ω2 ⟨i0, i1⟩ (d2.le (by omega))
            · walk_at "ds"
              refine st_dec (fun c4 => ?_) fun c4 => ?_
              · have wn : 0 < ws.length := by omega
                walk_at "ds"
                rw [List.length_map]
                refine st_drawX d1 (by omega) (by omega) (by omega) fun i ω2 i0 i1 d2 => ?_
                walk_at "ds"
                refine ⟨ω0, a, p, _, e, ws, rfl, d2, by omega, by omega, fun w ω3 w0 w1 d3 => ?_⟩
                walk_at "ds"
                exact q (.weigh i w) ω3 ⟨i0, i1, w0, w1⟩ (d3.le (by omega))
              · exact (by omega : False).elim
          · walk_at "ds"
            refine st_dec (fun c4 => ?_) fun c4 => ?_
            · have wn : ws ≠ [] := cz.elim id fun z => by omega
              have wn := List.length_pos_iff.mpr wn
              walk_at "ds"
              rw [List.length_map]
              refine st_drawX d1 (by omega) (by omega) (by omega) fun i ω2 i0 i1 d2 => ?_
              walk_at "ds"
              refine ⟨ω0, a, p, _, e, ws, rfl, d2, by omega, by omega, fun w ω3 w0 w1 d3 => ?_⟩
              walk_at "ds"
              exact q (.weigh i w) ω3 ⟨i0, i1, w0, w1⟩ (d3.le (by omega))
            · walk_at "ds"
              refine ⟨ω0, a, p, _, e, ws, rfl, d1, by omega, by omega, fun w ω3 w0 w1 d3 => ?_⟩
              walk_at "ds"
              exact q (.come w) ω3 ⟨w0, w1, by omega⟩ (d3.le (by omega))
    · have cz : ws ≠ [] ∨ 3 ≤ way := .inl cn
      walk_at "ds"
      refine st_dec (fun c1 => ?_) fun c1 => ?_
      · have wn : ws ≠ [] := cz.elim id fun z => by omega
        have wn := List.length_pos_iff.mpr wn
        walk_at "ds"
        rw [List.length_map]
        refine st_drawX d1 (by omega) (by omega) (by omega) fun i ω2 i0 i1 d2 => ?_
        walk_at "ds"
        exact q (.leave i) ω2 ⟨i0, i1⟩ (d2.le (by omega))
      · walk_at "ds"
        rw [List.length_map]
        refine st_dec (fun c2 => ?_) fun c2 => ?_
        · walk_at "ds"
          refine st_dec (fun c3 => ?_) fun c3 => ?_
          · walk_at "ds"
            rw [List.length_map]
            refine st_drawX d1 (by omega) (by omega) (by omega) fun i ω2 i0 i1 d2 => ?_
            walk_at "ds"
            exact q (.leave i) ω2 ⟨i0, i1⟩ (d2.le (by omega))
          · walk_at "ds"
            refine st_dec (fun c4 => ?_) fun c4 => ?_
            · have wn : 0 < ws.length := by omega
              walk_at "ds"
              rw [List.length_map]
              refine st_drawX d1 (by omega) (by omega) (by omega) fun i ω2 i0 i1 d2 => ?_
              walk_at "ds"
              refine ⟨ω0, a, p, _, e, ws, rfl, d2, by omega, by omega, fun w ω3 w0 w1 d3 => ?_⟩
              walk_at "ds"
              exact q (.weigh i w) ω3 ⟨i0, i1, w0, w1⟩ (d3.le (by omega))
            · exact (by omega : False).elim
        · walk_at "ds"
          refine st_dec (fun c4 => ?_) fun c4 => ?_
          · have wn : ws ≠ [] := cz.elim id fun z => by omega
            have wn := List.length_pos_iff.mpr wn
            walk_at "ds"
            rw [List.length_map]
            refine st_drawX d1 (by omega) (by omega) (by omega) fun i ω2 i0 i1 d2 => ?_
            walk_at "ds"
            refine ⟨ω0, a, p, _, e, ws, rfl, d2, by omega, by omega, fun w ω3 w0 w1 d3 => ?_⟩
            walk_at "ds"
            exact q (.weigh i w) ω3 ⟨i0, i1, w0, w1⟩ (d3.le (by omega))
          · walk_at "ds"
            refine ⟨ω0, a, p, _, e, ws, rfl, d1, by omega, by omega, fun w ω3 w0 w1 d3 => ?_⟩
            walk_at "ds"
            exact q (.come w) ω3 ⟨w0, w1, by omega⟩ (d3.le (by omega))

def T_Hoist__check_idle : DXS → TSD := fun RX => (dIfS (dTst (dSome CS_Hoist fun c => (dFld c "_watched" (dVar 0)))) dNever dNext)

def S_Hoist__check_idle : SpDX := fun ds ω R RX => ∃ (L : Option Int) (x dx : Addr) (ts es : List D) (t : D), ds = [.raw (.ref x)] ∧ ω x = some (.ins (Ers.ad (hoC L)) dx (hoG L (ts ++ [t]) es)) ∧ R .non ω
theorem ar_Hoist__check_idle : ∀ ds ω R RX, S_Hoist__check_idle ds ω R RX → ds.length = ["self"].length := by
  rintro ds ω R RX ⟨L, x, dx, ts, es, t, rfl, _⟩
  rfl
theorem rd_Hoist__check_idle : ∀ ds ω R RX, S_Hoist__check_idle ds ω R RX → T_Hoist__check_idle (noS RX) { nx := fun _ ω' => R .non ω', rt := R } (startD ["self"] ds) ω := by
  rintro ds ω R RX ⟨L, x, dx, ts, es, t, rfl, hx, q⟩
  have hcm := hoC_mem L
  show T_Hoist__check_idle _ _ [some (.raw (.ref x))] ω
  unfold T_Hoist__check_idle
  walk_at "ds"
  refine ⟨_, _, .own hx, rfl, ?_⟩
  walk_at "ds"
  exact q

def T_Hoist__check_edit : DXS → TSD := fun RX => (dSeq (dDrop (dSome CS_Hoist fun c => (dMeth c "_check_idle" S_Hoist__check_idle RX (dVar 0) dNil)))
    (dIfS (dTst (dBin (dEq false) (dCall dLen (dCons (dSome CS_Hoist fun c => (dFld c "_edits" (dVar 0))) dNil)) (dC (.int 60)))) dNever dNext))

def S_Hoist__check_edit : SpDX := fun ds ω R RX => ∃ (L : Option Int) (x dx : Addr) (ts es : List D) (t : D), ds = [.raw (.ref x)] ∧ ω x = some (.ins (Ers.ad (hoC L)) dx (hoG L (ts ++ [t]) es)) ∧ es.length < 60 ∧ R .non ω
theorem ar_Hoist__check_edit : ∀ ds ω R RX, S_Hoist__check_edit ds ω R RX → ds.length = ["self"].length := by
  rintro ds ω R RX ⟨L, x, dx, ts, es, t, rfl, _⟩
  rfl
theorem rd_Hoist__check_edit : ∀ ds ω R RX, S_Hoist__check_edit ds ω R RX → T_Hoist__check_edit (noS RX) { nx := fun _ ω' => R .non ω', rt := R } (startD ["self"] ds) ω := by
  rintro ds ω R RX ⟨L, x, dx, ts, es, t, rfl, hx, hl, q⟩
  have hcm := hoC_mem L
  show T_Hoist__check_edit _ _ [some (.raw (.ref x))] ω
  unfold T_Hoist__check_edit
  walk_at "ds"
  refine ⟨⟨_, .own hx, hoG_no⟩, L, x, dx, ts, es, t, rfl, hx, ?_⟩
  walk_at "ds"
  refine ⟨_, _, .own hx, rfl, ?_⟩
  walk_at "ds"
  refine st_dec (fun c => (by omega : False).elim) fun c => ?_
  exact q

def T_Hoist__check_tower : DXS → TSD := fun RX => dNext

def S_Hoist__check_tower : SpDX := fun ds ω R RX => ∃ y z, ds = [y, z] ∧ R .non ω
theorem ar_Hoist__check_tower : ∀ ds ω R RX, S_Hoist__check_tower ds ω R RX → ds.length = ["self", "tower"].length := by
  rintro ds ω R RX ⟨y, z, rfl, _⟩
  rfl
theorem rd_Hoist__check_tower : ∀ ds ω R RX, S_Hoist__check_tower ds ω R RX → T_Hoist__check_tower (noS RX) { nx := fun _ ω' => R .non ω', rt := R } (startD ["self", "tower"] ds) ω := by
  rintro ds ω R RX ⟨y, z, rfl, q⟩
  show T_Hoist__check_tower _ _ [some y, some z] ω
  unfold T_Hoist__check_tower
  walk_at "ds"
  exact q

def T_Promise_beyond : DXS → TSD := fun RX => (dSeq (dDrop (dCallX (S_check_number) RX (dCons (dVar 1) dNil)))
    (dSeq (dIfS (dTst (dBin dLt (dVar 1) (dSome CS_Promise fun c => (dFld c "_least" (dVar 0))))) (dRaise "TooLow" "number" (dVar 1) RX) dNext)
    (dRet (dBin dSub (dVar 1) (dSome CS_Promise fun c => (dFld c "_least" (dVar 0)))))))

def S_Promise_beyond : SpDX := fun ds ω R RX => ∃ (x dx : Addr) (fds : List (Str × D)) (l : Int) (v : D), ds = [.raw (.ref x), v] ∧ ω x = some (.ins (Ers.ad "PromisedHoist") dx fds) ∧ List.lookup ("_least" : Str) fds = some (D.int l) ∧ v.ok = true ∧
  (∀ i, v = .int i → numB v 0 100000000 = true → l ≤ i → R (.int (i - l)) ω) ∧ (∀ i, v = .int i → numB v 0 100000000 = true → i < l → RX "TooLow" (some [("number", v)]) ω) ∧ (numB v 0 100000000 = false → RX "BadNumber" (some [("value", v)]) ω)
theorem ar_Promise_beyond : ∀ ds ω R RX, S_Promise_beyond ds ω R RX → ds.length = ["self", "number"].length := by
  rintro ds ω R RX ⟨x, dx, fds, l, v, rfl, _⟩
  rfl
theorem rd_Promise_beyond : ∀ ds ω R RX, S_Promise_beyond ds ω R RX → T_Promise_beyond (noS RX) { nx := fun _ ω' => R .non ω', rt := R } (startD ["self", "number"] ds) ω := by
  rintro ds ω R RX ⟨x, dx, fds, l, v, rfl, hx, hl, ok, q1, q2, qx⟩
  have hcm := proC_mem
  show T_Promise_beyond _ _ [some (.raw (.ref x)), some v] ω
  unfold T_Promise_beyond
  walk_at "ds"
  refine ⟨v, rfl, ok, fun hb => ?_, fun hb => qx hb⟩
  obtain ⟨i, rfl⟩ : ∃ i, v = .int i := by
    cases v <;> first | exact ⟨_, rfl⟩ | cases hb
  walk_at "ds"
  refine ⟨_, _, .own hx, hl, ?_⟩
  walk_at "ds"
  refine st_dec (fun c => ?_) fun c => ?_
  · walk_at "ds"
    exact q2 i rfl hb c
  · walk_at "ds"
    refine ⟨_, _, .own hx, hl, ?_⟩
    walk_at "ds"
    exact q1 i rfl hb (by omega)

def T_PromisedHoist__check_tower : DXS → TSD := fun RX => (dDrop (dSome CS_Promise fun c => (dMeth c "beyond" S_Promise_beyond RX (dVar 0) (dCons (dCall (S_reach_weight) (dCons (dVar 1) dNil)) dNil))))

def S_PromisedHoist__check_tower : SpDX := fun ds ω R RX => ∃ (x dx : Addr) (fds : List (Str × D)) (l e : Int) (ws : List Int), ds = [.raw (.ref x), towD e ws] ∧ ω x = some (.ins (Ers.ad "PromisedHoist") dx fds) ∧ List.lookup ("_least" : Str) fds = some (D.int l) ∧ List.lookup ("beyond" : Str) fds = none ∧ TowOk e ws ∧ TabOn "people_by_weight" ω ∧
  (l ≤ rch e ws → R .non ω) ∧ (rch e ws < l → RX "TooLow" (some [("number", .int (rch e ws))]) ω)
theorem ar_PromisedHoist__check_tower : ∀ ds ω R RX, S_PromisedHoist__check_tower ds ω R RX → ds.length = ["self", "tower"].length := by
  rintro ds ω R RX ⟨x, dx, fds, l, e, ws, rfl, _⟩
  rfl
theorem rd_PromisedHoist__check_tower : ∀ ds ω R RX, S_PromisedHoist__check_tower ds ω R RX → T_PromisedHoist__check_tower (noS RX) { nx := fun _ ω' => R .non ω', rt := R } (startD ["self", "tower"] ds) ω := by
  rintro ds ω R RX ⟨x, dx, fds, l, e, ws, rfl, hx, hl, hb, tk, ht, q, qx⟩
  have hcm := proC_mem
  obtain ⟨r0, r1⟩ := rch_top tk
  show T_PromisedHoist__check_tower _ _ [some (.raw (.ref x)), some (towD e ws)] ω
  unfold T_PromisedHoist__check_tower
  have hn : numB (.int (rch e ws)) 0 100000000 = true := decide_eq_true ⟨r0, by omega⟩
  walk_at "ds"
  refine ⟨⟨_, .own hx, hb⟩, ?_⟩
  walk_at "ds"
  refine ⟨e, ws, rfl, Nat.le_trans tk.2.2.1 (by decide), ht, ?_⟩
  walk_at "ds"
  refine ⟨x, dx, fds, l, _, rfl, hx, hl, rfl, fun i ei _ le => ?_, fun i ei _ lt => ?_, fun z => by rw [hn] at z; cases z⟩
  · cases ei
    walk_at "ds"
    exact q le
  · cases ei
    exact qx lt

def SO__check_tower : Str → SpDX := fun c => if c = "PromisedHoist" then S_PromisedHoist__check_tower else S_Hoist__check_tower
def T_Hoist__keep : DXS → TSD := fun RX => (dSeq (dDrop (dSome CS_Hoist fun c => (dMeth c "_check_tower" (SO__check_tower c) RX (dVar 0) (dCons (dVar 2) dNil))))
    (dSeq (dSomeS CS_Hoist fun c => (dFldS c "_towers" (dVar 0) (dTup (dStar (dSome CS_Hoist fun c => (dFld c "_towers" (dVar 0))) (dCons (dVar 2) dNil)))))
    (dSeq (dSomeS CS_Hoist fun c => (dFldS c "_edits" (dVar 0) (dTup (dStar (dSome CS_Hoist fun c => (dFld c "_edits" (dVar 0))) (dCons (dVar 1) dNil)))))
    (dRet (dCall dLen (dCons (dSome CS_Hoist fun c => (dFld c "_edits" (dVar 0))) dNil))))))

def S_Hoist__keep : SpDX := fun ds ω R RX => ∃ (L : Option Int) (x dx : Addr) (ts es : List D) (ed : D) (e : Int) (ws : List Int), ds = [.raw (.ref x), ed, towD e ws] ∧ ω x = some (.ins (Ers.ad (hoC L)) dx (hoG L ts es)) ∧ ts.length ≤ 100 ∧ es.length ≤ 100 ∧ TowOk e ws ∧ TabOn "people_by_weight" ω ∧ KeepS L x dx ts es e ws ed ω R RX
theorem ar_Hoist__keep : ∀ ds ω R RX, S_Hoist__keep ds ω R RX → ds.length = ["self", "edit", "tower"].length := by
  rintro ds ω R RX ⟨L, x, dx, ts, es, ed, e, ws, rfl, _⟩
  rfl
theorem rd_Hoist__keep : ∀ ds ω R RX, S_Hoist__keep ds ω R RX → T_Hoist__keep (noS RX) { nx := fun _ ω' => R .non ω', rt := R } (startD ["self", "edit", "tower"] ds) ω := by
  rintro ds ω R RX ⟨L, x, dx, ts, es, ed, e, ws, rfl, hx, l1, l2, tk, ht, q, qx⟩
  have hcm := hoC_mem L
  show T_Hoist__keep _ _ [some (.raw (.ref x)), some ed, some (towD e ws)] ω
  unfold T_Hoist__keep
  walk_at "ds"
  refine ⟨⟨_, .own hx, hoG_no⟩, ?_⟩
  walk_at "ds"
  have fit : ∀ (N : DQ) , (Fits L e ws → N .non ω) → (¬ Fits L e ws → RX "TooLow" (some [("number", .int (rch e ws))]) ω) → SO__check_tower (hoC L) [.raw (.ref x), towD e ws] ω N (fun y fs ω2 => RX y fs ω2) := fun N f1 f2 => by
    cases L with
    | none => exact ⟨_, _, rfl, f1 fits_none⟩
    | some l => exact ⟨x, dx, _, l, e, ws, rfl, hx, hoG_l, hoG_no, tk, ht, fun le => f1 fun n en => (by cases en; exact le), fun lt => f2 fun f => by have := f l rfl; omega⟩
  refine fit _ (fun ft => ?_) fun nf => qx nf
  walk_at "ds"
  refine ⟨_, _, .own hx, rfl, ?_⟩
  walk_at "ds"
  refine ⟨size100 (by rw [List.length_append]; exact Nat.succ_le_succ l1), ?_⟩
  walk_at "ds"
  refine ⟨x, dx, _, rfl, hx, hoG_len, ?_⟩
  rw [hoG_t]
  walk_at "ds"
  refine ⟨_, _, .own oset_same, rfl, ?_⟩
  walk_at "ds"
  refine ⟨size100 (by rw [List.length_append]; exact Nat.succ_le_succ l2), ?_⟩
  walk_at "ds"
  refine ⟨x, dx, _, rfl, oset_same, hoG_len, ?_⟩
  rw [hoG_e, oset2]
  walk_at "ds"
  refine ⟨_, _, .own oset_same, rfl, ?_⟩
  walk_at "ds"
  rw [List.length_append]
  exact q ft

def T_Hoist_come : DXS → TSD := fun RX => (dSeq (dDrop (dSome CS_Hoist fun c => (dMeth c "_check_edit" S_Hoist__check_edit RX (dVar 0) dNil)))
    (dSeq (dIfS (dNotT (dTst (dCall (S_is_weight) (dCons (dVar 1) dNil)))) dNever dNext)
    (dSeq (dAsg (dSome CS_Hoist fun c => (dProp c S_Hoist_tower (dVar 0))) (dgTup 2 (dgCons (dgName 2) (dgCons (dgName 3) dgNil))))
    (dSeq (dIfS (dTst (dBin (dEq false) (dCall dLen (dCons (dVar 3) dNil)) (dC (.int 24)))) dNever dNext)
    (dRet (dSome CS_Hoist fun c => (dMeth c "_keep" S_Hoist__keep RX (dVar 0) (dCons (dTup (dCons (dC (.str "come")) (dCons (dVar 1) dNil))) (dCons (dTup (dCons (dVar 2) (dCons (dTup (dStar (dVar 3) (dCons (dVar 1) dNil))) dNil))) dNil)))))))))

def S_Hoist_come : SpDX := fun ds ω R RX => ∃ (L : Option Int) (x dx : Addr) (ts es : List D) (e : Int) (ws : List Int) (w : Int), ds = [.raw (.ref x), .int w] ∧ ω x = some (.ins (Ers.ad (hoC L)) dx (hoG L (ts ++ [towD e ws]) es)) ∧ es.length < 60 ∧ ts.length ≤ 98 ∧ ws.length ≤ 24 ∧ Ed.can ws (.come w) ∧ TowOk e ws ∧ TabOn "people_by_weight" ω ∧ KeepS L x dx (ts ++ [towD e ws]) es (Ed.e e (.come w)) (Ed.ws ws (.come w)) (Ed.d (.come w)) ω R RX
theorem ar_Hoist_come : ∀ ds ω R RX, S_Hoist_come ds ω R RX → ds.length = ["self", "weight"].length := by
  rintro ds ω R RX ⟨L, x, dx, ts, es, e, ws, w, rfl, _⟩
  rfl
theorem rd_Hoist_come : ∀ ds ω R RX, S_Hoist_come ds ω R RX → T_Hoist_come (noS RX) { nx := fun _ ω' => R .non ω', rt := R } (startD ["self", "weight", "excess", "weights"] ds) ω := by
  rintro ds ω R RX ⟨L, x, dx, ts, es, e, ws, w, rfl, hx, hl, hl2, h24, ⟨c0, c1, c2⟩, tk, ht, q⟩
  have hcm := hoC_mem L
  show T_Hoist_come _ _ [some (.raw (.ref x)), some (.int w), none, none] ω
  unfold T_Hoist_come
  walk_at "ds"
  refine ⟨⟨_, .own hx, hoG_no⟩, L, x, dx, ts, es, _, rfl, hx, hl, ?_⟩
  walk_at "ds"
  refine ⟨_, rfl, rfl, ?_⟩
  rw [show numB (.int w) 1 1000000 = true from decide_eq_true ⟨c0, c1⟩]
  walk_at "ds"
  refine ⟨⟨_, .own hx⟩, L, x, dx, ts, es, _, rfl, hx, ?_⟩
  walk_at "ds"
  refine st_dec (fun c => (by rw [List.length_map] at c; omega : False).elim) fun c => ?_
  walk_at "ds"
  refine ⟨⟨_, .own hx, hoG_no⟩, ?_⟩
  walk_at "ds"
  rw [show ws.map D.int ++ [D.int w] = (ws ++ [w]).map D.int by rw [List.map_append]; rfl]
  refine ⟨size100 (by rw [List.length_map, List.length_append]; exact Nat.le_trans c2 (by decide)), ?_⟩
  walk_at "ds"
  exact ⟨L, x, dx, ts ++ [towD e ws], es, _, _, _, rfl, hx, by rw [List.length_append]; show ts.length + 1 ≤ 100; omega, by omega, tk.go (d := .come w) ⟨c0, c1, c2⟩, ht, q⟩

def T_Hoist__check_person : DXS → TSD := fun RX => (dSeq (dAsg (dSome CS_Hoist fun c => (dProp c S_Hoist_tower (dVar 0))) (dgTup 2 (dgCons (dgName 2) (dgCons (dgName 3) dgNil))))
    (dIfS (dNotT (dTst (dCall (S_is_number_between) (dCons (dVar 1) (dCons (dC (.int 0)) (dCons (dBin dSub (dCall dLen (dCons (dVar 3) dNil)) (dC (.int 1))) dNil)))))) dNever dNext))

def S_Hoist__check_person : SpDX := fun ds ω R RX => ∃ (L : Option Int) (x dx : Addr) (ts es : List D) (e : Int) (ws : List Int) (k : Int), ds = [.raw (.ref x), .int k] ∧ ω x = some (.ins (Ers.ad (hoC L)) dx (hoG L (ts ++ [towD e ws]) es)) ∧ 0 ≤ k ∧ k < ws.length ∧ R .non ω
theorem ar_Hoist__check_person : ∀ ds ω R RX, S_Hoist__check_person ds ω R RX → ds.length = ["self", "person"].length := by
  rintro ds ω R RX ⟨L, x, dx, ts, es, e, ws, k, rfl, _⟩
  rfl
theorem rd_Hoist__check_person : ∀ ds ω R RX, S_Hoist__check_person ds ω R RX → T_Hoist__check_person (noS RX) { nx := fun _ ω' => R .non ω', rt := R } (startD ["self", "person", "_", "weights"] ds) ω := by
  rintro ds ω R RX ⟨L, x, dx, ts, es, e, ws, k, rfl, hx, k0, k1, q⟩
  have hcm := hoC_mem L
  show T_Hoist__check_person _ _ [some (.raw (.ref x)), some (.int k), none, none] ω
  unfold T_Hoist__check_person
  walk_at "ds"
  refine ⟨⟨_, .own hx⟩, L, x, dx, ts, es, _, rfl, hx, ?_⟩
  walk_at "ds"
  refine ⟨_, 0, _, rfl, rfl, ?_⟩
  rw [List.length_map, show numB (.int k) 0 ((ws.length : Int) - 1) = true from decide_eq_true ⟨k0, by omega⟩]
  walk_at "ds"
  exact q

def T_Hoist_leave : DXS → TSD := fun RX => (dSeq (dDrop (dSome CS_Hoist fun c => (dMeth c "_check_edit" S_Hoist__check_edit RX (dVar 0) dNil)))
    (dSeq (dDrop (dSome CS_Hoist fun c => (dMeth c "_check_person" S_Hoist__check_person RX (dVar 0) (dCons (dVar 1) dNil))))
    (dSeq (dAsg (dSome CS_Hoist fun c => (dProp c S_Hoist_tower (dVar 0))) (dgTup 2 (dgCons (dgName 2) (dgCons (dgName 3) dgNil))))
    (dRet (dSome CS_Hoist fun c => (dMeth c "_keep" S_Hoist__keep RX (dVar 0) (dCons (dTup (dCons (dC (.str "leave")) (dCons (dVar 1) dNil))) (dCons (dTup (dCons (dVar 2) (dCons (dTup (dStar (dSl (dVar 3) dNoP (dPart (dVar 1))) (dStar (dSl (dVar 3) (dPart (dBin dAdd (dVar 1) (dC (.int 1)))) dNoP) dNil))) dNil))) dNil))))))))

def S_Hoist_leave : SpDX := fun ds ω R RX => ∃ (L : Option Int) (x dx : Addr) (ts es : List D) (e : Int) (ws : List Int) (k : Int), ds = [.raw (.ref x), .int k] ∧ ω x = some (.ins (Ers.ad (hoC L)) dx (hoG L (ts ++ [towD e ws]) es)) ∧ es.length < 60 ∧ ts.length ≤ 98 ∧ ws.length ≤ 24 ∧ Ed.can ws (.leave k) ∧ TowOk e ws ∧ TabOn "people_by_weight" ω ∧ KeepS L x dx (ts ++ [towD e ws]) es (Ed.e e (.leave k)) (Ed.ws ws (.leave k)) (Ed.d (.leave k)) ω R RX
theorem ar_Hoist_leave : ∀ ds ω R RX, S_Hoist_leave ds ω R RX → ds.length = ["self", "person"].length := by
  rintro ds ω R RX ⟨L, x, dx, ts, es, e, ws, k, rfl, _⟩
  rfl
theorem rd_Hoist_leave : ∀ ds ω R RX, S_Hoist_leave ds ω R RX → T_Hoist_leave (noS RX) { nx := fun _ ω' => R .non ω', rt := R } (startD ["self", "person", "excess", "weights"] ds) ω := by
  rintro ds ω R RX ⟨L, x, dx, ts, es, e, ws, k, rfl, hx, hl, hl2, h24, ⟨c0, c1⟩, tk, ht, q⟩
  have hcm := hoC_mem L
  show T_Hoist_leave _ _ [some (.raw (.ref x)), some (.int k), none, none] ω
  unfold T_Hoist_leave
  walk_at "ds"
  refine ⟨⟨_, .own hx, hoG_no⟩, L, x, dx, ts, es, _, rfl, hx, hl, ?_⟩
  walk_at "ds"
  refine ⟨⟨_, .own hx, hoG_no⟩, ?_⟩
  walk_at "ds"
  refine ⟨L, x, dx, ts, es, e, ws, k, rfl, hx, c0, c1, ?_⟩
  walk_at "ds"
  refine ⟨⟨_, .own hx⟩, L, x, dx, ts, es, _, rfl, hx, ?_⟩
  walk_at "ds"
  refine ⟨⟨_, .own hx, hoG_no⟩, ?_⟩
  walk_at "ds"
  rw [cut_to c0, cut_from (show 0 ≤ k + 1 by omega), show List.take k.toNat (ws.map D.int) ++ (List.drop (k + 1).toNat (ws.map D.int) ++ []) = (ws.take k.toNat ++ ws.drop (k + 1).toNat).map D.int by simp [List.map_take, List.map_drop]]
  refine ⟨size100 (by simp only [List.length_map, List.length_append, List.length_cons, List.length_take, List.length_drop]; omega), ?_⟩
  walk_at "ds"
  exact ⟨L, x, dx, ts ++ [towD e ws], es, _, _, _, rfl, hx, by rw [List.length_append]; show ts.length + 1 ≤ 100; omega, by omega, tk.go (d := .leave k) ⟨c0, c1⟩, ht, q⟩

def T_Hoist_loosen : DXS → TSD := fun RX => (dSeq (dDrop (dSome CS_Hoist fun c => (dMeth c "_check_edit" S_Hoist__check_edit RX (dVar 0) dNil)))
    (dSeq (dIfS (dNotT (dTst (dCall (S_is_excess) (dCons (dVar 1) dNil)))) dNever dNext)
    (dSeq (dAsg (dSome CS_Hoist fun c => (dProp c S_Hoist_tower (dVar 0))) (dgTup 2 (dgCons (dgName 2) (dgCons (dgName 3) dgNil))))
    (dRet (dSome CS_Hoist fun c => (dMeth c "_keep" S_Hoist__keep RX (dVar 0) (dCons (dTup (dCons (dC (.str "loosen")) (dCons (dVar 1) dNil))) (dCons (dTup (dCons (dVar 1) (dCons (dVar 3) dNil))) dNil))))))))

def S_Hoist_loosen : SpDX := fun ds ω R RX => ∃ (L : Option Int) (x dx : Addr) (ts es : List D) (e : Int) (ws : List Int) (u : Int), ds = [.raw (.ref x), .int u] ∧ ω x = some (.ins (Ers.ad (hoC L)) dx (hoG L (ts ++ [towD e ws]) es)) ∧ es.length < 60 ∧ ts.length ≤ 98 ∧ ws.length ≤ 24 ∧ Ed.can ws (.loosen u) ∧ TowOk e ws ∧ TabOn "people_by_weight" ω ∧ KeepS L x dx (ts ++ [towD e ws]) es (Ed.e e (.loosen u)) (Ed.ws ws (.loosen u)) (Ed.d (.loosen u)) ω R RX
theorem ar_Hoist_loosen : ∀ ds ω R RX, S_Hoist_loosen ds ω R RX → ds.length = ["self", "excess"].length := by
  rintro ds ω R RX ⟨L, x, dx, ts, es, e, ws, u, rfl, _⟩
  rfl
theorem rd_Hoist_loosen : ∀ ds ω R RX, S_Hoist_loosen ds ω R RX → T_Hoist_loosen (noS RX) { nx := fun _ ω' => R .non ω', rt := R } (startD ["self", "excess", "_", "weights"] ds) ω := by
  rintro ds ω R RX ⟨L, x, dx, ts, es, e, ws, u, rfl, hx, hl, hl2, h24, ⟨c0, c1⟩, tk, ht, q⟩
  have hcm := hoC_mem L
  show T_Hoist_loosen _ _ [some (.raw (.ref x)), some (.int u), none, none] ω
  unfold T_Hoist_loosen
  walk_at "ds"
  refine ⟨⟨_, .own hx, hoG_no⟩, L, x, dx, ts, es, _, rfl, hx, hl, ?_⟩
  walk_at "ds"
  refine ⟨_, rfl, rfl, ?_⟩
  rw [show numB (.int u) 1 1000000 = true from decide_eq_true ⟨c0, c1⟩]
  walk_at "ds"
  refine ⟨⟨_, .own hx⟩, L, x, dx, ts, es, _, rfl, hx, ?_⟩
  walk_at "ds"
  refine ⟨⟨_, .own hx, hoG_no⟩, ?_⟩
  walk_at "ds"
  exact ⟨L, x, dx, ts ++ [towD e ws], es, _, _, _, rfl, hx, by rw [List.length_append]; show ts.length + 1 ≤ 100; omega, by omega, tk.go (d := .loosen u) ⟨c0, c1⟩, ht, q⟩

def T_Hoist_weigh : DXS → TSD := fun RX => (dSeq (dDrop (dSome CS_Hoist fun c => (dMeth c "_check_edit" S_Hoist__check_edit RX (dVar 0) dNil)))
    (dSeq (dDrop (dSome CS_Hoist fun c => (dMeth c "_check_person" S_Hoist__check_person RX (dVar 0) (dCons (dVar 1) dNil))))
    (dSeq (dIfS (dNotT (dTst (dCall (S_is_weight) (dCons (dVar 2) dNil)))) dNever dNext)
    (dSeq (dAsg (dSome CS_Hoist fun c => (dProp c S_Hoist_tower (dVar 0))) (dgTup 2 (dgCons (dgName 3) (dgCons (dgName 4) dgNil))))
    (dRet (dSome CS_Hoist fun c => (dMeth c "_keep" S_Hoist__keep RX (dVar 0) (dCons (dTup (dCons (dC (.str "weigh")) (dCons (dVar 1) (dCons (dVar 2) dNil)))) (dCons (dTup (dCons (dVar 3) (dCons (dTup (dStar (dSl (dVar 4) dNoP (dPart (dVar 1))) (dCons (dVar 2) (dStar (dSl (dVar 4) (dPart (dBin dAdd (dVar 1) (dC (.int 1)))) dNoP) dNil)))) dNil))) dNil)))))))))

def S_Hoist_weigh : SpDX := fun ds ω R RX => ∃ (L : Option Int) (x dx : Addr) (ts es : List D) (e : Int) (ws : List Int) (k w : Int), ds = [.raw (.ref x), .int k, .int w] ∧ ω x = some (.ins (Ers.ad (hoC L)) dx (hoG L (ts ++ [towD e ws]) es)) ∧ es.length < 60 ∧ ts.length ≤ 98 ∧ ws.length ≤ 24 ∧ Ed.can ws (.weigh k w) ∧ TowOk e ws ∧ TabOn "people_by_weight" ω ∧ KeepS L x dx (ts ++ [towD e ws]) es (Ed.e e (.weigh k w)) (Ed.ws ws (.weigh k w)) (Ed.d (.weigh k w)) ω R RX
theorem ar_Hoist_weigh : ∀ ds ω R RX, S_Hoist_weigh ds ω R RX → ds.length = ["self", "person", "weight"].length := by
  rintro ds ω R RX ⟨L, x, dx, ts, es, e, ws, k, w, rfl, _⟩
  rfl
theorem rd_Hoist_weigh : ∀ ds ω R RX, S_Hoist_weigh ds ω R RX → T_Hoist_weigh (noS RX) { nx := fun _ ω' => R .non ω', rt := R } (startD ["self", "person", "weight", "excess", "weights"] ds) ω := by
  rintro ds ω R RX ⟨L, x, dx, ts, es, e, ws, k, w, rfl, hx, hl, hl2, h24, ⟨c0, c1, c2, c3⟩, tk, ht, q⟩
  have hcm := hoC_mem L
  show T_Hoist_weigh _ _ [some (.raw (.ref x)), some (.int k), some (.int w), none, none] ω
  unfold T_Hoist_weigh
  walk_at "ds"
  refine ⟨⟨_, .own hx, hoG_no⟩, L, x, dx, ts, es, _, rfl, hx, hl, ?_⟩
  walk_at "ds"
  refine ⟨⟨_, .own hx, hoG_no⟩, ?_⟩
  walk_at "ds"
  refine ⟨L, x, dx, ts, es, e, ws, k, rfl, hx, c0, c1, ?_⟩
  walk_at "ds"
  refine ⟨_, rfl, rfl, ?_⟩
  rw [show numB (.int w) 1 1000000 = true from decide_eq_true ⟨c2, c3⟩]
  walk_at "ds"
  refine ⟨⟨_, .own hx⟩, L, x, dx, ts, es, _, rfl, hx, ?_⟩
  walk_at "ds"
  refine ⟨⟨_, .own hx, hoG_no⟩, ?_⟩
  walk_at "ds"
  rw [cut_to c0, cut_from (show 0 ≤ k + 1 by omega), show List.take k.toNat (ws.map D.int) ++ D.int w :: (List.drop (k + 1).toNat (ws.map D.int) ++ []) = (ws.take k.toNat ++ w :: ws.drop (k + 1).toNat).map D.int by simp [List.map_take, List.map_drop]]
  refine ⟨size100 (by simp only [List.length_map, List.length_append, List.length_cons, List.length_take, List.length_drop]; omega), ?_⟩
  walk_at "ds"
  exact ⟨L, x, dx, ts ++ [towD e ws], es, _, _, _, rfl, hx, by rw [List.length_append]; show ts.length + 1 ≤ 100; omega, by omega, tk.go (d := .weigh k w) ⟨c0, c1, c2, c3⟩, ht, q⟩

def T__law_do : DXS → TSD := fun RX => (dSeq (dIfS (dTst (dBin (dEq false) (dBin dIx (dVar 1) (dC (.int 0))) (dC (.str "come")))) (dRet (dSome CS_Hoist fun c => (dMeth c "come" S_Hoist_come RX (dVar 0) (dCons (dBin dIx (dVar 1) (dC (.int 1))) dNil)))) dNext)
    (dSeq (dIfS (dTst (dBin (dEq false) (dBin dIx (dVar 1) (dC (.int 0))) (dC (.str "leave")))) (dRet (dSome CS_Hoist fun c => (dMeth c "leave" S_Hoist_leave RX (dVar 0) (dCons (dBin dIx (dVar 1) (dC (.int 1))) dNil)))) dNext)
    (dSeq (dIfS (dTst (dBin (dEq false) (dBin dIx (dVar 1) (dC (.int 0))) (dC (.str "weigh")))) (dRet (dSome CS_Hoist fun c => (dMeth c "weigh" S_Hoist_weigh RX (dVar 0) (dCons (dBin dIx (dVar 1) (dC (.int 1))) (dCons (dBin dIx (dVar 1) (dC (.int 2))) dNil))))) dNext)
    (dRet (dSome CS_Hoist fun c => (dMeth c "loosen" S_Hoist_loosen RX (dVar 0) (dCons (dBin dIx (dVar 1) (dC (.int 1))) dNil)))))))

def S__law_do : SpDX := fun ds ω R RX => ∃ (L : Option Int) (x dx : Addr) (ts es : List D) (e : Int) (ws : List Int) (d : Ed), ds = [.raw (.ref x), d.d] ∧ ω x = some (.ins (Ers.ad (hoC L)) dx (hoG L (ts ++ [towD e ws]) es)) ∧ es.length < 60 ∧ ts.length ≤ 98 ∧ ws.length ≤ 24 ∧ d.can ws ∧ TowOk e ws ∧ TabOn "people_by_weight" ω ∧ KeepS L x dx (ts ++ [towD e ws]) es (d.e e) (d.ws ws) d.d ω R RX
theorem ar__law_do : ∀ ds ω R RX, S__law_do ds ω R RX → ds.length = ["table", "edit"].length := by
  rintro ds ω R RX ⟨L, x, dx, ts, es, e, ws, d, rfl, _⟩
  rfl
theorem rd__law_do : ∀ ds ω R RX, S__law_do ds ω R RX → T__law_do (noS RX) { nx := fun _ ω' => R .non ω', rt := R } (startD ["table", "edit"] ds) ω := by
  rintro ds ω R RX ⟨L, x, dx, ts, es, e, ws, d, rfl, hx, hl, hl2, h24, hc, tk, ht, q⟩
  have hcm := hoC_mem L
  cases d with
  | come w =>
    show T__law_do _ _ [some (.raw (.ref x)), some (.tup [.str "come", .int w])] ω
    unfold T__law_do
    walk_at "ds"
    refine st_ixT (i := 0) rfl ?_
    walk_at "ds"
    refine ⟨⟨_, .own hx, hoG_no⟩, ?_⟩
    walk_at "ds"
    refine st_ixT (i := 1) rfl ?_
    walk_at "ds"
    exact ⟨L, x, dx, ts, es, e, ws, w, rfl, hx, hl, hl2, h24, hc, tk, ht, q⟩
  | leave k =>
    show T__law_do _ _ [some (.raw (.ref x)), some (.tup [.str "leave", .int k])] ω
    unfold T__law_do
    walk_at "ds"
    refine st_ixT (i := 0) rfl ?_
    walk_at "ds"
    rw [if_neg (by decide)]
    walk_at "ds"
    refine st_ixT (i := 0) rfl ?_
    walk_at "ds"
    refine ⟨⟨_, .own hx, hoG_no⟩, ?_⟩
    walk_at "ds"
    refine st_ixT (i := 1) rfl ?_
    walk_at "ds"
    exact ⟨L, x, dx, ts, es, e, ws, k, rfl, hx, hl, hl2, h24, hc, tk, ht, q⟩
  | weigh k w =>
    show T__law_do _ _ [some (.raw (.ref x)), some (.tup [.str "weigh", .int k, .int w])] ω
    unfold T__law_do
    walk_at "ds"
    refine st_ixT (i := 0) rfl ?_
    walk_at "ds"
    rw [if_neg (by decide)]
    walk_at "ds"
    refine st_ixT (i := 0) rfl ?_
    walk_at "ds"
    rw [if_neg (by decide)]
    walk_at "ds"
    refine st_ixT (i := 0) rfl ?_
    walk_at "ds"
    refine ⟨⟨_, .own hx, hoG_no⟩, ?_⟩
    walk_at "ds"
    refine st_ixT (i := 1) rfl ?_
    walk_at "ds"
    refine st_ixT (i := 2) rfl ?_
    walk_at "ds"
    exact ⟨L, x, dx, ts, es, e, ws, k, w, rfl, hx, hl, hl2, h24, hc, tk, ht, q⟩
  | loosen u =>
    show T__law_do _ _ [some (.raw (.ref x)), some (.tup [.str "loosen", .int u])] ω
    unfold T__law_do
    walk_at "ds"
    refine st_ixT (i := 0) rfl ?_
    walk_at "ds"
    rw [if_neg (by decide)]
    walk_at "ds"
    refine st_ixT (i := 0) rfl ?_
    walk_at "ds"
    rw [if_neg (by decide)]
    walk_at "ds"
    refine st_ixT (i := 0) rfl ?_
    walk_at "ds"
    rw [if_neg (by decide)]
    walk_at "ds"
    refine ⟨⟨_, .own hx, hoG_no⟩, ?_⟩
    walk_at "ds"
    refine st_ixT (i := 1) rfl ?_
    walk_at "ds"
    exact ⟨L, x, dx, ts, es, e, ws, u, rfl, hx, hl, hl2, h24, hc, tk, ht, q⟩

def T__law_done : TSD := (dSeq (dAsg (dC .non) (dgName 2))
    (dSeq (dTry prsK "TooLow" 3 (fun RX => (dAsg (dCallX (S__law_do) RX (dCons (dVar 0) (dCons (dVar 1) dNil))) (dgName 2))) (fun x a d => (dAsg (dLst (dCons (dXf a d "number" (dVar 3)) dNil)) (dgName 2))) noX)
    (dRet (dVar 2))))

def S__law_done : SpD := fun ds ω R => ∃ (L : Option Int) (x dx : Addr) (ts es : List D) (e : Int) (ws : List Int) (d : Ed), ds = [.raw (.ref x), d.d] ∧ ω x = some (.ins (Ers.ad (hoC L)) dx (hoG L (ts ++ [towD e ws]) es)) ∧ es.length < 60 ∧ ts.length ≤ 98 ∧ d.can ws ∧ TowOk e ws ∧ TabOn "people_by_weight" ω ∧
  (Fits L (d.e e) (d.ws ws) → R (.int (es.length + 1 : Nat)) (oset ω x (.ins (Ers.ad (hoC L)) dx (hoG L ((ts ++ [towD e ws]) ++ [towD (d.e e) (d.ws ws)]) (es ++ [d.d]))))) ∧ (¬ Fits L (d.e e) (d.ws ws) → ∀ ω', Ext ω ω' → R (.lst [.int (rch (d.e e) (d.ws ws))]) ω')
theorem ar__law_done : ∀ ds ω R, S__law_done ds ω R → ds.length = ["table", "edit"].length := by
  rintro ds ω R ⟨L, x, dx, ts, es, e, ws, d, rfl, _⟩
  rfl
theorem rd__law_done : ∀ ds ω R, S__law_done ds ω R → T__law_done { nx := fun _ ω' => R .non ω', rt := R } (startD ["table", "edit", "found", "e"] ds) ω := by
  rintro ds ω R ⟨L, x, dx, ts, es, e, ws, d, rfl, hx, hl, hl2, hc, tk, ht, q1, q2⟩
  show T__law_done _ [some (.raw (.ref x)), some d.d, none, none] ω
  unfold T__law_done
  walk_at "ds"
  refine st_try ?_
  walk_at "ds"
  refine ⟨L, x, dx, ts, es, e, ws, d, rfl, hx, hl, hl2, tk.2.2.1, hc, tk, ht, fun ft => ?_, fun nf => ?_⟩
  · walk_at "ds"
    exact q1 ft
  · refine st_catch (by decide) (by decide) fun a dd ω2 x2 o2 => ?_
    walk_at "ds"
    refine st_xf ?_
    walk_at "ds"
    refine ⟨rfl, _, _, o2, rfl, ?_⟩
    walk_at "ds"
    exact q2 nf _ x2

def T_Hoist___init__ : DXS → TSD := fun RX => (dSeq (dAsg (dCall (S_tower_error) (dCons (dVar 1) dNil)) (dgName 2))
    (dSeq (dIfS (dTst (dBin (dIsN true) (dVar 2) (dC .non))) dNever dNext)
    (dSeq (dSomeS CS_Hoist fun c => (dFldS c "_towers" (dVar 0) (dTup (dCons (dVar 1) dNil))))
    (dSeq (dSomeS CS_Hoist fun c => (dFldS c "_edits" (dVar 0) (dTup dNil)))
    (dSomeS CS_Hoist fun c => (dFldS c "_watched" (dVar 0) (dC (.bl false))))))))

def S_Hoist___init__ : SpDX := fun ds ω R RX => ∃ (L : Option Int) (x dx : Addr) (e : Int) (ws : List Int), ds = [.raw (.ref x), towD e ws] ∧ ω x = some (.ins (Ers.ad (hoC L)) dx []) ∧ 1 ≤ e ∧ e ≤ 1000000 ∧ ws.length ≤ 24 ∧ (∀ w ∈ ws, 1 ≤ w ∧ w ≤ 1000000) ∧ R .non (oset ω x (.ins (Ers.ad (hoC L)) dx (hoG none [towD e ws] [])))
theorem ar_Hoist___init__ : ∀ ds ω R RX, S_Hoist___init__ ds ω R RX → ds.length = ["self", "tower"].length := by
  rintro ds ω R RX ⟨L, x, dx, e, ws, rfl, _⟩
  rfl
theorem rd_Hoist___init__ : ∀ ds ω R RX, S_Hoist___init__ ds ω R RX → T_Hoist___init__ (noS RX) { nx := fun _ ω' => R .non ω', rt := R } (startD ["self", "tower", "error"] ds) ω := by
  rintro ds ω R RX ⟨L, x, dx, e, ws, rfl, hx, e0, e1, wl, hw, q⟩
  have hcm := hoC_mem L
  show T_Hoist___init__ _ _ [some (.raw (.ref x)), some (towD e ws), none] ω
  unfold T_Hoist___init__
  walk_at "ds"
  refine ⟨e, ws, rfl, e0, e1, wl, hw, ?_⟩
  walk_at "ds"
  rw [if_neg (by decide)]
  walk_at "ds"
  refine ⟨x, dx, _, rfl, hx, (by show 0 < 1000; decide), ?_⟩
  walk_at "ds"
  refine ⟨x, dx, _, rfl, oset_same, (by show 1 < 1000; decide), ?_⟩
  rw [oset2]
  walk_at "ds"
  refine ⟨x, dx, _, rfl, oset_same, (by show 2 < 1000; decide), ?_⟩
  rw [oset2, hoG_0]
  exact q

def T_Promise___init__ : DXS → TSD := fun RX => (dSeq (dDrop (dCallX (S_check_number) RX (dCons (dVar 1) dNil)))
    (dSomeS CS_Promise fun c => (dFldS c "_least" (dVar 0) (dVar 1))))

def S_Promise___init__ : SpDX := fun ds ω R RX => ∃ x dx fds v, ds = [.raw (.ref x), v] ∧ v.ok = true ∧ ω x = some (.ins (Ers.ad "PromisedHoist") dx fds) ∧ fds.length < 1000 ∧
  (numB v 0 100000000 = true → R .non (oset ω x (.ins (Ers.ad "PromisedHoist") dx (dput "_least" v fds)))) ∧ (numB v 0 100000000 = false → RX "BadNumber" (some [("value", v)]) ω)
theorem ar_Promise___init__ : ∀ ds ω R RX, S_Promise___init__ ds ω R RX → ds.length = ["self", "least"].length := by
  rintro ds ω R RX ⟨x, dx, fds, v, rfl, _⟩
  rfl
theorem rd_Promise___init__ : ∀ ds ω R RX, S_Promise___init__ ds ω R RX → T_Promise___init__ (noS RX) { nx := fun _ ω' => R .non ω', rt := R } (startD ["self", "least"] ds) ω := by
  rintro ds ω R RX ⟨x, dx, fds, v, rfl, ok, hx, hl, q, qx⟩
  have hcm := proC_mem
  show T_Promise___init__ _ _ [some (.raw (.ref x)), some v] ω
  unfold T_Promise___init__
  walk_at "ds"
  refine ⟨v, rfl, ok, fun hb => ?_, fun hb => qx hb⟩
  walk_at "ds"
  exact ⟨x, dx, fds, rfl, hx, hl, q hb⟩

def T_PromisedHoist___init__ : DXS → TSD := fun RX => (dSeq (dDrop (dClsM "Hoist" S_Hoist___init__ RX (dC (clsD "Hoist")) (dCons (dVar 0) (dCons (dVar 1) dNil))))
    (dSeq (dDrop (dClsM "Promise" S_Promise___init__ RX (dC (clsD "Promise")) (dCons (dVar 0) (dCons (dVar 2) dNil))))
    (dDrop (dMeth "PromisedHoist" "_check_tower" S_PromisedHoist__check_tower RX (dVar 0) (dCons (dVar 1) dNil)))))

def S_PromisedHoist___init__ : SpDX := fun ds ω R RX => ∃ (x dx : Addr) (e : Int) (ws : List Int) (v : D), ds = [.raw (.ref x), towD e ws, v] ∧ ω x = some (.ins (Ers.ad "PromisedHoist") dx []) ∧ v.ok = true ∧ TowOk e ws ∧ TabOn "people_by_weight" ω ∧
  (∀ l, v = .int l → 0 ≤ l → l ≤ 100000000 → l ≤ rch e ws → R .non (oset ω x (.ins (Ers.ad "PromisedHoist") dx (hoG (some l) [towD e ws] [])))) ∧
  (∀ l ω', v = .int l → 0 ≤ l → l ≤ 100000000 → rch e ws < l → (∀ b, b ≠ x → ω' b = ω b) → RX "TooLow" (some [("number", .int (rch e ws))]) ω') ∧ (∀ ω', numB v 0 100000000 = false → (∀ b, b ≠ x → ω' b = ω b) → RX "BadNumber" (some [("value", v)]) ω')
theorem ar_PromisedHoist___init__ : ∀ ds ω R RX, S_PromisedHoist___init__ ds ω R RX → ds.length = ["self", "tower", "least"].length := by
  rintro ds ω R RX ⟨x, dx, e, ws, v, rfl, _⟩
  rfl
theorem rd_PromisedHoist___init__ : ∀ ds ω R RX, S_PromisedHoist___init__ ds ω R RX → T_PromisedHoist___init__ (noS RX) { nx := fun _ ω' => R .non ω', rt := R } (startD ["self", "tower", "least"] ds) ω := by
  rintro ds ω R RX ⟨x, dx, e, ws, v, rfl, hx, ok, tk, ht, q, q2, q3⟩
  have hcm := proC_mem
  have hcm2 := hoC_mem (some 0)
  show T_PromisedHoist___init__ _ _ [some (.raw (.ref x)), some (towD e ws), some v] ω
  unfold T_PromisedHoist___init__
  walk_at "ds"
  refine ⟨clsD_ref (by decide), ?_⟩
  walk_at "ds"
  refine ⟨some 0, x, dx, e, ws, rfl, hx, tk.1, tk.2.1, tk.2.2.1, tk.2.2.2, ?_⟩
  walk_at "ds"
  refine ⟨clsD_ref (by decide), ?_⟩
  walk_at "ds"
  refine ⟨x, dx, _, v, rfl, ok, oset_same, hoG_len, fun hb => ?_, fun hb => q3 _ hb fun b hb => oset_ne hb⟩
  obtain ⟨l, rfl, l0, l1⟩ : ∃ i, v = .int i ∧ 0 ≤ i ∧ i ≤ 100000000 := by
    cases v <;> first | cases hb; done | exact ⟨_, rfl, of_decide_eq_true hb⟩
  rw [oset2, hoG_new]
  walk_at "ds"
  have tx : TabOn "people_by_weight" (oset ω x (.ins (Ers.ad "PromisedHoist") dx (hoG (some l) [towD e ws] []))) := by
    have hne : Tbl.P "people_by_weight" ≠ x := ht.neI hx
    exact (oset_ne hne).trans ht
  refine ⟨⟨_, .own oset_same, hoG_no⟩, ?_⟩
  walk_at "ds"
  refine ⟨x, dx, _, l, e, ws, rfl, oset_same, hoG_l, hoG_no, tk, tx, fun le => ?_, fun lt => q2 l _ rfl l0 l1 lt fun b hb => oset_ne hb⟩
  walk_at "ds"
  exact q l rfl l0 l1 le

def T__law_refused : TSD := (dSeq (dAsg (dC .non) (dgName 2))
    (dSeq (dTry prsK "TooLow" 3 (fun RX => (dAsg (dSl (dLst (dCons (dMakeO "PromisedHoist" S_PromisedHoist___init__ RX (dCons (dVar 0) (dCons (dVar 1) dNil))) dNil)) dNoP (dPart (dC (.int 0)))) (dgName 2))) (fun x a d => (dAsg (dXf a d "number" (dVar 3)) (dgName 2))) noX)
    (dRet (dIf (dTst (dBin (dEq false) (dVar 2) (dLst dNil))) (dC .non) (dVar 2)))))

theorem st_eqIL {i : Int} {ω : Om} {Q : DQ} (h : Q (.bl false) ω) : dEq false (.int i) (.lst []) ω Q := by
  show eqD _ _ ∧ Q _ ω
  refine ⟨⟨rfl, rfl, ?_, ?_⟩, ?_⟩
  · simp [SeqAt.shaped, D.py, PyData.canLay0, PyData.depth]
  · simp [SeqAt.shaped, D.py, pyAll, PyData.canLay0, PyData.canLayAll0, PyData.depth, PyData.depthAll]
  · have e : PyData.eqv (D.int i).py (D.lst []).py = false := by simp [D.py, pyAll, PyData.eqv]
    rw [e]
    exact h
def S__law_refused : SpD := fun ds ω R => ∃ (e : Int) (ws : List Int) (l : Int), ds = [towD e ws, .int l] ∧ 0 ≤ l ∧ l ≤ 100000000 ∧ TowOk e ws ∧ TabOn "people_by_weight" ω ∧ (l ≤ rch e ws → ∀ ω', Ext ω ω' → R .non ω') ∧ (rch e ws < l → ∀ ω', Ext ω ω' → R (.int (rch e ws)) ω')
theorem ar__law_refused : ∀ ds ω R, S__law_refused ds ω R → ds.length = ["tower", "least"].length := by
  rintro ds ω R ⟨e, ws, l, rfl, _⟩
  rfl
theorem rd__law_refused : ∀ ds ω R, S__law_refused ds ω R → T__law_refused { nx := fun _ ω' => R .non ω', rt := R } (startD ["tower", "least", "found", "e"] ds) ω := by
  rintro ds ω R ⟨e, ws, l, rfl, l0, l1, tk, ht, q1, q2⟩
  show T__law_refused _ [some (towD e ws), some (.int l), none, none] ω
  unfold T__law_refused
  walk_at "ds"
  refine st_try ?_
  walk_at "ds"
  intro x dx hx0 hdx ne
  refine ⟨x, dx, e, ws, .int l, rfl, oset_same, rfl, tk, ht.ext (Ext.xd hx0), fun l' el _ _ le => ?_, fun l' ω' el _ _ lt fr => ?_, fun ω' nb fr => ?_⟩
  · cases el
    refine ⟨rfl, ?_⟩
    rw [oset2]
    have x1 : Ext ω (oset ω x (.ins (Ers.ad "PromisedHoist") dx (hoG (some l) [towD e ws] []))) := Ext.xd hx0
    generalize oset ω x (.ins (Ers.ad "PromisedHoist") dx (hoG (some l) [towD e ws] [])) = ω1 at x1 ⊢
    walk_at "ds"
    rw [show cutD [D.raw (.ref x)] none (some 0) = [] from rfl]
    refine ⟨⟨rfl, rfl, by decide +kernel, by decide +kernel⟩, ?_⟩
    rw [show PyData.eqv (D.lst []).py (D.lst []).py = true from by decide +kernel]
    walk_at "ds"
    exact q1 le _ x1
  · cases el
    refine st_catch (by decide) (by decide) fun a dd ω2 x2 o2 => ?_
    have x1 : Ext ω ω' := fun b hb => by
      have n : b ≠ x := fun z => hb (by rw [z]; exact hx0)
      rw [fr b n, oset_ne n]
    walk_at "ds"
    refine st_xf ?_
    walk_at "ds"
    refine ⟨rfl, _, _, o2, rfl, ?_⟩
    walk_at "ds"
    refine st_eqIL ?_
    walk_at "ds"
    exact q2 lt _ (x1.trans x2)
  · rw [show numB (.int l) 0 100000000 = true from decide_eq_true ⟨l0, l1⟩] at nb
    cases nb

def T_Hoist_reach : DXS → TSD := fun RX => (dRet (dCall (S_reach_weight) (dCons (dBin dIx (dSome CS_Hoist fun c => (dFld c "_towers" (dVar 0))) (dUn dNeg (dC (.int 1)))) dNil)))

def S_Hoist_reach : SpDX := fun ds ω R RX => ∃ (L : Option Int) (x dx : Addr) (ts es : List D) (e : Int) (ws : List Int), ds = [.raw (.ref x)] ∧ ω x = some (.ins (Ers.ad (hoC L)) dx (hoG L (ts ++ [towD e ws]) es)) ∧ ws.length ≤ 1000 ∧ TabOn "people_by_weight" ω ∧ R (.int (rch e ws)) ω
theorem ar_Hoist_reach : ∀ ds ω R RX, S_Hoist_reach ds ω R RX → ds.length = ["self"].length := by
  rintro ds ω R RX ⟨L, x, dx, ts, es, e, ws, rfl, _⟩
  rfl
theorem rd_Hoist_reach : ∀ ds ω R RX, S_Hoist_reach ds ω R RX → T_Hoist_reach (noS RX) { nx := fun _ ω' => R .non ω', rt := R } (startD ["self"] ds) ω := by
  rintro ds ω R RX ⟨L, x, dx, ts, es, e, ws, rfl, hx, hl, ht, q⟩
  have hcm := hoC_mem L
  show T_Hoist_reach _ _ [some (.raw (.ref x))] ω
  unfold T_Hoist_reach
  walk_at "ds"
  refine ⟨_, _, .own hx, rfl, ?_⟩
  walk_at "ds"
  refine st_ixT atI_last' ?_
  walk_at "ds"
  exact ⟨e, ws, rfl, hl, ht, q⟩

def T_Hoist___str__ : DXS → TSD := fun RX => (dRet (dJoined [(dFmt (dCall dLen (dCons (dBin dIx (dSome CS_Hoist fun c => (dProp c S_Hoist_tower (dVar 0))) (dC (.int 1))) dNil))), (dC (.str " people, excess ")), (dFmt (dBin dIx (dSome CS_Hoist fun c => (dProp c S_Hoist_tower (dVar 0))) (dC (.int 0)))), (dC (.str ", reach ")), (dFmt (dSome CS_Hoist fun c => (dProp c S_Hoist_reach (dVar 0)))), (dC (.str ", ")), (dFmt (dCall dLen (dCons (dSome CS_Hoist fun c => (dFld c "_edits" (dVar 0))) dNil))), (dC (.str " edits"))]))

def S_Hoist___str__ : SpDX := fun ds ω R RX => ∃ (L : Option Int) (x dx : Addr) (ts es : List D) (e : Int) (ws : List Int), ds = [.raw (.ref x)] ∧ ω x = some (.ins (Ers.ad (hoC L)) dx (hoG L (ts ++ [towD e ws]) es)) ∧ TowOk e ws ∧ es.length ≤ 60 ∧ TabOn "people_by_weight" ω ∧ R (.str (hoS ws.length e (rch e ws) es.length)) ω
theorem ar_Hoist___str__ : ∀ ds ω R RX, S_Hoist___str__ ds ω R RX → ds.length = ["self"].length := by
  rintro ds ω R RX ⟨L, x, dx, ts, es, e, ws, rfl, _⟩
  rfl
theorem rd_Hoist___str__ : ∀ ds ω R RX, S_Hoist___str__ ds ω R RX → T_Hoist___str__ (noS RX) { nx := fun _ ω' => R .non ω', rt := R } (startD ["self"] ds) ω := by
  rintro ds ω R RX ⟨L, x, dx, ts, es, e, ws, rfl, hx, tk, el, tb, q⟩
  have hcm := hoC_mem L
  show T_Hoist___str__ _ _ [some (.raw (.ref x))] ω
  unfold T_Hoist___str__
  walk_at "ds"
  obtain ⟨e0, e1, wl, hw⟩ := tk
  have r0 : 0 ≤ rch e ws := rch_nonneg fun w h => (hw w h).1
  have r1 : rch e ws ≤ 24000000 := by
    have a := rch_le (e := e) fun w h => (hw w h).1
    have b := (sum_bound hw).2
    have c : (ws.length : Int) * 1000000 ≤ 24 * 1000000 := Int.mul_le_mul_of_nonneg_right (by omega) (by decide)
    omega
  have big : 1000 ≤ sizeLine := by decide
  have n1 : ((toString (ws.length : Int) : String) : Str).length ≤ 31 := lenI (by omega)
  have n2 : ((toString e : String) : Str).length ≤ 31 := lenI (by omega)
  have n3 : ((toString (rch e ws) : String) : Str).length ≤ 31 := lenI (by omega)
  have n4 : ((toString (es.length : Int) : String) : Str).length ≤ 31 := lenI (by omega)
  have z0 : Str.empty.length = 0 := rfl
  have z1 : (Str.ofString " people, excess ").length = 16 := by decide
  have z2 : (Str.ofString ", reach ").length = 8 := by decide
  have z3 : (Str.ofString ", ").length = 2 := by decide
  have z4 : (Str.ofString " edits").length = 6 := by decide
  refine ⟨⟨_, .own hx⟩, L, x, dx, ts, es, _, rfl, hx, ?_⟩
  walk_at "ds"
  refine st_ixT (i := 1) (d := .tup (ws.map D.int)) rfl ?_
  walk_at "ds"
  rw [List.length_map]
  refine st_fmtI (logI (by omega)) ?_
  refine st_jpart (by simp only [strLen_append]; omega) ?_
  walk_at "ds"
  refine ⟨by simp only [strLen_append]; omega, ?_⟩
  walk_at "ds"
  refine ⟨⟨_, .own hx⟩, L, x, dx, ts, es, _, rfl, hx, ?_⟩
  walk_at "ds"
  refine st_ixT (i := 0) (d := .int e) rfl ?_
  refine st_fmtI (logI (by omega)) ?_
  refine st_jpart (by simp only [strLen_append]; omega) ?_
  walk_at "ds"
  refine ⟨by simp only [strLen_append]; omega, ?_⟩
  walk_at "ds"
  refine ⟨⟨_, .own hx⟩, L, x, dx, ts, es, e, ws, rfl, hx, by omega, tb, ?_⟩
  refine st_fmtI (logI (by omega)) ?_
  refine st_jpart (by simp only [strLen_append]; omega) ?_
  walk_at "ds"
  refine ⟨by simp only [strLen_append]; omega, ?_⟩
  walk_at "ds"
  refine ⟨_, _, .own hx, rfl, ?_⟩
  walk_at "ds"
  refine st_fmtI (logI (by omega)) ?_
  refine st_jpart (by simp only [strLen_append]; omega) ?_
  walk_at "ds"
  refine ⟨by simp only [strLen_append]; omega, ?_⟩
  walk_at "ds"
  exact q

def T_Hoist_edits : DXS → TSD := fun RX => (dRet (dSome CS_Hoist fun c => (dFld c "_edits" (dVar 0))))

def S_Hoist_edits : SpDX := fun ds ω R RX => ∃ (L : Option Int) (x dx : Addr) (ts es : List D) (t : D), ds = [.raw (.ref x)] ∧ ω x = some (.ins (Ers.ad (hoC L)) dx (hoG L (ts ++ [t]) es)) ∧ R (.tup es) ω
theorem ar_Hoist_edits : ∀ ds ω R RX, S_Hoist_edits ds ω R RX → ds.length = ["self"].length := by
  rintro ds ω R RX ⟨L, x, dx, ts, es, t, rfl, _⟩
  rfl
theorem rd_Hoist_edits : ∀ ds ω R RX, S_Hoist_edits ds ω R RX → T_Hoist_edits (noS RX) { nx := fun _ ω' => R .non ω', rt := R } (startD ["self"] ds) ω := by
  rintro ds ω R RX ⟨L, x, dx, ts, es, t, rfl, hx, q⟩
  have hcm := hoC_mem L
  show T_Hoist_edits _ _ [some (.raw (.ref x))] ω
  unfold T_Hoist_edits
  walk_at "ds"
  refine ⟨_, _, .own hx, rfl, ?_⟩
  walk_at "ds"
  exact q

def T_Hoist_is_free : DXS → TSD := fun RX => (dRet (dBin (dIsN false) (dCall (S_stuck_person) (dCons (dBin dIx (dSome CS_Hoist fun c => (dFld c "_towers" (dVar 0))) (dUn dNeg (dC (.int 1)))) dNil)) (dC .non)))

def S_Hoist_is_free : SpDX := fun ds ω R RX => ∃ (L : Option Int) (x dx : Addr) (ts es : List D) (e : Int) (ws : List Int), ds = [.raw (.ref x)] ∧ ω x = some (.ins (Ers.ad (hoC L)) dx (hoG L (ts ++ [towD e ws]) es)) ∧ ws.length ≤ 1000 ∧ TabOn "people_by_weight" ω ∧ R (.bl (stk e ws).isNone) ω
theorem ar_Hoist_is_free : ∀ ds ω R RX, S_Hoist_is_free ds ω R RX → ds.length = ["self"].length := by
  rintro ds ω R RX ⟨L, x, dx, ts, es, e, ws, rfl, _⟩
  rfl
theorem rd_Hoist_is_free : ∀ ds ω R RX, S_Hoist_is_free ds ω R RX → T_Hoist_is_free (noS RX) { nx := fun _ ω' => R .non ω', rt := R } (startD ["self"] ds) ω := by
  rintro ds ω R RX ⟨L, x, dx, ts, es, e, ws, rfl, hx, hl, ht, q⟩
  have hcm := hoC_mem L
  show T_Hoist_is_free _ _ [some (.raw (.ref x))] ω
  unfold T_Hoist_is_free
  walk_at "ds"
  refine ⟨_, _, .own hx, rfl, ?_⟩
  walk_at "ds"
  refine st_ixT atI_last' ?_
  walk_at "ds"
  refine ⟨e, ws, rfl, hl, ht, ?_⟩
  walk_at "ds"
  cases hs : stk e ws with
  | none => rw [hs] at q; exact q
  | some p => rw [hs] at q; exact q

def T_Hoist_state : DXS → TSD := fun RX => (dSeq (dIfS (dTst (dBin (dIsN false) (dVar 1) (dC .non))) (dRet (dSome CS_Hoist fun c => (dProp c S_Hoist_tower (dVar 0)))) dNext)
    (dSeq (dIfS (dNotT (dTst (dCall (S_is_number_between) (dCons (dVar 1) (dCons (dC (.int 0)) (dCons (dCall dLen (dCons (dSome CS_Hoist fun c => (dFld c "_edits" (dVar 0))) dNil)) dNil)))))) (dRaise "NoVersion" "value" (dVar 1) RX) dNext)
    (dRet (dBin dIx (dSome CS_Hoist fun c => (dFld c "_towers" (dVar 0))) (dVar 1)))))

def S_Hoist_state : SpDX := fun ds ω R RX => (∃ (L : Option Int) (x dx : Addr) (ts es : List D) (t : D), ds = [.raw (.ref x), .non] ∧ ω x = some (.ins (Ers.ad (hoC L)) dx (hoG L (ts ++ [t]) es)) ∧ R t ω) ∨
  ∃ (L : Option Int) (x dx : Addr) (ts es : List D) (v : D), ds = [.raw (.ref x), v] ∧ ω x = some (.ins (Ers.ad (hoC L)) dx (hoG L ts es)) ∧ ts.length = es.length + 1 ∧ v.ok = true ∧ isNonD v = false ∧
    ((∃ k : Int, v = .int k ∧ 0 ≤ k ∧ k ≤ es.length ∧ ∀ t, ts[k.toNat]? = some t → R t ω) ∨ (numB v 0 es.length = false ∧ RX "NoVersion" (some [("value", v)]) ω))
theorem ar_Hoist_state : ∀ ds ω R RX, S_Hoist_state ds ω R RX → ds.length = ["self", "version"].length := by
  rintro ds ω R RX (⟨L, x, dx, ts, es, t, rfl, _⟩ | ⟨L, x, dx, ts, es, v, rfl, _⟩)
  · rfl
  · rfl
theorem rd_Hoist_state : ∀ ds ω R RX, S_Hoist_state ds ω R RX → T_Hoist_state (noS RX) { nx := fun _ ω' => R .non ω', rt := R } (startD ["self", "version"] ds) ω := by
  rintro ds ω R RX (⟨L, x, dx, ts, es, t, rfl, hx, q⟩ | ⟨L, x, dx, ts, es, v, rfl, hx, hl, ok, hn, q⟩)
  · have hcm := hoC_mem L
    show T_Hoist_state _ _ [some (.raw (.ref x)), some .non] ω
    unfold T_Hoist_state
    walk_at "ds"
    rw [if_pos (show isNonD D.non = true from rfl)]
    walk_at "ds"
    exact ⟨⟨_, .own hx⟩, L, x, dx, ts, es, t, rfl, hx, q⟩
  · have hcm := hoC_mem L
    show T_Hoist_state _ _ [some (.raw (.ref x)), some v] ω
    unfold T_Hoist_state
    walk_at "ds"
    rw [hn, if_neg (by decide)]
    walk_at "ds"
    refine ⟨_, _, .own hx, rfl, ?_⟩
    walk_at "ds"
    refine ⟨v, 0, _, rfl, ok, ?_⟩
    rcases q with ⟨k, rfl, k0, k1, q⟩ | ⟨nb, q⟩
    · rw [show numB (.int k) 0 (es.length : Int) = true from decide_eq_true ⟨k0, k1⟩]
      walk_at "ds"
      refine ⟨_, _, .own hx, rfl, ?_⟩
      walk_at "ds"
      have lk : k.toNat < ts.length := by omega
      refine st_ixT (atI_nat k0 (by omega)) ?_
      exact q _ (List.getElem?_eq_getElem lk)
    · rw [nb]
      walk_at "ds"
      exact q
/-- the towers at a version, or at present -/
def VerAt (ts es : List D) (v t : D) : Prop := (v = .non ∧ ∃ ts', ts = ts' ++ [t]) ∨ ∃ k : Int, v = .int k ∧ ts.length = es.length + 1 ∧ 0 ≤ k ∧ k ≤ es.length ∧ ts[k.toNat]? = some t
theorem VerAt.state {L : Option Int} {x dx : Addr} {ts es : List D} {v t : D} {ω : Om} {Q : DQ} {RX : DXQ} (h : VerAt ts es v t) (hx : ω x = some (.ins (Ers.ad (hoC L)) dx (hoG L ts es))) (q : Q t ω) : S_Hoist_state [.raw (.ref x), v] ω Q RX := by
  rcases h with ⟨rfl, ts', rfl⟩ | ⟨k, rfl, hl, k0, k1, et⟩
  · exact .inl ⟨L, x, dx, ts', es, _, rfl, hx, q⟩
  · exact .inr ⟨L, x, dx, ts, es, .int k, rfl, hx, hl, rfl, rfl, .inl ⟨k, rfl, k0, k1, fun t ht => by rw [et] at ht; cases ht; exact q⟩⟩

def T_Hoist_walk : TYD := (dSeqY (dPlainY (dAsg (dSome CS_Hoist fun c => (dMethKw c "state" S_Hoist_state noX (dVar 0) dNil (dVar 1))) (dgName 2)))
    (dForY (dItems (dCall (S_people_by_weight) (dCons (dVar 2) dNil))) (dgName 3) (dYield (dTup (dCons (dVar 3) (dCons (dCall (S_room_of) (dCons (dVar 2) (dCons (dVar 3) dNil))) dNil))))))

/-- what a walk hands out: the people, lightest first, each with the room -/
def walkL (e : Int) (ws : List Int) : List D := (LK.byW ws).map fun p => D.tup [.int p, .int (roomI e ws p)]
def S_Hoist_walk : SpGD := fun ds ω R => ∃ (L : Option Int) (x dx : Addr) (ts es : List D) (v : D) (e : Int) (ws : List Int), ds = [.raw (.ref x), v] ∧ ω x = some (.ins (Ers.ad (hoC L)) dx (hoG L ts es)) ∧
  VerAt ts es v (towD e ws) ∧ ws.length ≤ 1000 ∧ TabOn "people_by_weight" ω ∧ R (walkL e ws) ω
theorem ar_Hoist_walk : ∀ ds ω R, S_Hoist_walk ds ω R → ds.length = ["self", "version"].length := by
  rintro ds ω R ⟨L, x, dx, ts, es, v, e, ws, rfl, _⟩
  rfl
theorem rd_Hoist_walk : ∀ ds ω R, S_Hoist_walk ds ω R → T_Hoist_walk { nx := fun ys _ ω' => R ys ω', rt := fun ys d ω' => d = .non ∧ R ys ω' } [] (startD ["self", "version", "tower", "person"] ds) ω := by
  rintro ds ω R ⟨L, x, dx, ts, es, v, e, ws, rfl, hx, hv, wl, tb, q⟩
  have hcm := hoC_mem L
  show T_Hoist_walk _ [] [some (.raw (.ref x)), some v, none, none] ω
  unfold T_Hoist_walk
  walk_at "ds"
  refine ⟨⟨_, .own hx, hoG_no⟩, ?_⟩
  walk_at "ds"
  refine hv.state hx ?_
  walk_at "ds"
  unfold towD
  refine ⟨_, ws, rfl, wl, tb, ?_⟩
  walk_at "ds"
  have bl : (LK.byW ws).length = ws.length := byW_len ws
  have wl2 : (walkL e ws).length = ws.length := by unfold walkL; rw [List.length_map]; exact bl
  refine ⟨fun i ys ρ ω' => (∃ v3, ρ = [some (.raw (.ref x)), some v, some (.tup [.int e, .tup (ws.map D.int)]), v3]) ∧ ω' = ω ∧ ys = (walkL e ws).take i, ⟨⟨_, rfl⟩, rfl, rfl⟩, fun _ _ _ _ _ => trivial, ?_, ?_⟩
  · rintro i d ys ρ ω' ed ⟨⟨v3, rfl⟩, rfl, rfl⟩
    rw [List.getElem?_map] at ed
    cases ep : (LK.byW ws)[i]? with
    | none => rw [ep] at ed; cases ed
    | some p =>
      rw [ep] at ed
      cases ed
      obtain ⟨p0, p1⟩ := byW_mem.mp (List.mem_of_getElem? ep)
      walk_at "ds"
      refine st_yield (by rw [List.length_take, wl2]; exact Nat.lt_of_le_of_lt (m := 1000) (by omega) (by decide)) ?_
      walk_at "ds"
      refine ⟨e, ws, p, rfl, p0, p1, wl, ?_⟩
      walk_at "ds"
      refine ⟨⟨_, rfl⟩, rfl, ?_⟩
      rw [List.take_succ]
      congr 1
      unfold walkL
      rw [List.getElem?_map, ep]
      rfl
  · rintro ys ρ ω' ⟨⟨v3, rfl⟩, rfl, rfl⟩
    have e1 : (walkL e ws).take ((LK.byW ws).map D.int).length = walkL e ws := List.take_of_length_le (by unfold walkL; rw [List.length_map, List.length_map]; exact Nat.le_refl _)
    rw [e1]
    exact q

def T__law_shown : TSD := (dRet (dCall dRepr (dCons (dLst (dCons (dSome CS_Hoist fun c => (dMethN c "state" S_Hoist_state noX (dVar 0))) (dCons (dSome CS_Hoist fun c => (dProp c S_Hoist_reach (dVar 0))) (dCons (dSome CS_Hoist fun c => (dProp c S_Hoist_is_free (dVar 0))) (dCons (dSome CS_Hoist fun c => (dMeth c "edits" S_Hoist_edits noX (dVar 0) dNil)) (dCons (dSome CS_Hoist fun c => (dCall (dStrM c S_Hoist___str__) (dCons (dVar 0) dNil))) (dCons (dSome CS_Hoist fun c => (dListG c "walk" S_Hoist_walk (dVar 0) (dC .non))) dNil))))))) dNil)))

def shownE (e : Int) (ws : List Int) (es : List Ed) : Str := (D.lst [towD e ws, .int (rch e ws), .bl (stk e ws).isNone, .tup (es.map Ed.d), .str (hoS ws.length e (rch e ws) (es.map Ed.d).length), .lst (walkL e ws)]).py.shown
def S__law_shown : SpD := fun ds ω R => ∃ (L : Option Int) (x dx : Addr) (ts : List D) (es : List Ed) (e : Int) (ws : List Int), ds = [.raw (.ref x)] ∧ ω x = some (.ins (Ers.ad (hoC L)) dx (hoG L (ts ++ [towD e ws]) (es.map Ed.d))) ∧ TowOk e ws ∧ es.length ≤ 60 ∧ (∀ d ∈ es, Nice 2 300 d.d) ∧ TabOn "people_by_weight" ω ∧ R (.str (shownE e ws es)) ω
theorem ar__law_shown : ∀ ds ω R, S__law_shown ds ω R → ds.length = ["table"].length := by
  rintro ds ω R ⟨L, x, dx, ts, es, e, ws, rfl, _⟩
  rfl
theorem strOk_app {a b : Str} (h : PyData.strOk a = true) (k : PyData.strOk b = true) : PyData.strOk (a ++ b) = true := by
  unfold PyData.strOk at h k ⊢
  have e : (a ++ b).cps = a.cps ++ b.cps := rfl
  rw [e, Array.all_append, h, k]
  rfl
theorem strOk_num (i : Int) : PyData.strOk ((toString i : String) : Str) = true := strOk_int i
theorem hoS_nice {n m : Nat} {e r : Int} (hn : n ≤ 24) (he : 1 ≤ e ∧ e ≤ 1000000) (hr : 0 ≤ r ∧ r ≤ 24000000) (hm : m ≤ 60) : Nice 0 5000 (.str (hoS n e r m)) := by
  have ok : PyData.strOk (hoS n e r m) = true := by
    unfold hoS
    exact strOk_app (strOk_app (strOk_app (strOk_app (strOk_app (strOk_app (strOk_app (strOk_app (by decide +kernel) (strOk_num _)) (by decide +kernel)) (strOk_num _)) (by decide +kernel)) (strOk_num _)) (by decide +kernel)) (strOk_num _)) (by decide +kernel)
  refine nice_shown (n := 200) ok ?_ (by decide)
  have n1 : ((toString (n : Int) : String) : Str).length ≤ 31 := lenI (by omega)
  have n2 : ((toString e : String) : Str).length ≤ 31 := lenI (by omega)
  have n3 : ((toString r : String) : Str).length ≤ 31 := lenI (by omega)
  have n4 : ((toString (m : Int) : String) : Str).length ≤ 31 := lenI (by omega)
  have z1 : (Str.ofString " people, excess ").length = 16 := by decide
  have z2 : (Str.ofString ", reach ").length = 8 := by decide
  have z3 : (Str.ofString ", ").length = 2 := by decide
  have z4 : (Str.ofString " edits").length = 6 := by decide
  have z5 : Str.empty.length = 0 := by decide
  unfold hoS
  simp only [strLen_append]
  omega
theorem nice_walk {e : Int} {ws : List Int} (tk : TowOk e ws) : Nice 3 200000 (.lst (walkL e ws)) := by
  have bl : (walkL e ws).length = ws.length := by unfold walkL; rw [List.length_map]; exact byW_len ws
  refine nice_lst (k := 1) (n := 200) (fun d hd => ?_) (by decide) (by rw [bl]; have := tk.2.2.1; omega)
  unfold walkL at hd
  obtain ⟨p, hp, rfl⟩ := List.mem_map.mp hd
  obtain ⟨p0, p1⟩ := byW_mem.mp hp
  have wp := tk.2.2.2 _ (wAt_mem p0 p1)
  have h1 : ∀ w ∈ ws, 1 ≤ w := fun w h => (tk.2.2.2 w h).1
  have a := lite_le_sum h1 (wAt ws p)
  have b := lite_nonneg h1 (wAt ws p)
  have c := (sum_bound tk.2.2.2).2
  have d : (ws.length : Int) * 1000000 ≤ 24 * 1000000 := Int.mul_le_mul_of_nonneg_right (by have := tk.2.2.1; omega) (by decide)
  have e0 := tk.1
  have e1 := tk.2.1
  have wl := tk.2.2.1
  unfold roomI
  exact nice_tup (k := 0) (n := 60) (all_cons (nice_int (m := 30) (by omega) (by decide) (by decide) (by decide)) (all_cons (nice_int (m := 30) (by omega) (by decide) (by decide) (by decide)) all_nil)) (by decide) (by show 2 * 62 + 3 ≤ 200; decide)
theorem rd__law_shown : ∀ ds ω R, S__law_shown ds ω R → T__law_shown { nx := fun _ ω' => R .non ω', rt := R } (startD ["table"] ds) ω := by
  rintro ds ω R ⟨L, x, dx, ts, es, e, ws, rfl, hx, tk, el, ne, tb, q⟩
  have hcm := hoC_mem L
  have wl := tk.2.2.1
  show T__law_shown _ [some (.raw (.ref x))] ω
  unfold T__law_shown
  walk_at "ds"
  refine ⟨⟨_, .own hx, hoG_no⟩, ?_⟩
  walk_at "ds"
  refine .inl ⟨L, x, dx, ts, _, _, rfl, hx, ?_⟩
  walk_at "ds"
  refine ⟨⟨_, .own hx⟩, L, x, dx, ts, _, e, ws, rfl, hx, by omega, tb, ?_⟩
  walk_at "ds"
  refine ⟨⟨_, .own hx⟩, L, x, dx, ts, _, e, ws, rfl, hx, by omega, tb, ?_⟩
  walk_at "ds"
  refine ⟨⟨_, .own hx, hoG_no⟩, ?_⟩
  walk_at "ds"
  refine ⟨L, x, dx, ts, _, _, rfl, hx, ?_⟩
  walk_at "ds"
  refine st_strM (.own hx) ⟨L, x, dx, ts, _, e, ws, rfl, hx, tk, by rw [List.length_map]; exact el, tb, _, rfl, ?_⟩
  walk_at "ds"
  refine ⟨⟨_, .own hx, hoG_no⟩, ?_⟩
  walk_at "ds"
  refine ⟨L, x, dx, _, _, .non, e, ws, rfl, hx, .inl ⟨rfl, ts, rfl⟩, by omega, tb, ?_⟩
  walk_at "ds"
  obtain ⟨r0, r1⟩ : 0 ≤ rch e ws ∧ rch e ws ≤ 24000000 := by
    have h1 : ∀ w ∈ ws, 1 ≤ w := fun w h => (tk.2.2.2 w h).1
    refine ⟨rch_nonneg h1, ?_⟩
    have a := rch_le (e := e) h1
    have b := (sum_bound tk.2.2.2).2
    have c : (ws.length : Int) * 1000000 ≤ 24 * 1000000 := Int.mul_le_mul_of_nonneg_right (by omega) (by decide)
    omega
  have nes : Nice 3 20000 (.tup (es.map Ed.d)) := nice_tup (k := 2) (n := 300) (fun d hd => by
    obtain ⟨u, hu, rfl⟩ := List.mem_map.mp hd
    exact ne u hu) (by decide) (by rw [List.length_map]; omega)
  have nt := nice_tow tk
  have nw := nice_walk tk
  have e0 := tk.1
  have e1 := tk.2.1
  have lm : (es.map Ed.d).length ≤ 60 := by rw [List.length_map]; exact el
  refine st_repr ((nice_lst (k := 5) (n := 200000) (k' := 6) (n' := 2000000) (all_cons (nt.mono (by decide) (by decide)) (all_cons (nice_int (m := 30) (by omega) (by decide) (by decide) (by decide)) (all_cons (nice_bl _ (by decide)) (all_cons (nes.mono (by decide) (by decide)) (all_cons ((hoS_nice (n := ws.length) (by omega) (by omega) (by omega) (by omega)).mono (by decide) (by decide)) (all_cons (nw.mono (by decide) (by decide)) all_nil)))))) (by decide) (by show 6 * (200000 + 2) + 2 ≤ 2000000; decide)).shows (by decide) (by decide)) ?_
  exact q

def T_Hoist___eq__ : DXS → TSD := fun RX => (dSeq (dIfS (dNotT (dTst (dCall (dIsK "Hoist" CS_Hoist (isF "Hoist")) (dCons (dVar 1) (dCons (dC (clsD "Hoist")) dNil))))) (dRet (dC (.bl false))) dNext)
    (dRet (dBin (dEq false) (dCall (S_likeness) (dCons (dVar 0) dNil)) (dCall (S_likeness) (dCons (dVar 1) dNil)))))

def S_Hoist___eq__ : SpDX := fun ds ω R RX => ∃ (L M : Option Int) (x dx y dy : Addr) (ts es us fs : List D) (e f : Int) (ws vs : List Int), ds = [.raw (.ref x), .raw (.ref y)] ∧ ω x = some (.ins (Ers.ad (hoC L)) dx (hoG L (ts ++ [towD e ws]) es)) ∧ ω y = some (.ins (Ers.ad (hoC M)) dy (hoG M (us ++ [towD f vs]) fs)) ∧
  R (.bl (decide (e = f ∧ srt ws = srt vs ∧ L = M))) ω
theorem ar_Hoist___eq__ : ∀ ds ω R RX, S_Hoist___eq__ ds ω R RX → ds.length = ["self", "other"].length := by
  rintro ds ω R RX ⟨L, M, x, dx, y, dy, ts, es, us, fs, e, f, ws, vs, rfl, _⟩
  rfl
theorem rd_Hoist___eq__ : ∀ ds ω R RX, S_Hoist___eq__ ds ω R RX → T_Hoist___eq__ (noS RX) { nx := fun _ ω' => R .non ω', rt := R } (startD ["self", "other"] ds) ω := by
  rintro ds ω R RX ⟨L, M, x, dx, y, dy, ts, es, us, fs, e, f, ws, vs, rfl, hx, hy, q⟩
  have hcm := hoC_mem L
  have hcn := hoC_mem M
  show T_Hoist___eq__ _ _ [some (.raw (.ref x)), some (.raw (.ref y))] ω
  unfold T_Hoist___eq__
  walk_at "ds"
  refine st_isK hcn (.own hy) ?_
  rw [show isF "Hoist" (hoC M) = true from rfl]
  walk_at "ds"
  refine ⟨L, x, dx, ts, es, e, ws, rfl, hx, ?_⟩
  walk_at "ds"
  refine ⟨M, y, dy, us, fs, f, vs, rfl, hy, ?_⟩
  exact like_eq q

def T_Hoist___len__ : DXS → TSD := fun RX => (dRet (dCall dLen (dCons (dSome CS_Hoist fun c => (dFld c "_edits" (dVar 0))) dNil)))

def S_Hoist___len__ : SpDX := fun ds ω R RX => ∃ (L : Option Int) (x dx : Addr) (ts es : List D) (t : D), ds = [.raw (.ref x)] ∧ ω x = some (.ins (Ers.ad (hoC L)) dx (hoG L (ts ++ [t]) es)) ∧ R (.int es.length) ω
theorem ar_Hoist___len__ : ∀ ds ω R RX, S_Hoist___len__ ds ω R RX → ds.length = ["self"].length := by
  rintro ds ω R RX ⟨L, x, dx, ts, es, t, rfl, _⟩
  rfl
theorem rd_Hoist___len__ : ∀ ds ω R RX, S_Hoist___len__ ds ω R RX → T_Hoist___len__ (noS RX) { nx := fun _ ω' => R .non ω', rt := R } (startD ["self"] ds) ω := by
  rintro ds ω R RX ⟨L, x, dx, ts, es, t, rfl, hx, q⟩
  have hcm := hoC_mem L
  show T_Hoist___len__ _ _ [some (.raw (.ref x))] ω
  unfold T_Hoist___len__
  walk_at "ds"
  refine ⟨_, _, .own hx, rfl, ?_⟩
  walk_at "ds"
  exact q

def T_Hoist_undo : DXS → TSD := fun RX => (dSeq (dDrop (dSome CS_Hoist fun c => (dMeth c "_check_idle" S_Hoist__check_idle RX (dVar 0) dNil)))
    (dSeq (dIfS (dTst (dBin (dEq false) (dCall dLen (dCons (dSome CS_Hoist fun c => (dFld c "_edits" (dVar 0))) dNil)) (dC (.int 0)))) dNever dNext)
    (dSeq (dSomeS CS_Hoist fun c => (dFldS c "_towers" (dVar 0) (dSl (dSome CS_Hoist fun c => (dFld c "_towers" (dVar 0))) dNoP (dPart (dUn dNeg (dC (.int 1)))))))
    (dSeq (dSomeS CS_Hoist fun c => (dFldS c "_edits" (dVar 0) (dSl (dSome CS_Hoist fun c => (dFld c "_edits" (dVar 0))) dNoP (dPart (dUn dNeg (dC (.int 1)))))))
    (dRet (dCall dLen (dCons (dSome CS_Hoist fun c => (dFld c "_edits" (dVar 0))) dNil)))))))

def S_Hoist_undo : SpDX := fun ds ω R RX => ∃ (L : Option Int) (x dx : Addr) (ts es : List D) (t : D), ds = [.raw (.ref x)] ∧ ω x = some (.ins (Ers.ad (hoC L)) dx (hoG L (ts ++ [t]) es)) ∧
  (∃ es' u, es = es' ++ [u] ∧ R (.int es'.length) (oset ω x (.ins (Ers.ad (hoC L)) dx (hoG L ts es'))))
theorem ar_Hoist_undo : ∀ ds ω R RX, S_Hoist_undo ds ω R RX → ds.length = ["self"].length := by
  rintro ds ω R RX ⟨L, x, dx, ts, es, t, rfl, _⟩
  rfl
theorem rd_Hoist_undo : ∀ ds ω R RX, S_Hoist_undo ds ω R RX → T_Hoist_undo (noS RX) { nx := fun _ ω' => R .non ω', rt := R } (startD ["self"] ds) ω := by
  rintro ds ω R RX ⟨L, x, dx, ts, es, t, rfl, hx, q⟩
  have hcm := hoC_mem L
  show T_Hoist_undo _ _ [some (.raw (.ref x))] ω
  unfold T_Hoist_undo
  walk_at "ds"
  refine ⟨⟨_, .own hx, hoG_no⟩, L, x, dx, ts, es, t, rfl, hx, ?_⟩
  walk_at "ds"
  refine ⟨_, _, .own hx, rfl, ?_⟩
  walk_at "ds"
  obtain ⟨es', u, rfl, q⟩ := q
  · refine st_dec (fun c => (by simp at c; omega : False).elim) fun c => ?_
    walk_at "ds"
    refine ⟨_, _, .own hx, rfl, ?_⟩
    walk_at "ds"
    rw [cut_but]
    refine ⟨x, dx, _, rfl, hx, hoG_len, ?_⟩
    rw [hoG_t]
    walk_at "ds"
    refine ⟨_, _, .own oset_same, rfl, ?_⟩
    walk_at "ds"
    rw [cut_but]
    refine ⟨x, dx, _, rfl, oset_same, hoG_len, ?_⟩
    rw [hoG_e, oset2]
    walk_at "ds"
    refine ⟨_, _, .own oset_same, rfl, ?_⟩
    walk_at "ds"
    exact q

def T_law : TSD := (dSeq (dAsg (dCall (S__law_deck) (dCons (dVar 0) dNil)) (dgName 1))
    (dSeq (dAsg (dCall (S__law_tower) (dCons (dVar 1) (dCons (dC (.int 12)) dNil))) (dgName 2))
    (dSeq (dAsg (dCall (S_reach_weight) (dCons (dVar 2) dNil)) (dgName 3))
    (dSeq (dIfS (dOrT (dTst (dBin (dIsN true) (dCall (S__law_refused) (dCons (dVar 2) (dCons (dVar 3) dNil))) (dC .non))) (dTst (dBin (dEq true) (dCall (S__law_refused) (dCons (dVar 2) (dCons (dBin dAdd (dVar 3) (dC (.int 1))) dNil))) (dVar 3)))) (dRet (dC (.bl false))) dNext)
    (dSeq (dAsg (dCall dMax2 (dCons (dC (.int 0)) (dCons (dBin dSub (dVar 3) (dCall (S__law_draw) (dCons (dVar 1) (dCons (dC (.int 2)) dNil)))) dNil))) (dgName 4))
    (dSeq (dPar 5 6 (dCons (dMakeO "PromisedHoist" S_PromisedHoist___init__ noX (dCons (dVar 2) (dCons (dVar 4) dNil))) (dCons (dMakeO "Hoist" S_Hoist___init__ noX (dCons (dVar 2) dNil)) dNil)))
    (dSeq (dFor (dRng1 (dCons (dBin dAdd (dC (.int 1)) (dCall (S__law_draw) (dCons (dVar 1) (dCons (dC (.int 10)) dNil)))) dNil)) (dgName 7) (dSeq (dAsg (dCall (S__law_edit) (dCons (dVar 1) (dCons (dVar 2) dNil))) (dgName 8))
    (dSeq (dIfS (dTst (dBin (dEq true) (dCallX (S__law_do) noX (dCons (dVar 6) (dCons (dVar 8) dNil))) (dSome CS_Hoist fun c => (dCall (dLenM c S_Hoist___len__) (dCons (dVar 6) dNil))))) (dRet (dC (.bl false))) dNext)
    (dSeq (dAsg (dIf (dTst (dBin dGe (dSome CS_Hoist fun c => (dProp c S_Hoist_reach (dVar 6))) (dVar 4))) (dSome CS_Hoist fun c => (dCall (dLenM c S_Hoist___len__) (dCons (dVar 6) dNil))) (dLst (dCons (dSome CS_Hoist fun c => (dProp c S_Hoist_reach (dVar 6))) dNil))) (dgName 9))
    (dSeq (dAsg (dOrV (dBin (dEq false) (dBin dIx (dVar 8) (dC (.int 0))) (dC (.str "come"))) (dAndV (dBin (dEq false) (dBin dIx (dVar 8) (dC (.int 0))) (dC (.str "loosen"))) (dBin dGe (dBin dIx (dVar 8) (dC (.int 1))) (dBin dIx (dVar 2) (dC (.int 0)))))) (dgName 10))
    (dSeq (dIfS (dOrT (dTst (dBin (dEq true) (dCall dRepr (dCons (dCall (S__law_done) (dCons (dVar 5) (dCons (dVar 8) dNil))) dNil)) (dCall dRepr (dCons (dVar 9) dNil)))) (dAndT (dTst (dCall dIsi (dCons (dVar 9) (dCons (dC (.raw (.ty "list"))) dNil)))) (dTst (dVar 10)))) (dRet (dC (.bl false))) dNext)
    (dSeq (dIfS (dTst (dCall dIsi (dCons (dVar 9) (dCons (dC (.raw (.ty "list"))) dNil)))) (dIfS (dTst (dBin (dEq true) (dSome CS_Hoist fun c => (dMeth c "undo" S_Hoist_undo noX (dVar 6) dNil)) (dSome CS_Hoist fun c => (dCall (dLenM c S_Hoist___len__) (dCons (dVar 5) dNil))))) (dRet (dC (.bl false))) dNext) (dAsg (dCall (S__law_after) (dCons (dVar 2) (dCons (dVar 8) dNil))) (dgName 2)))
    (dIfS (dOrT (dTst (dBin (dEq true) (dCall (S__law_shown) (dCons (dVar 5) dNil)) (dCall (S__law_shown) (dCons (dVar 6) dNil)))) (dOrT (dTst (dBin (dEqX CS_Hoist ltF S_Hoist___eq__) (dVar 5) (dVar 6))) (dOrT (dTst (dBin (dEqX CS_Hoist ltF S_Hoist___eq__) (dVar 6) (dVar 5))) (dTst (dBin (dEq true) (dSome CS_Promise fun c => (dFld c "_least" (dVar 5))) (dVar 4)))))) (dRet (dC (.bl false))) dNext))))))))
    (dSeq (dFor (dRng1 (dCons (dSome CS_Hoist fun c => (dCall (dLenM c S_Hoist___len__) (dCons (dVar 5) dNil))) dNil)) (dgName 7) (dIfS (dOrT (dTst (dBin (dEq true) (dSome CS_Hoist fun c => (dMeth c "undo" S_Hoist_undo noX (dVar 5) dNil)) (dSome CS_Hoist fun c => (dMeth c "undo" S_Hoist_undo noX (dVar 6) dNil)))) (dTst (dBin (dEq true) (dCall (S__law_shown) (dCons (dVar 5) dNil)) (dCall (S__law_shown) (dCons (dVar 6) dNil))))) (dRet (dC (.bl false))) dNext))
    (dRet (dC (.bl true)))))))))))

/-- all the towers, the first one first -/
def hist (p : Int × List Int) (us : List Ed) : List (Int × List Int) := p :: rowE p us
theorem hist_len (p : Int × List Int) (us : List Ed) : (hist p us).length = us.length + 1 := by unfold hist; rw [List.length_cons, rowE_len]
theorem hist_snoc (p : Int × List Int) (us : List Ed) (d : Ed) : hist p (us ++ [d]) = hist p us ++ [d.go (runE p us)] := by unfold hist; rw [rowE_snoc]; rfl
theorem canE_nice : ∀ {p : Int × List Int} {us : List Ed}, TowOk p.1 p.2 → CanE p us → ∀ d ∈ us, Nice 2 300 d.d
  | p, [], _, _, d, h => nomatch h
  | p, u :: us, tk, c, d, h => by
    have c : u.can p.2 ∧ CanE (u.go p) us := c
    rcases List.mem_cons.mp h with rfl | h
    · exact Ed.nice tk.2.2.1 c.1
    · exact canE_nice (p := u.go p) (tk.go c.1) c.2 d h
theorem canE_snoc : ∀ {p : Int × List Int} {us : List Ed} {d : Ed}, CanE p us → d.can (runE p us).2 → CanE p (us ++ [d])
  | p, [], d, _, h => ⟨h, trivial⟩
  | p, u :: us, d, c, h => ⟨c.1, canE_snoc (p := u.go p) c.2 h⟩
theorem lastH (p : Int × List Int) (us : List Ed) : ∃ TS : List (Int × List Int), hist p us = TS ++ [runE p us] ∧ TS.length = us.length := by
  obtain ⟨TS, e⟩ := rowE_last p us
  have e1 : hist p us = TS ++ [runE p us] := e
  have l1 := congrArg List.length e1
  rw [hist_len, List.length_append, List.length_singleton] at l1
  exact ⟨TS, e1, by omega⟩
/-- a hoist behind some edits -/
def HoAt (L : Option Int) (ω : Om) (x dx : Addr) (p : Int × List Int) (us : List Ed) : Prop := ω x = some (.ins (Ers.ad (hoC L)) dx (hoG L ((hist p us).map towP) (us.map Ed.d)))
theorem HoAt.last {L : Option Int} {ω : Om} {x dx : Addr} {p : Int × List Int} {us : List Ed} (h : HoAt L ω x dx p us) : ∃ TS : List (Int × List Int), TS.length = us.length ∧ hist p us = TS ++ [runE p us] ∧ ω x = some (.ins (Ers.ad (hoC L)) dx (hoG L (TS.map towP ++ [towD (runE p us).1 (runE p us).2]) (us.map Ed.d))) := by
  obtain ⟨TS, e, l⟩ := lastH p us
  refine ⟨TS, l, e, ?_⟩
  unfold HoAt at h
  rw [e, List.map_append] at h
  exact h
theorem HoAt.more {L : Option Int} {ω : Om} {x dx : Addr} {p : Int × List Int} {us : List Ed} {u : Ed} {TS : List (Int × List Int)} (e : hist p us = TS ++ [runE p us]) (h : ω x = some (.ins (Ers.ad (hoC L)) dx (hoG L ((TS.map towP ++ [towD (runE p us).1 (runE p us).2]) ++ [towD (u.e (runE p us).1) (u.ws (runE p us).2)]) (us.map Ed.d ++ [u.d])))) : HoAt L ω x dx p (us ++ [u]) := by
  unfold HoAt
  rw [h, hist_snoc, e, List.map_append, List.map_append, List.map_append]
  rfl
/-- an edit after which nobody is stuck who was free -/
def safeB (e : Int) : Ed → Bool
  | .come _ => true
  | .loosen z => decide (e ≤ z)
  | _ => false
theorem safe_rch {e : Int} {ws : List Int} {u : Ed} (tk : TowOk e ws) (hc : u.can ws) (h : safeB e u = true) : rch e ws ≤ rch (u.e e) (u.ws ws) := by
  have h1 : ∀ w ∈ ws, 1 ≤ w := fun w h => (tk.2.2.2 w h).1
  have e0 := tk.1
  cases u with
  | come w => exact rch_more (by omega) h1 fun v hv => by rw [List.mem_singleton.mp hv]; exact hc.1
  | loosen z => exact rch_mono (by omega) (of_decide_eq_true h) h1
  | leave k => cases h
  | weigh k w => cases h
theorem st_goN {D : DEnds} {ρ : Rho} {ω : Om} (h : D.nx ρ ω) : dNext D ρ ω := h
def S_law : SpD := spLawT (TabOn "people_by_weight")
theorem ar_law : ∀ ds ω R, S_law ds ω R → ds.length = ["script"].length := by
  rintro ds ω R ⟨ns, rfl, _⟩
  rfl
theorem rd_law : ∀ ds ω R, S_law ds ω R → T_law { nx := fun _ ω' => R .non ω', rt := R } (startD ["script", "deck", "tower", "reach", "least", "calm", "table", "turn", "edit", "due", "is_safe"] ds) ω := by
  rintro ds ω R ⟨ns, rfl, hl, ht, q⟩
  show T_law _ [some (.lst (ns.map D.int)), none, none, none, none, none, none, none, none, none, none] ω
  unfold T_law
  walk_at "ds"
  refine ⟨ns, rfl, fun a p ω1 d1 ha hp => ?_⟩
  have na := ht.new ha
  have np := ht.new hp
  walk_at "ds"
  refine ⟨ω, a, p, 0, 12, rfl, d1, by omega, by decide, by decide, fun e ws ω2 e0 e1 wl hw d2 => ?_⟩
  have tk : TowOk e ws := ⟨e0, e1, by omega, hw⟩
  obtain ⟨r0, r1⟩ := rch_top tk
  have t2 : TabOn "people_by_weight" ω2 := d2.2.cell na np ht
  walk_at "ds"
  refine ⟨e, ws, rfl, by omega, t2, ?_⟩
  walk_at "ds"
  refine ⟨e, ws, rch e ws, rfl, r0, by omega, tk, t2, fun _ ω3 x3 => ?_, fun lt => absurd lt (by omega)⟩
  walk_at "ds"
  rw [if_neg (by decide)]
  walk_at "ds"
  refine ⟨e, ws, rch e ws + 1, rfl, by omega, by omega, tk, t2.ext x3, fun le => absurd le (by omega), fun _ ω4 x4 => ?_⟩
  have x4 := x3.trans x4
  have d4 : DeckX ω ω4 a p 200 := ⟨(d2.1.le (by omega)).ext x4, d2.2.trans (ExtA.of x4)⟩
  clear x3 d2 t2
  walk_at "ds"
  refine st_ndec (fun c => absurd rfl c) fun _ => ?_
  walk_at "ds"
  refine st_drawFX d4 (by omega) (by decide) (by decide) fun cut ω5 c0 c1 d5 _ => ?_
  walk_at "ds"
  generalize hl' : (if rch e ws - cut > 0 then rch e ws - cut else 0) = l
  have l0 : 0 ≤ l ∧ l ≤ rch e ws := by rw [← hl']; split <;> omega
  clear hl' d4 x4
  have t5 : TabOn "people_by_weight" ω5 := d5.2.cell na np ht
  intro x dx hx0 hdx ne
  obtain ⟨xa, xp⟩ := d5.has hx0
  have x0 := d5.free hx0
  refine ⟨x, dx, e, ws, .int l, rfl, oset_same, rfl, tk, t5.ext (Ext.xd hx0), fun l' el _ _ _ => ?_, fun l' ω' el _ _ lt _ => ?_, fun ω' nb _ => ?_⟩
  rotate_left
  · cases el
    exact absurd lt (by omega)
  · rw [show numB (.int l) 0 100000000 = true from decide_eq_true ⟨by omega, by omega⟩] at nb
    cases nb
  cases el
  refine ⟨rfl, ?_⟩
  rw [oset2]
  have d6 := d5.set (c := .ins (Ers.ad "PromisedHoist") dx (hoG (some l) [towD e ws] [])) xa xp x0
  have h6 : HoAt (some l) (oset ω5 x (.ins (Ers.ad "PromisedHoist") dx (hoG (some l) [towD e ws] []))) x dx (e, ws) [] := oset_same
  generalize oset ω5 x (.ins (Ers.ad "PromisedHoist") dx (hoG (some l) [towD e ws] [])) = ω6 at d6 h6 ⊢
  clear t5 d5 hx0 hdx ne
  walk_at "ds"
  intro y dy hy0 hdy ney
  obtain ⟨ya, yp⟩ := d6.has hy0
  have y0 := d6.free hy0
  have nxy : x ≠ y := fun z => by rw [← z] at hy0; unfold HoAt at h6; rw [h6] at hy0; cases hy0
  refine ⟨none, y, dy, e, ws, rfl, oset_same, e0, e1, by omega, hw, rfl, ?_⟩
  rw [oset2]
  have d7 := d6.set (c := .ins (Ers.ad (hoC none)) dy (hoG none [towD e ws] [])) ya yp y0
  have h7 : HoAt (some l) (oset ω6 y (.ins (Ers.ad (hoC none)) dy (hoG none [towD e ws] []))) x dx (e, ws) [] := (oset_ne nxy).trans h6
  have g7 : HoAt none (oset ω6 y (.ins (Ers.ad (hoC none)) dy (hoG none [towD e ws] []))) y dy (e, ws) [] := oset_same
  show (fun (_ : Unit) => _) ()
  generalize oset ω6 y (.ins (Ers.ad (hoC none)) dy (hoG none [towD e ws] [])) = ω7 at d7 h7 g7 ⊢
  clear d6 h6 hy0 hdy ney
  obtain ⟨p0, hp0⟩ : ∃ q : Int × List Int, q = (e, ws) := ⟨_, rfl⟩
  rw [← hp0] at h7 g7
  have ep : D.tup [.int e, .tup (ws.map D.int)] = towP p0 := by rw [hp0]; rfl
  have tk0 : TowOk p0.1 p0.2 := by rw [hp0]; exact tk
  have lr0 : l ≤ rch p0.1 p0.2 := by rw [hp0]; exact l0.2
  walk_at "ds"
  refine st_drawFX d7 (by omega) (by decide) (by decide) fun cnt ω8 m0 m1 d8 fr8 => ?_
  have h8 : HoAt (some l) ω8 x dx p0 [] := (fr8 x xa xp).trans h7
  have g8 : HoAt none ω8 y dy p0 [] := (fr8 y ya yp).trans g7
  clear d7 h7 g7
  walk_at "ds"
  rw [ep]
  refine st_rng1' (by omega) (by omega) ?_
  refine ⟨fun j ρ ω' => ∃ (v7 v8 v9 v10 : Option D) (us : List Ed), ρ = [some (.lst (ns.map D.int)), some (.raw (.ref a)), some (towP (runE p0 us)), some (.int (rch e ws)), some (.int l), some (.raw (.ref x)), some (.raw (.ref y)), v7, v8, v9, v10] ∧ us.length ≤ j ∧ (j : Int) ≤ 1 + cnt ∧ CanE p0 us ∧ l ≤ rch (runE p0 us).1 (runE p0 us).2 ∧ HoAt (some l) ω' x dx p0 us ∧ HoAt none ω' y dy p0 us ∧ DeckX ω ω' a p (202 + 10 * j), ⟨_, _, _, _, [], rfl, Nat.le_refl _, by omega, trivial, lr0, h8, g8, d8.le (by omega)⟩, fun _ _ _ _ => trivial, ?_, ?_⟩
  · rintro j d ρ ω3 ed ⟨v7, v8, v9, v10, us, rfl, lu, lj, cu, lr, h3, g3, d3⟩
    have lj' : (j : Int) < 1 + cnt := by
      have z := (List.getElem?_eq_some_iff.mp ed).1
      rw [rngD_len] at z
      omega
    rw [rngD_get (by omega)] at ed
    cases ed
    have tv := canE_ok tk0 cu
    walk_at "ds"
    refine ⟨ω3, a, p, _, _, _, rfl, ⟨d3.1, fun _ _ _ _ => rfl⟩, by omega, tv, fun u ω4 hu d4 => ?_⟩
    have h4 : HoAt (some l) ω4 x dx p0 us := d4.2.cell xa xp h3
    have g4 : HoAt none ω4 y dy p0 us := d4.2.cell ya yp g3
    have d4 := d3.go d4
    have t4 : TabOn "people_by_weight" ω4 := d4.2.cell na np ht
    clear h3 g3 d3
    obtain ⟨TS, lT, eT, hy4⟩ := g4.last
    walk_at "ds"
    refine ⟨none, y, dy, TS.map towP, us.map Ed.d, _, _, u, rfl, hy4, by rw [List.length_map]; omega, by rw [List.length_map]; omega, tv.2.2.1, hu, tv, t4, fun _ => ?_, fun nf => absurd fits_none nf⟩
    have g5 : HoAt none (oset ω4 y (.ins (Ers.ad (hoC none)) dy (hoG none ((TS.map towP ++ [towD (runE p0 us).1 (runE p0 us).2]) ++ [towD (u.e (runE p0 us).1) (u.ws (runE p0 us).2)]) (us.map Ed.d ++ [u.d])))) y dy p0 (us ++ [u]) := HoAt.more eT oset_same
    have h5 : HoAt (some l) (oset ω4 y (.ins (Ers.ad (hoC none)) dy (hoG none ((TS.map towP ++ [towD (runE p0 us).1 (runE p0 us).2]) ++ [towD (u.e (runE p0 us).1) (u.ws (runE p0 us).2)]) (us.map Ed.d ++ [u.d])))) x dx p0 us := (oset_ne nxy).trans h4
    have d5 := d4.set (c := .ins (Ers.ad (hoC none)) dy (hoG none ((TS.map towP ++ [towD (runE p0 us).1 (runE p0 us).2]) ++ [towD (u.e (runE p0 us).1) (u.ws (runE p0 us).2)]) (us.map Ed.d ++ [u.d]))) ya yp y0
    generalize oset ω4 y (.ins (Ers.ad (hoC none)) dy (hoG none ((TS.map towP ++ [towD (runE p0 us).1 (runE p0 us).2]) ++ [towD (u.e (runE p0 us).1) (u.ws (runE p0 us).2)]) (us.map Ed.d ++ [u.d]))) = ω5 at d5 h5 g5 ⊢
    clear h4 g4 hy4 d4 t4
    have er : runE p0 (us ++ [u]) = u.go (runE p0 us) := runE_snoc ..
    have cv : CanE p0 (us ++ [u]) := canE_snoc cu hu
    have tw := canE_ok tk0 cv
    have lw : (us ++ [u]).length = us.length + 1 := by rw [List.length_append]; rfl
    obtain ⟨TW, lTW, eTW, hy5⟩ := g5.last
    have t5 : TabOn "people_by_weight" ω5 := d5.2.cell na np ht
    have hcn := hoC_mem none
    walk_at "ds"
    refine st_lenM (.own hy5) ⟨none, y, dy, _, _, _, rfl, hy5, _, rfl, by omega, by rw [List.length_map]; omega, ?_⟩
    walk_at "ds"
    refine st_ndec (fun c => absurd (by rw [List.length_map, List.length_map, lw]) c) fun _ => ?_
    obtain ⟨E1, hE1⟩ : ∃ q : Int, q = (runE p0 (us ++ [u])).1 := ⟨_, rfl⟩
    obtain ⟨W1, hW1⟩ : ∃ q : List Int, q = (runE p0 (us ++ [u])).2 := ⟨_, rfl⟩
    rw [← hE1, ← hW1] at tw hy5
    refine st_goN ?_
    dsimp only
    refine st_seqM (fun ρ ω' => ρ = [some (.lst (ns.map D.int)), some (.raw (.ref a)), some (towP (runE p0 us)), some (.int (rch e ws)), some (.int l), some (.raw (.ref x)), some (.raw (.ref y)), some (.int (0 + j)), some u.d, some (if l ≤ rch E1 W1 then .int (us.length + 1 : Nat) else .lst [.int (rch E1 W1)]), v10] ∧ ω' = ω5) (fun N hN => ?_) ?_
    · walk_at "ds"
      refine ⟨⟨_, .own hy5⟩, none, y, dy, _, _, _, _, rfl, hy5, by have := tw.2.2.1; omega, t5, ?_⟩
      walk_at "ds"
      refine st_dec (fun c => ?_) fun c => ?_
      · walk_at "ds"
        refine st_lenM (.own hy5) ⟨none, y, dy, _, _, _, rfl, hy5, _, rfl, by omega, by rw [List.length_map]; omega, ?_⟩
        walk_at "ds"
        refine hN _ _ ⟨?_, rfl⟩
        rw [if_pos (by omega), List.length_map, lw]
        rfl
      · walk_at "ds"
        refine ⟨⟨_, .own hy5⟩, none, y, dy, _, _, _, _, rfl, hy5, by have := tw.2.2.1; omega, t5, ?_⟩
        walk_at "ds"
        refine hN _ _ ⟨?_, rfl⟩
        rw [if_neg (by omega)]
        rfl
    · rintro ρ ω6 ⟨rfl, rfl⟩
      refine st_seqM (fun ρ ω' => ρ = [some (.lst (ns.map D.int)), some (.raw (.ref a)), some (towP (runE p0 us)), some (.int (rch e ws)), some (.int l), some (.raw (.ref x)), some (.raw (.ref y)), some (.int (0 + j)), some u.d, some (if l ≤ rch E1 W1 then .int (us.length + 1 : Nat) else .lst [.int (rch E1 W1)]), some (.bl (safeB (runE p0 us).1 u))] ∧ ω' = ω6) (fun N hN => ?_) ?_
      · generalize (if l ≤ rch E1 W1 then D.int (us.length + 1 : Nat) else .lst [.int (rch E1 W1)]) = dv at hN ⊢
        unfold towP towD
        cases u with
        | come w =>
          show dAsg _ _ _ [_, _, _, _, _, _, _, _, some (.tup [.str "come", .int w]), _, _] _
          walk_at "ds"
          refine st_ixT (i := 0) rfl ?_
          walk_at "ds"
          exact hN _ _ ⟨rfl, rfl⟩
        | leave k =>
          show dAsg _ _ _ [_, _, _, _, _, _, _, _, some (.tup [.str "leave", .int k]), _, _] _
          walk_at "ds"
          refine st_ixT (i := 0) rfl ?_
          walk_at "ds"
          rw [if_neg (by decide)]
          walk_at "ds"
          refine st_ixT (i := 0) rfl ?_
          walk_at "ds"
          rw [if_neg (by decide)]
          walk_at "ds"
          exact hN _ _ ⟨rfl, rfl⟩
        | weigh k w =>
          show dAsg _ _ _ [_, _, _, _, _, _, _, _, some (.tup [.str "weigh", .int k, .int w]), _, _] _
          walk_at "ds"
          refine st_ixT (i := 0) rfl ?_
          walk_at "ds"
          rw [if_neg (by decide)]
          walk_at "ds"
          refine st_ixT (i := 0) rfl ?_
          walk_at "ds"
          rw [if_neg (by decide)]
          walk_at "ds"
          exact hN _ _ ⟨rfl, rfl⟩
        | loosen z =>
          show dAsg _ _ _ [_, _, _, _, _, _, _, _, some (.tup [.str "loosen", .int z]), _, _] _
          walk_at "ds"
          refine st_ixT (i := 0) rfl ?_
          walk_at "ds"
          rw [if_neg (by decide)]
          walk_at "ds"
          refine st_ixT (i := 0) rfl ?_
          walk_at "ds"
          refine st_ixT (i := 1) rfl ?_
          walk_at "ds"
          refine st_ixT (i := 0) rfl ?_
          walk_at "ds"
          exact hN _ _ ⟨rfl, rfl⟩
      · rintro ρ ω7 ⟨rfl, rfl⟩
        have sr := safe_rch tv hu
        obtain ⟨TV, lTV, eTV, hx7⟩ := h5.last
        have hcl := hoC_mem (some l)
        refine st_seqM (fun ρ ω' => ρ = [some (.lst (ns.map D.int)), some (.raw (.ref a)), some (towP (runE p0 us)), some (.int (rch e ws)), some (.int l), some (.raw (.ref x)), some (.raw (.ref y)), some (.int (0 + j)), some u.d, some (if l ≤ rch E1 W1 then .int (us.length + 1 : Nat) else .lst [.int (rch E1 W1)]), some (.bl (safeB (runE p0 us).1 u))] ∧ HoAt (some l) ω' x dx p0 (if l ≤ rch E1 W1 then us ++ [u] else us) ∧ HoAt none ω' y dy p0 (us ++ [u]) ∧ DeckX ω ω' a p (202 + 10 * j + 10)) (fun N hN => ?_) ?_
        · have hE2 : E1 = u.e (runE p0 us).1 := by rw [hE1, er]; rfl
          have hW2 : W1 = u.ws (runE p0 us).2 := by rw [hW1, er]; rfl
          walk_at "ds"
          refine ⟨some l, x, dx, TV.map towP, us.map Ed.d, _, _, u, rfl, hx7, by rw [List.length_map]; omega, by rw [List.length_map]; omega, hu, tv, t5, fun ft => ?_, fun nf ω8 x8 => ?_⟩
          · have ft : l ≤ rch E1 W1 := by rw [hE2, hW2]; exact ft l rfl
            rw [if_pos ft] at hN ⊢
            have h8 := HoAt.more (L := some l) (dx := dx) eTV (u := u) (ω := oset ω7 x (.ins (Ers.ad (hoC (some l))) dx (hoG (some l) ((TV.map towP ++ [towD (runE p0 us).1 (runE p0 us).2]) ++ [towD (u.e (runE p0 us).1) (u.ws (runE p0 us).2)]) (us.map Ed.d ++ [u.d])))) oset_same
            have g8 : HoAt none (oset ω7 x (.ins (Ers.ad (hoC (some l))) dx (hoG (some l) ((TV.map towP ++ [towD (runE p0 us).1 (runE p0 us).2]) ++ [towD (u.e (runE p0 us).1) (u.ws (runE p0 us).2)]) (us.map Ed.d ++ [u.d])))) y dy p0 (us ++ [u]) := (oset_ne (Ne.symm nxy)).trans g5
            have d8 := d5.set (c := .ins (Ers.ad (hoC (some l))) dx (hoG (some l) ((TV.map towP ++ [towD (runE p0 us).1 (runE p0 us).2]) ++ [towD (u.e (runE p0 us).1) (u.ws (runE p0 us).2)]) (us.map Ed.d ++ [u.d]))) xa xp x0
            generalize oset ω7 x (.ins (Ers.ad (hoC (some l))) dx (hoG (some l) ((TV.map towP ++ [towD (runE p0 us).1 (runE p0 us).2]) ++ [towD (u.e (runE p0 us).1) (u.ws (runE p0 us).2)]) (us.map Ed.d ++ [u.d]))) = ω8 at d8 h8 g8 ⊢
            walk_at "ds"
            rw [List.length_map]
            have ni : Nice 0 62 (.int (us.length + 1 : Nat)) := nice_int (m := 30) (by omega) (by decide) (by decide) (by decide)
            refine st_repr (ni.shows (by decide) (by decide)) ?_
            walk_at "ds"
            refine st_repr (ni.shows (by decide) (by decide)) ?_
            walk_at "ds"
            exact hN _ _ ⟨rfl, by rw [if_pos ft]; exact h8, g8, d8.le (by omega)⟩
          · have nf : ¬ l ≤ rch E1 W1 := fun ft => nf fun n hn => by cases hn; rw [← hE2, ← hW2]; exact ft
            rw [if_neg nf] at hN ⊢
            rw [← hE2, ← hW2] at sr ⊢
            have sb : safeB (runE p0 us).1 u = false := by
              cases hb : safeB (runE p0 us).1 u with
              | false => rfl
              | true => exact absurd (sr hb) (by omega)
            rw [sb] at hN ⊢
            obtain ⟨r2, r3⟩ := rch_top tw
            have ni : Nice 1 100 (.lst [.int (rch E1 W1)]) := nice_lst (k := 0) (n := 62) (all_cons (nice_int (m := 30) (by omega) (by decide) (by decide) (by decide)) all_nil) (by decide) (by show 1 * (62 + 2) + 2 ≤ 100; decide)
            walk_at "ds"
            refine st_repr (ni.shows (by decide) (by decide)) ?_
            walk_at "ds"
            refine st_repr (ni.shows (by decide) (by decide)) ?_
            walk_at "ds"
            exact hN _ _ ⟨rfl, by rw [if_neg nf]; exact x8.cell h5, x8.cell g5, (d5.1.le (by omega)).ext x8, d5.2.trans (ExtA.of x8)⟩
        · rintro ρ ω8 ⟨rfl, h8, g8, d8⟩
          clear h5 g5 d5 t5 hx7 hy5 eTV eTW
          have t8 : TabOn "people_by_weight" ω8 := d8.2.cell na np ht
          refine st_seqM (fun ρ ω' => ∃ (v7 v8 v9 v10 : Option D) (vs : List Ed), ρ = [some (.lst (ns.map D.int)), some (.raw (.ref a)), some (towP (runE p0 vs)), some (.int (rch e ws)), some (.int l), some (.raw (.ref x)), some (.raw (.ref y)), v7, v8, v9, v10] ∧ vs.length ≤ j + 1 ∧ CanE p0 vs ∧ l ≤ rch (runE p0 vs).1 (runE p0 vs).2 ∧ HoAt (some l) ω' x dx p0 vs ∧ HoAt none ω' y dy p0 vs ∧ DeckX ω ω' a p (202 + 10 * j + 10)) (fun N hN => ?_) ?_
          · by_cases ft : l ≤ rch E1 W1
            · rw [if_pos ft] at h8 ⊢
              walk_at "ds"
              refine ⟨_, _, u, rfl, tv, hu, ?_⟩
              walk_at "ds"
              exact hN _ _ ⟨_, _, _, _, us ++ [u], by rw [er]; rfl, by omega, cv, by rw [← hE1, ← hW1]; exact ft, h8, g8, d8⟩
            · rw [if_neg ft] at h8 ⊢
              have gy := g8
              unfold HoAt at gy
              rw [hist_snoc, List.map_append, List.map_append] at gy
              have hcn2 := hoC_mem none
              walk_at "ds"
              refine ⟨⟨_, .own gy, hoG_no⟩, ?_⟩
              walk_at "ds"
              refine ⟨none, y, dy, (hist p0 us).map towP, _, _, rfl, gy, us.map Ed.d, u.d, rfl, ?_⟩
              have g9 : HoAt none (oset ω8 y (.ins (Ers.ad (hoC none)) dy (hoG none ((hist p0 us).map towP) (us.map Ed.d)))) y dy p0 us := oset_same
              have h9 : HoAt (some l) (oset ω8 y (.ins (Ers.ad (hoC none)) dy (hoG none ((hist p0 us).map towP) (us.map Ed.d)))) x dx p0 us := (oset_ne nxy).trans h8
              have d9 := d8.set (c := .ins (Ers.ad (hoC none)) dy (hoG none ((hist p0 us).map towP) (us.map Ed.d))) ya yp y0
              generalize oset ω8 y (.ins (Ers.ad (hoC none)) dy (hoG none ((hist p0 us).map towP) (us.map Ed.d))) = ω9 at d9 h9 g9 ⊢
              clear hcn2 hcn gy
              obtain ⟨TS9, lT9, eT9, hx9⟩ := h9.last
              walk_at "ds"
              refine st_lenM (.own hx9) ⟨some l, x, dx, _, _, _, rfl, hx9, _, rfl, by omega, by rw [List.length_map]; omega, ?_⟩
              walk_at "ds"
              refine st_ndec (fun c => absurd rfl c) fun _ => ?_
              walk_at "ds"
              exact hN _ _ ⟨_, _, _, _, us, rfl, by omega, cu, lr, h9, g9, d9⟩
          · rintro ρ ω9 ⟨w7, w8, w9, w10, vs, rfl, lv, cs, lr9, h9, g9, d9⟩
            clear h8 g8 d8 t8
            have ts := canE_ok tk0 cs
            have t9 : TabOn "people_by_weight" ω9 := d9.2.cell na np ht
            have nv := canE_nice tk0 cs
            obtain ⟨TX, lTX, eTX, hx9⟩ := h9.last
            obtain ⟨TY, lTY, eTY, hy9⟩ := g9.last
            walk_at "ds"
            refine ⟨some l, x, dx, TX.map towP, vs, _, _, rfl, hx9, ts, by omega, nv, t9, ?_⟩
            walk_at "ds"
            refine ⟨none, y, dy, TY.map towP, vs, _, _, rfl, hy9, ts, by omega, nv, t9, ?_⟩
            walk_at "ds"
            have neq : decide ((runE p0 vs).1 = (runE p0 vs).1 ∧ srt (runE p0 vs).2 = srt (runE p0 vs).2 ∧ some l = none) = false := decide_eq_false fun h => nomatch h.2.2
            refine st_eqX (hoC_mem (some l)) (hoC_mem none) (.own hx9) (.own hy9) ?_
            rw [show ltF (hoC none) (hoC (some l)) = false from show ltF "Hoist" "PromisedHoist" = false by decide, if_neg (by decide)]
            refine ⟨some l, none, x, dx, y, dy, _, _, _, _, _, _, _, _, rfl, hx9, hy9, _, rfl, ?_⟩
            rw [neq]
            walk_at "ds"
            refine st_eqX (hoC_mem none) (hoC_mem (some l)) (.own hy9) (.own hx9) ?_
            rw [show ltF (hoC (some l)) (hoC none) = true from show ltF "PromisedHoist" "Hoist" = true by decide, if_pos rfl]
            refine ⟨some l, none, x, dx, y, dy, _, _, _, _, _, _, _, _, rfl, hx9, hy9, _, rfl, ?_⟩
            rw [neq]
            have mp : ("PromisedHoist" : Str) ∈ CS_Promise := List.mem_cons_self
            walk_at "ds"
            refine ⟨_, _, .own hx9, hoG_l, ?_⟩
            walk_at "ds"
            refine st_ndec (fun c => absurd rfl c) fun _ => ?_
            walk_at "ds"
            exact ⟨_, _, _, _, vs, rfl, lv, by omega, cs, lr9, h9, g9, d9.le (by omega)⟩
  · rintro ρ ω3 ⟨v7, v8, v9, v10, us, rfl, lu, lj, cu, lr, h3, g3, d3⟩
    rw [rngD_len] at lu lj d3
    obtain ⟨TS, lT, eT, hx3⟩ := h3.last
    have hcl := hoC_mem (some l)
    walk_at "ds"
    refine st_lenM (.own hx3) ⟨some l, x, dx, _, _, _, rfl, hx3, us.length, by rw [List.length_map], by omega, by omega, ?_⟩
    walk_at "ds"
    refine st_rng1' (by omega) (by omega) ?_
    clear hcl
    refine ⟨fun k ρ ω' => ∃ v7 : Option D, ρ = [some (.lst (ns.map D.int)), some (.raw (.ref a)), some (towP (runE p0 us)), some (.int (rch e ws)), some (.int l), some (.raw (.ref x)), some (.raw (.ref y)), v7, v8, v9, v10] ∧ HoAt (some l) ω' x dx p0 (us.take (us.length - k)) ∧ HoAt none ω' y dy p0 (us.take (us.length - k)) ∧ DeckX ω ω' a p 400, ⟨_, rfl, by rw [Nat.sub_zero, List.take_length]; exact h3, by rw [Nat.sub_zero, List.take_length]; exact g3, d3.le (by omega)⟩, fun _ _ _ _ => trivial, ?_, ?_⟩
    · rintro k d ρ ω4 ed ⟨w7, rfl, h4, g4, d4⟩
      have lk : k < us.length := by
        have z := (List.getElem?_eq_some_iff.mp ed).1
        rw [rngD_len] at z
        omega
      rw [rngD_get (by omega)] at ed
      cases ed
      obtain ⟨m, hm⟩ : ∃ m, m + 1 = us.length - k := ⟨us.length - k - 1, by omega⟩
      rw [← hm] at h4 g4
      obtain ⟨u, hu⟩ : ∃ u, us[m]? = some u := ⟨_, List.getElem?_eq_getElem (by omega)⟩
      have et : us.take (m + 1) = us.take m ++ [u] := by rw [List.take_succ, hu]; rfl
      have lm : (us.take m).length = m := by rw [List.length_take]; omega
      have eu : us = us.take m ++ u :: us.drop (m + 1) := by
        obtain ⟨lt, e2⟩ := List.getElem?_eq_some_iff.mp hu
        conv => lhs; rw [← List.take_append_drop m us, List.drop_eq_getElem_cons lt, e2]
      have cm : CanE p0 (us.take m ++ u :: us.drop (m + 1)) := eu ▸ cu
      have tm := (canE_at tk0 cm).1
      have nm : ∀ d ∈ us.take m, Nice 2 300 d.d := fun d hd => canE_nice tk0 cu d (List.mem_of_mem_take hd)
      rw [et] at h4 g4
      obtain ⟨vs, hvs⟩ : ∃ v, v = us.take m := ⟨_, rfl⟩
      rw [← hvs] at h4 g4 tm nm lm
      have hx4 := h4
      have hy4 := g4
      unfold HoAt at hx4 hy4
      rw [hist_snoc, List.map_append, List.map_append] at hx4 hy4
      have hcl := hoC_mem (some l)
      walk_at "ds"
      refine ⟨⟨_, .own hx4, hoG_no⟩, ?_⟩
      clear hcl
      have hcn := hoC_mem none
      walk_at "ds"
      refine ⟨some l, x, dx, (hist p0 vs).map towP, _, _, rfl, hx4, vs.map Ed.d, u.d, rfl, ?_⟩
      have h5 : HoAt (some l) (oset ω4 x (.ins (Ers.ad (hoC (some l))) dx (hoG (some l) ((hist p0 vs).map towP) (vs.map Ed.d)))) x dx p0 vs := oset_same
      have g5 := (oset_ne (c := .ins (Ers.ad (hoC (some l))) dx (hoG (some l) ((hist p0 vs).map towP) (vs.map Ed.d))) (ω := ω4) (Ne.symm nxy)).trans hy4
      have d5 := d4.set (c := .ins (Ers.ad (hoC (some l))) dx (hoG (some l) ((hist p0 vs).map towP) (vs.map Ed.d))) xa xp x0
      generalize oset ω4 x (.ins (Ers.ad (hoC (some l))) dx (hoG (some l) ((hist p0 vs).map towP) (vs.map Ed.d))) = ω5 at d5 h5 g5 ⊢
      clear h4 g4 d4 hx4 hy4
      walk_at "ds"
      refine ⟨⟨_, .own g5, hoG_no⟩, ?_⟩
      walk_at "ds"
      refine ⟨none, y, dy, (hist p0 vs).map towP, _, _, rfl, g5, vs.map Ed.d, u.d, rfl, ?_⟩
      have g6 : HoAt none (oset ω5 y (.ins (Ers.ad (hoC none)) dy (hoG none ((hist p0 vs).map towP) (vs.map Ed.d)))) y dy p0 vs := oset_same
      have h6 : HoAt (some l) (oset ω5 y (.ins (Ers.ad (hoC none)) dy (hoG none ((hist p0 vs).map towP) (vs.map Ed.d)))) x dx p0 vs := (oset_ne nxy).trans h5
      have d6 := d5.set (c := .ins (Ers.ad (hoC none)) dy (hoG none ((hist p0 vs).map towP) (vs.map Ed.d))) ya yp y0
      generalize oset ω5 y (.ins (Ers.ad (hoC none)) dy (hoG none ((hist p0 vs).map towP) (vs.map Ed.d))) = ω6 at d6 h6 g6 ⊢
      clear h5 g5 d5
      obtain ⟨TX, lTX, eTX, hx6⟩ := h6.last
      obtain ⟨TY, lTY, eTY, hy6⟩ := g6.last
      have t6 : TabOn "people_by_weight" ω6 := d6.2.cell na np ht
      walk_at "ds"
      refine st_ndec (fun c => absurd rfl c) fun _ => ?_
      walk_at "ds"
      refine ⟨some l, x, dx, TX.map towP, vs, _, _, rfl, hx6, tm, by omega, nm, t6, ?_⟩
      walk_at "ds"
      refine ⟨none, y, dy, TY.map towP, vs, _, _, rfl, hy6, tm, by omega, nm, t6, ?_⟩
      walk_at "ds"
      have em : us.length - (k + 1) = m := by omega
      exact ⟨_, rfl, by rw [em, ← hvs]; exact h6, by rw [em, ← hvs]; exact g6, d6⟩
    · rintro ρ ω4 ⟨w7, rfl, h4, g4, d4⟩
      walk_at "ds"
      exact q _

end K52

namespace K52
open PySem PySem.Spec L2 DL
variable [Tbl]
variable [Ers]
/-! ### the text by places -/
def top (i : Nat) : Stmt := PySem.Challenge.pw_basketrope_k52_whole_promised_and_plain.main.body.getD i (.Pass ⟨0, 0, 0, 0⟩)
structure Txt (mg : Str → Option Value) : Prop where
  c_LIMIT : ∃ t, mg "LIMIT" = some (.int 100000000 t)
  c_MAX_EDITS : ∃ t, mg "MAX_EDITS" = some (.int 60 t)
  c_MAX_EXCESS : ∃ t, mg "MAX_EXCESS" = some (.int 1000000 t)
  c_MAX_PEOPLE : ∃ t, mg "MAX_PEOPLE" = some (.int 24 t)
  c_MAX_WEIGHT : ∃ t, mg "MAX_WEIGHT" = some (.int 1000000 t)
  b_abs : mg "abs" = none
  b_bool : mg "bool" = none
  b_enumerate : mg "enumerate" = none
  b_int : mg "int" = none
  b_isinstance : mg "isinstance" = none
  b_len : mg "len" = none
  b_list : mg "list" = none
  b_max : mg "max" = none
  b_min : mg "min" = none
  b_range : mg "range" = none
  b_repr : mg "repr" = none
  b_sorted : mg "sorted" = none
  b_str : mg "str" = none
  b_sum : mg "sum" = none
  b_tuple : mg "tuple" = none
  k_BadNumber : mg "BadNumber" = some (.ref (Ers.ad "BadNumber"))
  k_Hoist : mg "Hoist" = some (.ref (Ers.ad "Hoist"))
  k_NoVersion : mg "NoVersion" = some (.ref (Ers.ad "NoVersion"))
  k_Promise : mg "Promise" = some (.ref (Ers.ad "Promise"))
  k_PromisedHoist : mg "PromisedHoist" = some (.ref (Ers.ad "PromisedHoist"))
  k_TooLow : mg "TooLow" = some (.ref (Ers.ad "TooLow"))
theorem sc_is_number_between : FnScope ["value", "low", "high"] ["value", "low", "high"] (defScope (top 21)) := ⟨rfl, rfl, rfl, by decide +kernel, rfl, by decide +kernel, by decide +kernel⟩
theorem sc_is_excess : FnScope ["value"] ["value"] (defScope (top 23)) := ⟨rfl, rfl, rfl, by decide +kernel, rfl, by decide +kernel, by decide +kernel⟩
theorem sc_is_weight : FnScope ["value"] ["value"] (defScope (top 24)) := ⟨rfl, rfl, rfl, by decide +kernel, rfl, by decide +kernel, by decide +kernel⟩
theorem sc_tower_error : FnScope ["value", "excess", "weights", "person", "weight"] ["value"] (defScope (top 25)) := ⟨rfl, rfl, rfl, by decide +kernel, rfl, by decide +kernel, by decide +kernel⟩
theorem sc_check_number : FnScope ["value"] ["value"] (defScope (top 27)) := ⟨rfl, rfl, rfl, by decide +kernel, rfl, by decide +kernel, by decide +kernel⟩
theorem sc_lighter_weight : FnScope ["tower", "person", "_", "weights", "weight"] ["tower", "person"] (defScope (top 30)) := ⟨rfl, rfl, rfl, by decide +kernel, rfl, by decide +kernel, by decide +kernel⟩
theorem sc_room_of : FnScope ["tower", "person", "excess", "weights"] ["tower", "person"] (defScope (top 31)) := ⟨rfl, rfl, rfl, by decide +kernel, rfl, by decide +kernel, by decide +kernel⟩
theorem sc_people_by_weight : FnScope ["tower", "_", "weights"] ["tower"] (defScope (top 32)) := ⟨rfl, rfl, rfl, by decide +kernel, rfl, by decide +kernel, by decide +kernel⟩
theorem sc_stuck_person : FnScope ["tower", "person"] ["tower"] (defScope (top 33)) := ⟨rfl, rfl, rfl, by decide +kernel, rfl, by decide +kernel, by decide +kernel⟩
theorem sc_reach_weight : FnScope ["tower", "_", "weights", "person"] ["tower"] (defScope (top 34)) := ⟨rfl, rfl, rfl, by decide +kernel, rfl, by decide +kernel, by decide +kernel⟩
theorem sc_likeness : FnScope ["hoist", "excess", "weights", "promised"] ["hoist"] (defScope (top 44)) := ⟨rfl, rfl, rfl, by decide +kernel, rfl, by decide +kernel, by decide +kernel⟩
theorem sc__law_deck : FnScope ["script", "cell"] ["script"] (defScope (top 46)) := ⟨rfl, rfl, rfl, by decide +kernel, rfl, by decide +kernel, by decide +kernel⟩
theorem sc__law_draw : FnScope ["deck", "many", "cell", "place"] ["deck", "many"] (defScope (top 47)) := ⟨rfl, rfl, rfl, by decide +kernel, rfl, by decide +kernel, by decide +kernel⟩
theorem sc__law_weight : FnScope ["deck", "excess", "weights", "total", "some"] ["deck", "excess", "weights"] (defScope (top 48)) := ⟨rfl, rfl, rfl, by decide +kernel, rfl, by decide +kernel, by decide +kernel⟩
theorem sc__law_tower : FnScope ["deck", "most", "excess", "weights", "k", "at"] ["deck", "most"] (defScope (top 49)) := ⟨rfl, rfl, rfl, by decide +kernel, rfl, by decide +kernel, by decide +kernel⟩
theorem sc__law_after : FnScope ["tower", "edit", "excess", "weights"] ["tower", "edit"] (defScope (top 50)) := ⟨rfl, rfl, rfl, by decide +kernel, rfl, by decide +kernel, by decide +kernel⟩
theorem sc__law_edit : FnScope ["deck", "tower", "excess", "weights", "way", "near"] ["deck", "tower"] (defScope (top 51)) := ⟨rfl, rfl, rfl, by decide +kernel, rfl, by decide +kernel, by decide +kernel⟩
theorem sc__law_do : FnScope ["table", "edit"] ["table", "edit"] (defScope (top 52)) := ⟨rfl, rfl, rfl, by decide +kernel, rfl, by decide +kernel, by decide +kernel⟩
theorem sc__law_done : FnScope ["table", "edit", "found", "e"] ["table", "edit"] (defScope (top 53)) := ⟨rfl, rfl, rfl, by decide +kernel, rfl, by decide +kernel, by decide +kernel⟩
theorem sc__law_refused : FnScope ["tower", "least", "found", "e"] ["tower", "least"] (defScope (top 54)) := ⟨rfl, rfl, rfl, by decide +kernel, rfl, by decide +kernel, by decide +kernel⟩
theorem sc__law_shown : FnScope ["table"] ["table"] (defScope (top 55)) := ⟨rfl, rfl, rfl, by decide +kernel, rfl, by decide +kernel, by decide +kernel⟩
theorem sc_law : FnScope ["script", "deck", "tower", "reach", "least", "calm", "table", "turn", "edit", "due", "is_safe"] ["script"] (defScope (top 56)) := ⟨rfl, rfl, rfl, by decide +kernel, rfl, by decide +kernel, by decide +kernel⟩
theorem sc_Hoist___init__ : FnScope ["self", "tower", "error"] ["self", "tower"] (defScope (memb (top 42) 1)) := ⟨rfl, rfl, rfl, by decide +kernel, rfl, by decide +kernel, by decide +kernel⟩
theorem sc_Hoist_come : FnScope ["self", "weight", "excess", "weights"] ["self", "weight"] (defScope (memb (top 42) 5)) := ⟨rfl, rfl, rfl, by decide +kernel, rfl, by decide +kernel, by decide +kernel⟩
theorem sc_Hoist_leave : FnScope ["self", "person", "excess", "weights"] ["self", "person"] (defScope (memb (top 42) 6)) := ⟨rfl, rfl, rfl, by decide +kernel, rfl, by decide +kernel, by decide +kernel⟩
theorem sc_Hoist_weigh : FnScope ["self", "person", "weight", "excess", "weights"] ["self", "person", "weight"] (defScope (memb (top 42) 7)) := ⟨rfl, rfl, rfl, by decide +kernel, rfl, by decide +kernel, by decide +kernel⟩
theorem sc_Hoist_loosen : FnScope ["self", "excess", "_", "weights"] ["self", "excess"] (defScope (memb (top 42) 8)) := ⟨rfl, rfl, rfl, by decide +kernel, rfl, by decide +kernel, by decide +kernel⟩
theorem sc_Hoist__check_idle : FnScope ["self"] ["self"] (defScope (memb (top 42) 19)) := ⟨rfl, rfl, rfl, by decide +kernel, rfl, by decide +kernel, by decide +kernel⟩
theorem sc_Hoist__check_edit : FnScope ["self"] ["self"] (defScope (memb (top 42) 20)) := ⟨rfl, rfl, rfl, by decide +kernel, rfl, by decide +kernel, by decide +kernel⟩
theorem sc_Hoist__check_person : FnScope ["self", "person", "_", "weights"] ["self", "person"] (defScope (memb (top 42) 21)) := ⟨rfl, rfl, rfl, by decide +kernel, rfl, by decide +kernel, by decide +kernel⟩
theorem sc_Hoist__check_tower : FnScope ["self", "tower"] ["self", "tower"] (defScope (memb (top 42) 22)) := ⟨rfl, rfl, rfl, by decide +kernel, rfl, by decide +kernel, by decide +kernel⟩
theorem sc_Hoist__keep : FnScope ["self", "edit", "tower"] ["self", "edit", "tower"] (defScope (memb (top 42) 23)) := ⟨rfl, rfl, rfl, by decide +kernel, rfl, by decide +kernel, by decide +kernel⟩
theorem sc_Promise___init__ : FnScope ["self", "least"] ["self", "least"] (defScope (memb (top 28) 0)) := ⟨rfl, rfl, rfl, by decide +kernel, rfl, by decide +kernel, by decide +kernel⟩
theorem sc_Promise_beyond : FnScope ["self", "number"] ["self", "number"] (defScope (memb (top 28) 2)) := ⟨rfl, rfl, rfl, by decide +kernel, rfl, by decide +kernel, by decide +kernel⟩
theorem sc_PromisedHoist___init__ : FnScope ["self", "tower", "least"] ["self", "tower", "least"] (defScope (memb (top 43) 0)) := ⟨rfl, rfl, rfl, by decide +kernel, rfl, by decide +kernel, by decide +kernel⟩
theorem sc_PromisedHoist__check_tower : FnScope ["self", "tower"] ["self", "tower"] (defScope (memb (top 43) 1)) := ⟨rfl, rfl, rfl, by decide +kernel, rfl, by decide +kernel, by decide +kernel⟩
theorem sc_Hoist_undo : FnScope ["self"] ["self"] (defScope (memb (top 42) 9)) := ⟨rfl, rfl, rfl, by decide +kernel, rfl, by decide +kernel, by decide +kernel⟩
theorem sc_Hoist_edits : FnScope ["self"] ["self"] (defScope (memb (top 42) 14)) := ⟨rfl, rfl, rfl, by decide +kernel, rfl, by decide +kernel, by decide +kernel⟩
theorem sc_Hoist___len__ : FnScope ["self"] ["self"] (defScope (memb (top 42) 16)) := ⟨rfl, rfl, rfl, by decide +kernel, rfl, by decide +kernel, by decide +kernel⟩
theorem sc_Hoist___str__ : FnScope ["self"] ["self"] (defScope (memb (top 42) 17)) := ⟨rfl, rfl, rfl, by decide +kernel, rfl, by decide +kernel, by decide +kernel⟩
theorem sc_Hoist___eq__ : FnScope ["self", "other"] ["self", "other"] (defScope (memb (top 42) 18)) := ⟨rfl, rfl, rfl, by decide +kernel, rfl, by decide +kernel, by decide +kernel⟩
theorem sc_Hoist_tower : FnScope ["self"] ["self"] (defScope (memb (top 42) 2)) := ⟨rfl, rfl, rfl, by decide +kernel, rfl, by decide +kernel, by decide +kernel⟩
theorem sc_Hoist_reach : FnScope ["self"] ["self"] (defScope (memb (top 42) 3)) := ⟨rfl, rfl, rfl, by decide +kernel, rfl, by decide +kernel, by decide +kernel⟩
theorem sc_Hoist_is_free : FnScope ["self"] ["self"] (defScope (memb (top 42) 4)) := ⟨rfl, rfl, rfl, by decide +kernel, rfl, by decide +kernel, by decide +kernel⟩
theorem sc_Hoist_state : FnScope ["self", "version"] ["self", "version"] (defScope (memb (top 42) 11)) := ⟨rfl, rfl, rfl, by decide +kernel, rfl, by decide +kernel, by decide +kernel⟩
theorem sc_Hoist_walk : GScope ["self", "version", "tower", "person"] ["self", "version"] (defScope (memb (top 42) 13)) := ⟨rfl, rfl, rfl, by decide +kernel, rfl, by decide +kernel, by decide +kernel⟩
structure ObjT (P : Program) (w : World) (K : PySem.W.Frag) (mg : Str → Option Value) (base : Heap) : Prop where
  cls_PromisedHoist : Cls K (Ers.ad "PromisedHoist")
  clsP_Hoist : ∀ c ∈ CS_Hoist, Cls K (Ers.ad c)
  clsP_Promise : ∀ c ∈ CS_Promise, Cls K (Ers.ad c)
  clsf_Hoist___init__ : ClsF K "Hoist" "__init__"
  clsf_Promise___init__ : ClsF K "Promise" "__init__"
  eqF_Hoist : (∀ f, PySem.W.findIn K (.ref (Ers.ad "Hoist")) "__eq__" = some (some (.ref f)) → ∀ d ∈ CS_Hoist, PySem.W.findIn K (.ref (Ers.ad d)) "__eq__" = some (some (.ref f))) ∧ ∀ c ∈ CS_Hoist, ∀ d ∈ CS_Hoist, Ord2 K (Ers.ad c) (Ers.ad d) (ltF d c)
  getP_Promise_least : ∀ c ∈ CS_Promise, GetP P w K mg base c "least" "_least"
  isF_Hoist : ∀ c ∈ CS_Hoist, ClsI K (Ers.ad c)
  kitF_Hoist_Hoist : ∀ c ∈ CS_Hoist, PySem.W.kitOne K (.ref (Ers.ad c)) (.ref (Ers.ad "Hoist")) = some (isF "Hoist" c)
  kitF_Hoist_PromisedHoist : ∀ c ∈ CS_Hoist, PySem.W.kitOne K (.ref (Ers.ad c)) (.ref (Ers.ad "PromisedHoist")) = some (isF "PromisedHoist" c)
  mk_Hoist : ClsM K mg "Hoist"
  mk_PromisedHoist : ClsM K mg "PromisedHoist"
  noP_Hoist__edits : ∀ c ∈ CS_Hoist, NoAttr K (Ers.ad c) "_edits"
  noP_Hoist__towers : ∀ c ∈ CS_Hoist, NoAttr K (Ers.ad c) "_towers"
  noP_Hoist__watched : ∀ c ∈ CS_Hoist, NoAttr K (Ers.ad c) "_watched"
  noP_Promise__least : ∀ c ∈ CS_Promise, NoAttr K (Ers.ad c) "_least"
theorem sx_BadNumber : FnScope ["self", "value"] ["self", "value"] (defScope (memb (top 15) 0)) := ⟨rfl, rfl, rfl, by decide +kernel, rfl, by decide +kernel, by decide +kernel⟩
theorem sx_NoVersion : FnScope ["self", "value"] ["self", "value"] (defScope (memb (top 19) 0)) := ⟨rfl, rfl, rfl, by decide +kernel, rfl, by decide +kernel, by decide +kernel⟩
theorem sx_TooLow : FnScope ["self", "number"] ["self", "number"] (defScope (memb (top 16) 0)) := ⟨rfl, rfl, rfl, by decide +kernel, rfl, by decide +kernel, by decide +kernel⟩
theorem ok_is_number_between {P : Program} {w : World} {K : PySem.W.Frag} {mg : Str → Option Value} {base : Heap} (T : Txt mg) (D : DefAt K mg "is_number_between" (top 21)) : CalD P w K mg base 1 "is_number_between" ["value", "low", "high"] S_is_number_between := by
  refine CalD.mk (T := T_is_number_between) D sc_is_number_between (fun _ _ _ _ _ _ us hl => match us, hl with | [_, _, _], _ => rfl) ar_is_number_between (fun f cdv A fs s hp e hr gd => ?_) rd_is_number_between
  have sc := sc_is_number_between
  have hu := hr.units
  exact (ds_one (ds_ret (de_and (de_callB call_isi ok_isi (by rfl) T.b_isinstance (by decide +kernel) (da_cons (dv 0) (da_cons (de_bltn (v := .ty "int") (by rfl) T.b_int (by decide +kernel) rfl) da_nil))) (de_and (de_not (de_callB call_isi ok_isi (by rfl) T.b_isinstance (by decide +kernel) (da_cons (dv 0) (da_cons (de_bltn (v := .ty "bool") (by rfl) T.b_bool (by decide +kernel) rfl) da_nil)))) (de_one (de_chain op_le ok_b0 op_le ok_b0 (dv 1) (dv 0) (dv 2)))))))

theorem ok_is_excess {P : Program} {w : World} {K : PySem.W.Frag} {mg : Str → Option Value} {base : Heap} (T : Txt mg) (D : DefAt K mg "is_excess" (top 23)) (C_is_number_between : CalD P w K mg base 1 "is_number_between" ["value", "low", "high"] S_is_number_between) : CalD P w K mg base 2 "is_excess" ["value"] S_is_excess := by
  refine CalD.mk (T := T_is_excess) D sc_is_excess (fun _ _ _ _ _ _ us hl => match us, hl with | [_], _ => rfl) ar_is_excess (fun f cdv A fs s hp e hr gd => ?_) rd_is_excess
  have sc := sc_is_excess
  have hu := hr.units
  exact (ds_one (ds_ret (de_call C_is_number_between (hr.mono (by decide)) gd (by rfl) (da_cons (dv 0) (da_cons de_int (da_cons (de_globI2 (by rfl) T.c_MAX_EXCESS) da_nil))))))

theorem ok_is_weight {P : Program} {w : World} {K : PySem.W.Frag} {mg : Str → Option Value} {base : Heap} (T : Txt mg) (D : DefAt K mg "is_weight" (top 24)) (C_is_number_between : CalD P w K mg base 1 "is_number_between" ["value", "low", "high"] S_is_number_between) : CalD P w K mg base 2 "is_weight" ["value"] S_is_weight := by
  refine CalD.mk (T := T_is_weight) D sc_is_weight (fun _ _ _ _ _ _ us hl => match us, hl with | [_], _ => rfl) ar_is_weight (fun f cdv A fs s hp e hr gd => ?_) rd_is_weight
  have sc := sc_is_weight
  have hu := hr.units
  exact (ds_one (ds_ret (de_call C_is_number_between (hr.mono (by decide)) gd (by rfl) (da_cons (dv 0) (da_cons de_int (da_cons (de_globI2 (by rfl) T.c_MAX_WEIGHT) da_nil))))))

theorem ok_tower_error {P : Program} {w : World} {K : PySem.W.Frag} {mg : Str → Option Value} {base : Heap} (T : Txt mg) (D : DefAt K mg "tower_error" (top 25)) (C_is_excess : CalD P w K mg base 2 "is_excess" ["value"] S_is_excess) (C_is_weight : CalD P w K mg base 2 "is_weight" ["value"] S_is_weight) : CalD P w K mg base 3 "tower_error" ["value"] S_tower_error := by
  refine CalD.mk (T := T_tower_error) D sc_tower_error (fun _ _ _ _ _ _ us hl => match us, hl with | [_], _ => rfl) ar_tower_error (fun f cdv A fs s hp e hr gd => ?_) rd_tower_error
  have sc := sc_tower_error
  have hu := hr.units
  exact (ds_cons (ds_if (dt_bool (dw_or (dt_not (dt_val (de_callB call_isi ok_isi (by rfl) T.b_isinstance (by decide +kernel) (da_cons (dv 0) (da_cons (de_bltn (v := .ty "tuple") (by rfl) T.b_tuple (by decide +kernel) rfl) da_nil))))) (dw_or1 (dt_cmp (op_neA hu) ok_ne (de_callB call_len ok_len (by rfl) T.b_len (by decide +kernel) (da_cons (dv 0) da_nil)) de_int)))) (ds_one (ds_ret (de_tup (da_cons de_non (da_cons de_str da_nil))))) ds_nil)
    (ds_cons (ds_asg (dv 0) (dg_tup rfl (dgs_cons (dg_name (i := 1) sc.nd rfl (by first | exact Or.inl rfl | exact Or.inr rfl)) (dgs_cons (dg_name (i := 2) sc.nd rfl (by first | exact Or.inl rfl | exact Or.inr rfl)) dgs_nil))))
    (ds_cons (ds_if (dt_not (dt_val (de_call C_is_excess (hr.mono (by decide)) gd (by rfl) (da_cons (dv 1) da_nil)))) (ds_one (ds_ret (de_tup (da_cons de_non (da_cons de_str da_nil))))) ds_nil)
    (ds_cons (ds_if (dt_bool (dw_or (dt_not (dt_val (de_callB call_isi ok_isi (by rfl) T.b_isinstance (by decide +kernel) (da_cons (dv 2) (da_cons (de_bltn (v := .ty "tuple") (by rfl) T.b_tuple (by decide +kernel) rfl) da_nil))))) (dw_or1 (dt_cmp op_gt ok_b0 (de_callB call_len ok_len (by rfl) T.b_len (by decide +kernel) (da_cons (dv 2) da_nil)) (de_globI2 (by rfl) T.c_MAX_PEOPLE))))) (ds_one (ds_ret (de_tup (da_cons de_non (da_cons de_str da_nil))))) ds_nil)
    (ds_cons (ds_for PassesOwn.never rfl (di_enum (by rfl) T.b_enumerate (da_cons (dv 2) da_nil)) (dg_tup rfl (dgs_cons (dg_name (i := 3) sc.nd rfl (by first | exact Or.inl rfl | exact Or.inr rfl)) (dgs_cons (dg_name (i := 4) sc.nd rfl (by first | exact Or.inl rfl | exact Or.inr rfl)) dgs_nil))) (ds_one (ds_if (dt_not (dt_val (de_call C_is_weight (hr.mono (by decide)) gd (by rfl) (da_cons (dv 4) da_nil)))) (ds_one (ds_ret (de_tup (da_cons (dv 3) (da_cons de_str da_nil))))) ds_nil)))
    (ds_one (ds_ret de_non)))))))

theorem ok_check_number {P : Program} {w : World} {K : PySem.W.Frag} {mg : Str → Option Value} {base : Heap} (T : Txt mg) (D : DefAt K mg "check_number" (top 27)) (C_is_number_between : CalD P w K mg base 1 "is_number_between" ["value", "low", "high"] S_is_number_between) (X_BadNumber : ErrD P w K mg base 1 "BadNumber" "value") : CalX P w K mg base 3 "check_number" ["value"] S_check_number := by
  refine CalX.mk (T := T_check_number) D sc_check_number (fun _ _ _ _ _ _ us hl => match us, hl with | [_], _ => rfl) ar_check_number (fun f cdv A fs s hp e RX I hr gd => ?_) rd_check_number
  have sc := sc_check_number
  have hu := hr.units
  exact (ds_one (ds_if (dt_not (dt_val (de_call C_is_number_between (hr.mono (by decide)) gd (by rfl) (da_cons (dv 0) (da_cons de_int (da_cons (de_globI2 (by rfl) T.c_LIMIT) da_nil)))))) (ds_one (ds_raiseK I rfl (takes_of rfl rfl rfl rfl) X_BadNumber (hr.mono (by decide)) (by rfl) (dv 0))) ds_nil))

theorem ok_lighter_weight {P : Program} {w : World} {K : PySem.W.Frag} {mg : Str → Option Value} {base : Heap} (T : Txt mg) (D : DefAt K mg "lighter_weight" (top 30)) : CalD P w K mg base 1 "lighter_weight" ["tower", "person"] S_lighter_weight := by
  refine CalD.mk (T := T_lighter_weight) D sc_lighter_weight (fun _ _ _ _ _ _ us hl => match us, hl with | [_, _], _ => rfl) ar_lighter_weight (fun f cdv A fs s hp e hr gd => ?_) rd_lighter_weight
  have sc := sc_lighter_weight
  have hu := hr.units
  exact (ds_cons (ds_asg (dv 0) (dg_tup rfl (dgs_cons (dg_name (i := 2) sc.nd rfl (by first | exact Or.inl rfl | exact Or.inr rfl)) (dgs_cons (dg_name (i := 3) sc.nd rfl (by first | exact Or.inl rfl | exact Or.inr rfl)) dgs_nil))))
    (ds_one (ds_ret (de_callB (cr_sum rfl) ok_sum (by rfl) T.b_sum (by decide +kernel) (da_cons (de_lc (own := [("weight", 4)]) rfl sc.nd (di_seq (dv 3)) (blkOk_by (N := ["tower", "person", "_", "weights", "weight"]) (sc := defScope (top 30)) (by decide +kernel)) (fun _ _ _ _ _ => pg_name (i := 4) sc.nd rfl (by first | exact Or.inl rfl | exact Or.inr rfl)) (gok_name (i := 4) (by decide)) (fun _ _ _ _ _ => (dts_one (dt_cmp op_lt ok_b0 (dv 4) (de_ix (dv 3) (dv 1) (fun _ _ => rfl))))) (fun _ _ _ _ _ => (dv 4))) da_nil)))))

theorem ok_room_of {P : Program} {w : World} {K : PySem.W.Frag} {mg : Str → Option Value} {base : Heap} (T : Txt mg) (D : DefAt K mg "room_of" (top 31)) (C_lighter_weight : CalD P w K mg base 1 "lighter_weight" ["tower", "person"] S_lighter_weight) : CalD P w K mg base 2 "room_of" ["tower", "person"] S_room_of := by
  refine CalD.mk (T := T_room_of) D sc_room_of (fun _ _ _ _ _ _ us hl => match us, hl with | [_, _], _ => rfl) ar_room_of (fun f cdv A fs s hp e hr gd => ?_) rd_room_of
  have sc := sc_room_of
  have hu := hr.units
  exact (ds_cons (ds_asg (dv 0) (dg_tup rfl (dgs_cons (dg_name (i := 2) sc.nd rfl (by first | exact Or.inl rfl | exact Or.inr rfl)) (dgs_cons (dg_name (i := 3) sc.nd rfl (by first | exact Or.inl rfl | exact Or.inr rfl)) dgs_nil))))
    (ds_one (ds_ret (de_op op_sub ok_i0 (de_op op_addA ok_add (dv 2) (de_call C_lighter_weight (hr.mono (by decide)) gd (by rfl) (da_cons (dv 0) (da_cons (dv 1) da_nil)))) (de_ix (dv 3) (dv 1) (fun _ _ => rfl))))))

theorem ok_people_by_weight {P : Program} {w : World} {K : PySem.W.Frag} {mg : Str → Option Value} {base : Heap} (T : Txt mg) {c : Addr} (TB : LamX.TabB base mg c (Tbl.P "people_by_weight")) (D : DefAtC K mg "people_by_weight" (top 32) c) : CalD P w K mg base 2 "people_by_weight" ["tower"] S_people_by_weight := by
  refine CalD.mkC (T := T_people_by_weight) D sc_people_by_weight (fun _ _ _ _ _ _ us hl => match us, hl with | [_], _ => rfl) ar_people_by_weight (fun f A fs s hp e hr gd => ?_) rd_people_by_weight
  have sc := sc_people_by_weight
  have hu := hr.units
  exact (ds_cons (ds_asg (dv 0) (dg_tup rfl (dgs_cons (dg_name (i := 1) sc.nd rfl (by first | exact Or.inl rfl | exact Or.inr rfl)) (dgs_cons (dg_name (i := 2) sc.nd rfl (by first | exact Or.inl rfl | exact Or.inr rfl)) dgs_nil))))
    (ds_one (ds_ret (de_sortKey (i := 2) hr rfl (by rfl) T.b_sorted (by rfl) T.b_range (de_callB call_len ok_len (by rfl) T.b_len (by decide +kernel) (da_cons (dv 2) da_nil)) TB rfl rfl rfl rfl rfl rfl rfl rfl rfl (fun _ _ _ _ _ _ => rfl)))))

theorem ok_stuck_person {P : Program} {w : World} {K : PySem.W.Frag} {mg : Str → Option Value} {base : Heap} (T : Txt mg) (D : DefAt K mg "stuck_person" (top 33)) (C_people_by_weight : CalD P w K mg base 2 "people_by_weight" ["tower"] S_people_by_weight) (C_room_of : CalD P w K mg base 2 "room_of" ["tower", "person"] S_room_of) : CalD P w K mg base 3 "stuck_person" ["tower"] S_stuck_person := by
  refine CalD.mk (T := T_stuck_person) D sc_stuck_person (fun _ _ _ _ _ _ us hl => match us, hl with | [_], _ => rfl) ar_stuck_person (fun f cdv A fs s hp e hr gd => ?_) rd_stuck_person
  have sc := sc_stuck_person
  have hu := hr.units
  exact (ds_cons (ds_for PassesOwn.never rfl (di_seq (de_call C_people_by_weight (hr.mono (by decide)) gd (by rfl) (da_cons (dv 0) da_nil))) (dg_name (i := 1) sc.nd rfl (by first | exact Or.inl rfl | exact Or.inr rfl)) (ds_one (ds_if (dt_cmp op_lt ok_b0 (de_call C_room_of (hr.mono (by decide)) gd (by rfl) (da_cons (dv 0) (da_cons (dv 1) da_nil))) de_int) (ds_one (ds_ret (dv 1))) ds_nil)))
    (ds_one (ds_ret de_non)))

theorem ok_reach_weight {P : Program} {w : World} {K : PySem.W.Frag} {mg : Str → Option Value} {base : Heap} (T : Txt mg) (D : DefAt K mg "reach_weight" (top 34)) (C_lighter_weight : CalD P w K mg base 1 "lighter_weight" ["tower", "person"] S_lighter_weight) (C_stuck_person : CalD P w K mg base 3 "stuck_person" ["tower"] S_stuck_person) : CalD P w K mg base 4 "reach_weight" ["tower"] S_reach_weight := by
  refine CalD.mk (T := T_reach_weight) D sc_reach_weight (fun _ _ _ _ _ _ us hl => match us, hl with | [_], _ => rfl) ar_reach_weight (fun f cdv A fs s hp e hr gd => ?_) rd_reach_weight
  have sc := sc_reach_weight
  have hu := hr.units
  exact (ds_cons (ds_asg (dv 0) (dg_tup rfl (dgs_cons (dg_name (i := 1) sc.nd rfl (by first | exact Or.inl rfl | exact Or.inr rfl)) (dgs_cons (dg_name (i := 2) sc.nd rfl (by first | exact Or.inl rfl | exact Or.inr rfl)) dgs_nil))))
    (ds_cons (ds_set (i := 3) sc.nd rfl (by first | exact Or.inl rfl | exact Or.inr rfl) (de_call C_stuck_person (hr.mono (by decide)) gd (by rfl) (da_cons (dv 0) da_nil)))
    (ds_one (ds_ret (de_if (dt_cmp op_isN ok_isN (dv 3) de_non) (de_callB (cr_sumT rfl) ok_sumT (by rfl) T.b_sum (by decide +kernel) (da_cons (dv 2) da_nil)) (de_call C_lighter_weight (hr.mono (by decide)) gd (by rfl) (da_cons (dv 0) (da_cons (dv 3) da_nil))))))))

theorem ok_Hoist_tower {c : Str} {P : Program} {w : World} {K : PySem.W.Frag} {mg : Str → Option Value} {base : Heap} (T : Txt mg) (D : PropAt K c "tower" "Hoist.tower" (memb (top 42) 2)) (OT : ObjT P w K mg base) : CalP P w K mg base 3 c "tower" S_Hoist_tower := by
  refine CalP.mk (T := T_Hoist_tower) D sc_Hoist_tower (fun _ _ _ _ _ _ us hl => match us, hl with | [_], _ => rfl) ar_Hoist_tower (fun f cdv A fs s hp e RX I hr gd => ?_) rd_Hoist_tower
  have sc := sc_Hoist_tower
  have hu := hr.units
  exact (ds_one (ds_ret (de_ix (de_some fun c hc => (de_fld (OT.clsP_Hoist c hc) (OT.noP_Hoist__towers c hc) (dv 0))) (de_un un_neg ok_neg de_int) (fun _ _ => rfl))))

theorem ok_likeness {P : Program} {w : World} {K : PySem.W.Frag} {mg : Str → Option Value} {base : Heap} (T : Txt mg) (D : DefAt K mg "likeness" (top 44)) (C_Hoist_tower : (∀ c ∈ CS_Hoist, CalP P w K mg base 3 c "tower" S_Hoist_tower)) (OT : ObjT P w K mg base) : CalD P w K mg base 5 "likeness" ["hoist"] S_likeness := by
  refine CalD.mk (T := T_likeness) D sc_likeness (fun _ _ _ _ _ _ us hl => match us, hl with | [_], _ => rfl) ar_likeness (fun f cdv A fs s hp e hr gd => ?_) rd_likeness
  have sc := sc_likeness
  have hu := hr.units
  exact (ds_cons (ds_asg (de_some fun c hc => (de_propK ambN (OT.clsP_Hoist c hc) (C_Hoist_tower c hc) (hr.mono (by decide)) gd (dv 0))) (dg_tup rfl (dgs_cons (dg_name (i := 1) sc.nd rfl (by first | exact Or.inl rfl | exact Or.inr rfl)) (dgs_cons (dg_name (i := 2) sc.nd rfl (by first | exact Or.inl rfl | exact Or.inr rfl)) dgs_nil))))
    (ds_cons (ds_set (i := 3) sc.nd rfl (by first | exact Or.inl rfl | exact Or.inr rfl) (de_if (dt_val (de_callB call_isi (ok_isK OT.isF_Hoist (by decide) OT.kitF_Hoist_PromisedHoist) (by rfl) T.b_isinstance (by decide +kernel) (da_cons (dv 0) (da_cons (de_cls (by rfl) T.k_PromisedHoist) da_nil)))) (de_some fun c hc => (de_propF (OT.clsP_Promise c hc) (OT.getP_Promise_least c hc) (hr.mono (by decide)) (dv 0))) de_non))
    (ds_one (ds_ret (de_tup (da_cons (dv 1) (da_cons (de_callB cr_sortedA ok_sortedA (by rfl) T.b_sorted (by decide +kernel) (da_cons (dv 2) da_nil)) (da_cons (dv 3) da_nil))))))))

theorem ok__law_deck {P : Program} {w : World} {K : PySem.W.Frag} {mg : Str → Option Value} {base : Heap} (T : Txt mg) (D : DefAt K mg "_law_deck" (top 46)) : CalD P w K mg base 1 "_law_deck" ["script"] S__law_deck := by
  refine CalD.mk (T := T__law_deck) D sc__law_deck (fun _ _ _ _ _ _ us hl => match us, hl with | [_], _ => rfl) ar__law_deck (fun f cdv A fs s hp e hr gd => ?_) rd__law_deck
  have sc := sc__law_deck
  have hu := hr.units
  exact (ds_one (ds_ret (de_lstO (da_cons (de_lcO (own := [("cell", 1)]) rfl sc.nd (di_seq (de_sl (dv 0) do_none (do_some de_int))) (blkOk_by (N := ["script", "cell"]) (sc := defScope (top 46)) (by decide +kernel)) (fun _ _ _ _ _ => pg_name (i := 1) sc.nd rfl (by first | exact Or.inl rfl | exact Or.inr rfl)) (gok_name (i := 1) (by decide)) (fun _ _ _ _ _ => dts_nil) (fun _ _ _ _ _ => (de_callB call_abs ok_abs (by rfl) T.b_abs (by decide +kernel) (da_cons (dv 1) da_nil)))) (da_cons de_int da_nil)))))

theorem ok__law_draw {P : Program} {w : World} {K : PySem.W.Frag} {mg : Str → Option Value} {base : Heap} (T : Txt mg) (D : DefAt K mg "_law_draw" (top 47)) : CalD P w K mg base 1 "_law_draw" ["deck", "many"] S__law_draw := by
  refine CalD.mk (T := T__law_draw) D sc__law_draw (fun _ _ _ _ _ _ us hl => match us, hl with | [_, _], _ => rfl) ar__law_draw (fun f cdv A fs s hp e hr gd => ?_) rd__law_draw
  have sc := sc__law_draw
  have hu := hr.units
  exact (ds_cons (ds_asg (de_op op_addA ok_add (de_ix (dv 0) de_int (fun _ _ => rfl)) de_int) (dg_sub (dv 0) de_int))
    (ds_cons (ds_set (i := 2) sc.nd rfl (by first | exact Or.inl rfl | exact Or.inr rfl) de_int)
    (ds_cons (ds_set (i := 3) sc.nd rfl (by first | exact Or.inl rfl | exact Or.inr rfl) (de_un un_neg ok_neg de_int))
    (ds_cons (ds_if (dt_cmp op_gt ok_b0 (de_callB call_len ok_len (by rfl) T.b_len (by decide +kernel) (da_cons (de_ix (dv 0) de_int (fun _ _ => rfl)) da_nil)) de_int) (ds_cons (ds_set (i := 3) sc.nd rfl (by first | exact Or.inl rfl | exact Or.inr rfl) (de_op op_mod ok_i2 (de_ix (dv 0) de_int (fun _ _ => rfl)) (de_callB call_len ok_len (by rfl) T.b_len (by decide +kernel) (da_cons (de_ix (dv 0) de_int (fun _ _ => rfl)) da_nil))))
    (ds_one (ds_set (i := 2) sc.nd rfl (by first | exact Or.inl rfl | exact Or.inr rfl) (de_ix (de_ix (dv 0) de_int (fun _ _ => rfl)) (dv 3) (fun _ _ => rfl))))) ds_nil)
    (ds_cons (ds_if (dt_cmp op_ge ok_b0 (dv 2) (de_op op_pow ok_i2 de_int de_int)) (ds_cons (ds_asg (de_op op_fdivW ok_i2 (dv 2) (dv 1)) (dg_sub (de_ix (dv 0) de_int (fun _ _ => rfl)) (dv 3)))
    (ds_one (ds_ret (de_op op_mod ok_i2 (dv 2) (dv 1))))) ds_nil)
    (ds_one (ds_ret (de_op op_mod ok_i2 (de_op op_mod ok_i2 (de_op op_pow ok_i2 (de_op op_addA ok_add (de_op op_addA ok_add (de_op op_mod ok_i2 (dv 2) de_int) (de_op op_mulA ok_mul de_int (de_ix (dv 0) de_int (fun _ _ => rfl)))) de_int) de_int) de_int) (dv 1)))))))))

theorem ok__law_weight {P : Program} {w : World} {K : PySem.W.Frag} {mg : Str → Option Value} {base : Heap} (T : Txt mg) (D : DefAt K mg "_law_weight" (top 48)) (C__law_draw : CalD P w K mg base 1 "_law_draw" ["deck", "many"] S__law_draw) : CalD P w K mg base 2 "_law_weight" ["deck", "excess", "weights"] S__law_weight := by
  refine CalD.mk (T := T__law_weight) D sc__law_weight (fun _ _ _ _ _ _ us hl => match us, hl with | [_, _, _], _ => rfl) ar__law_weight (fun f cdv A fs s hp e hr gd => ?_) rd__law_weight
  have sc := sc__law_weight
  have hu := hr.units
  exact (ds_cons (ds_set (i := 3) sc.nd rfl (by first | exact Or.inl rfl | exact Or.inr rfl) (de_callB (cr_sumT rfl) ok_sumT (by rfl) T.b_sum (by decide +kernel) (da_cons (dv 2) da_nil)))
    (ds_cons (ds_set (i := 4) sc.nd rfl (by first | exact Or.inl rfl | exact Or.inr rfl) (de_lst (da_cons (de_op op_addA ok_add de_int (de_call C__law_draw (hr.mono (by decide)) gd (by rfl) (da_cons (dv 0) (da_cons de_int da_nil)))) (da_cons (de_op op_addA ok_add (dv 3) (dv 1)) (da_cons (de_op op_addA ok_add (de_op op_addA ok_add (dv 3) (dv 1)) de_int) (da_cons (de_op op_addA ok_add de_int (de_call C__law_draw (hr.mono (by decide)) gd (by rfl) (da_cons (dv 0) (da_cons de_int da_nil)))) (da_cons (de_op op_sub ok_i0 (dv 3) de_int) da_nil)))))))
    (ds_one (ds_ret (de_callB (call_max2 rfl) ok_ii (by rfl) T.b_max (by decide +kernel) (da_cons de_int (da_cons (de_callB (call_min2 rfl) ok_ii (by rfl) T.b_min (by decide +kernel) (da_cons (de_op op_pow ok_i2 de_int de_int) (da_cons (de_ix (de_op op_addA ok_add (dv 4) (de_lst (da_cons (de_op op_addA ok_add de_int (de_call C__law_draw (hr.mono (by decide)) gd (by rfl) (da_cons (dv 0) (da_cons (de_op op_pow ok_i2 de_int de_int) da_nil)))) da_nil))) (de_call C__law_draw (hr.mono (by decide)) gd (by rfl) (da_cons (dv 0) (da_cons de_int da_nil))) (fun _ _ => rfl)) da_nil))) da_nil)))))))

theorem ok__law_tower {P : Program} {w : World} {K : PySem.W.Frag} {mg : Str → Option Value} {base : Heap} (T : Txt mg) (D : DefAt K mg "_law_tower" (top 49)) (C__law_draw : CalD P w K mg base 1 "_law_draw" ["deck", "many"] S__law_draw) (C__law_weight : CalD P w K mg base 2 "_law_weight" ["deck", "excess", "weights"] S__law_weight) : CalD P w K mg base 3 "_law_tower" ["deck", "most"] S__law_tower := by
  refine CalD.mk (T := T__law_tower) D sc__law_tower (fun _ _ _ _ _ _ us hl => match us, hl with | [_, _], _ => rfl) ar__law_tower (fun f cdv A fs s hp e hr gd => ?_) rd__law_tower
  have sc := sc__law_tower
  have hu := hr.units
  exact (ds_cons (ds_par (i := 2) (j := 3) rfl sc.nd rfl rfl (by decide) rfl rfl (da_cons (de_op op_addA ok_add de_int (de_call C__law_draw (hr.mono (by decide)) gd (by rfl) (da_cons (dv 0) (da_cons (de_ix (de_lst (da_cons de_int (da_cons de_int (da_cons (de_op op_pow ok_i2 de_int de_int) da_nil)))) (de_call C__law_draw (hr.mono (by decide)) gd (by rfl) (da_cons (dv 0) (da_cons de_int da_nil))) (fun _ _ => rfl)) da_nil)))) (da_cons (de_tup da_nil) da_nil)) (by rfl))
    (ds_cons (ds_for PassesOwn.never rfl (di_rng1 (by rfl) T.b_range (da_cons (de_call C__law_draw (hr.mono (by decide)) gd (by rfl) (da_cons (dv 0) (da_cons (de_op op_addA ok_add (dv 1) de_int) da_nil))) da_nil)) (dg_name (i := 4) sc.nd rfl (by first | exact Or.inl rfl | exact Or.inr rfl)) (ds_cons (ds_set (i := 5) sc.nd rfl (by first | exact Or.inl rfl | exact Or.inr rfl) (de_call C__law_draw (hr.mono (by decide)) gd (by rfl) (da_cons (dv 0) (da_cons (de_op op_addA ok_add (de_callB call_len ok_len (by rfl) T.b_len (by decide +kernel) (da_cons (dv 3) da_nil)) de_int) da_nil))))
    (ds_one (ds_set (i := 3) sc.nd rfl (by first | exact Or.inl rfl | exact Or.inr rfl) (de_op op_addA ok_add (de_op op_addA ok_add (de_sl (dv 3) do_none (do_some (dv 5))) (de_tup (da_cons (de_call C__law_weight (hr.mono (by decide)) gd (by rfl) (da_cons (dv 0) (da_cons (dv 2) (da_cons (dv 3) da_nil)))) da_nil))) (de_sl (dv 3) (do_some (dv 5)) do_none))))))
    (ds_one (ds_ret (de_tup (da_cons (dv 2) (da_cons (dv 3) da_nil)))))))

theorem ok__law_after {P : Program} {w : World} {K : PySem.W.Frag} {mg : Str → Option Value} {base : Heap} (T : Txt mg) (D : DefAt K mg "_law_after" (top 50)) : CalD P w K mg base 1 "_law_after" ["tower", "edit"] S__law_after := by
  refine CalD.mk (T := T__law_after) D sc__law_after (fun _ _ _ _ _ _ us hl => match us, hl with | [_, _], _ => rfl) ar__law_after (fun f cdv A fs s hp e hr gd => ?_) rd__law_after
  have sc := sc__law_after
  have hu := hr.units
  exact (ds_cons (ds_asg (dv 0) (dg_tup rfl (dgs_cons (dg_name (i := 2) sc.nd rfl (by first | exact Or.inl rfl | exact Or.inr rfl)) (dgs_cons (dg_name (i := 3) sc.nd rfl (by first | exact Or.inl rfl | exact Or.inr rfl)) dgs_nil))))
    (ds_cons (ds_if (dt_cmp (op_eqA hu) ok_eq (de_ix (dv 1) de_int (fun _ _ => rfl)) de_str) (ds_one (ds_ret (de_tup (da_cons (dv 2) (da_cons (de_op op_addA ok_add (dv 3) (de_tup (da_cons (de_ix (dv 1) de_int (fun _ _ => rfl)) da_nil))) da_nil))))) ds_nil)
    (ds_cons (ds_if (dt_cmp (op_eqA hu) ok_eq (de_ix (dv 1) de_int (fun _ _ => rfl)) de_str) (ds_one (ds_ret (de_tup (da_cons (dv 2) (da_cons (de_op op_addA ok_add (de_sl (dv 3) do_none (do_some (de_ix (dv 1) de_int (fun _ _ => rfl)))) (de_sl (dv 3) (do_some (de_op op_addA ok_add (de_ix (dv 1) de_int (fun _ _ => rfl)) de_int)) do_none)) da_nil))))) ds_nil)
    (ds_cons (ds_if (dt_cmp (op_eqA hu) ok_eq (de_ix (dv 1) de_int (fun _ _ => rfl)) de_str) (ds_one (ds_ret (de_tup (da_cons (dv 2) (da_cons (de_op op_addA ok_add (de_op op_addA ok_add (de_sl (dv 3) do_none (do_some (de_ix (dv 1) de_int (fun _ _ => rfl)))) (de_tup (da_cons (de_ix (dv 1) de_int (fun _ _ => rfl)) da_nil))) (de_sl (dv 3) (do_some (de_op op_addA ok_add (de_ix (dv 1) de_int (fun _ _ => rfl)) de_int)) do_none)) da_nil))))) ds_nil)
    (ds_one (ds_ret (de_tup (da_cons (de_ix (dv 1) de_int (fun _ _ => rfl)) (da_cons (dv 3) da_nil)))))))))

theorem ok__law_edit {P : Program} {w : World} {K : PySem.W.Frag} {mg : Str → Option Value} {base : Heap} (T : Txt mg) (D : DefAt K mg "_law_edit" (top 51)) (C__law_draw : CalD P w K mg base 1 "_law_draw" ["deck", "many"] S__law_draw) (C__law_weight : CalD P w K mg base 2 "_law_weight" ["deck", "excess", "weights"] S__law_weight) : CalD P w K mg base 3 "_law_edit" ["deck", "tower"] S__law_edit := by
  refine CalD.mk (T := T__law_edit) D sc__law_edit (fun _ _ _ _ _ _ us hl => match us, hl with | [_, _], _ => rfl) ar__law_edit (fun f cdv A fs s hp e hr gd => ?_) rd__law_edit
  have sc := sc__law_edit
  have hu := hr.units
  exact (ds_cons (ds_asg (dv 1) (dg_tup rfl (dgs_cons (dg_name (i := 2) sc.nd rfl (by first | exact Or.inl rfl | exact Or.inr rfl)) (dgs_cons (dg_name (i := 3) sc.nd rfl (by first | exact Or.inl rfl | exact Or.inr rfl)) dgs_nil))))
    (ds_cons (ds_set (i := 4) sc.nd rfl (by first | exact Or.inl rfl | exact Or.inr rfl) (de_call C__law_draw (hr.mono (by decide)) gd (by rfl) (da_cons (dv 0) (da_cons de_int da_nil))))
    (ds_cons (ds_if (dt_bool (dw_or (dt_cmp (op_eqA hu) ok_eq (dv 4) de_int) (dw_or1 (dt_bool (dw_and (dt_cmp (op_eqA hu) ok_eq (dv 3) (de_tup da_nil)) (dw_and1 (dt_cmp op_lt ok_b0 (dv 4) de_int))))))) (ds_cons (ds_set (i := 5) sc.nd rfl (by first | exact Or.inl rfl | exact Or.inr rfl) (de_lst (da_cons (de_op op_addA ok_add de_int (de_call C__law_draw (hr.mono (by decide)) gd (by rfl) (da_cons (dv 0) (da_cons de_int da_nil)))) (da_cons (de_callB (call_min2 rfl) ok_ii (by rfl) T.b_min (by decide +kernel) (da_cons (de_op op_pow ok_i2 de_int de_int) (da_cons (de_op op_addA ok_add (dv 2) de_int) da_nil))) (da_cons (de_callB (call_max2 rfl) ok_ii (by rfl) T.b_max (by decide +kernel) (da_cons de_int (da_cons (de_op op_sub ok_i0 (dv 2) de_int) da_nil))) da_nil)))))
    (ds_one (ds_ret (de_tup (da_cons de_str (da_cons (de_ix (dv 5) (de_call C__law_draw (hr.mono (by decide)) gd (by rfl) (da_cons (dv 0) (da_cons de_int da_nil))) (fun _ _ => rfl)) da_nil)))))) ds_nil)
    (ds_cons (ds_if (dt_bool (dw_or (dt_cmp (op_eqA hu) ok_eq (dv 4) de_int) (dw_or1 (dt_bool (dw_and (dt_cmp (op_eqA hu) ok_eq (de_callB call_len ok_len (by rfl) T.b_len (by decide +kernel) (da_cons (dv 3) da_nil)) de_int) (dw_and1 (dt_cmp op_gt ok_b0 (dv 4) de_int))))))) (ds_one (ds_ret (de_tup (da_cons de_str (da_cons (de_call C__law_draw (hr.mono (by decide)) gd (by rfl) (da_cons (dv 0) (da_cons (de_callB call_len ok_len (by rfl) T.b_len (by decide +kernel) (da_cons (dv 3) da_nil)) da_nil))) da_nil))))) ds_nil)
    (ds_cons (ds_if (dt_cmp (op_eqA hu) ok_eq (dv 4) de_int) (ds_one (ds_ret (de_tup (da_cons de_str (da_cons (de_call C__law_draw (hr.mono (by decide)) gd (by rfl) (da_cons (dv 0) (da_cons (de_callB call_len ok_len (by rfl) T.b_len (by decide +kernel) (da_cons (dv 3) da_nil)) da_nil))) (da_cons (de_call C__law_weight (hr.mono (by decide)) gd (by rfl) (da_cons (dv 0) (da_cons (dv 2) (da_cons (dv 3) da_nil)))) da_nil)))))) ds_nil)
    (ds_one (ds_ret (de_tup (da_cons de_str (da_cons (de_call C__law_weight (hr.mono (by decide)) gd (by rfl) (da_cons (dv 0) (da_cons (dv 2) (da_cons (dv 3) da_nil)))) da_nil))))))))))

theorem ok_Hoist__check_idle {c : Str} {P : Program} {w : World} {K : PySem.W.Frag} {mg : Str → Option Value} {base : Heap} (T : Txt mg) (D : MethAt K c "_check_idle" "Hoist._check_idle" (memb (top 42) 19)) (OT : ObjT P w K mg base) : CalM P w K mg base 3 c "_check_idle" ["self"] S_Hoist__check_idle := by
  refine CalM.mk (T := T_Hoist__check_idle) D sc_Hoist__check_idle (fun _ _ _ _ _ _ us hl => match us, hl with | [_], _ => rfl) ar_Hoist__check_idle (fun f cdv A fs s hp e RX I hr gd => ?_) rd_Hoist__check_idle
  have sc := sc_Hoist__check_idle
  have hu := hr.units
  exact (ds_one (ds_if (dt_val (de_some fun c hc => (de_fld (OT.clsP_Hoist c hc) (OT.noP_Hoist__watched c hc) (dv 0)))) (ds_one ds_never) ds_nil))

theorem ok_Hoist__check_edit {c : Str} {P : Program} {w : World} {K : PySem.W.Frag} {mg : Str → Option Value} {base : Heap} (T : Txt mg) (D : MethAt K c "_check_edit" "Hoist._check_edit" (memb (top 42) 20)) (C_Hoist__check_idle : (∀ c ∈ CS_Hoist, CalM P w K mg base 3 c "_check_idle" ["self"] S_Hoist__check_idle)) (OT : ObjT P w K mg base) : CalM P w K mg base 5 c "_check_edit" ["self"] S_Hoist__check_edit := by
  refine CalM.mk (T := T_Hoist__check_edit) D sc_Hoist__check_edit (fun _ _ _ _ _ _ us hl => match us, hl with | [_], _ => rfl) ar_Hoist__check_edit (fun f cdv A fs s hp e RX I hr gd => ?_) rd_Hoist__check_edit
  have sc := sc_Hoist__check_edit
  have hu := hr.units
  exact (ds_cons (ds_expr (de_some fun c hc => (de_meth0K I (OT.clsP_Hoist c hc) (C_Hoist__check_idle c hc) (hr.mono (by decide)) gd (takes_of rfl rfl rfl rfl) (dv 0))))
    (ds_one (ds_if (dt_cmp (op_eqA hu) ok_eq (de_callB call_len ok_len (by rfl) T.b_len (by decide +kernel) (da_cons (de_some fun c hc => (de_fld (OT.clsP_Hoist c hc) (OT.noP_Hoist__edits c hc) (dv 0))) da_nil)) (de_globI2 (by rfl) T.c_MAX_EDITS)) (ds_one ds_never) ds_nil)))

theorem ok_Hoist__check_tower {P : Program} {w : World} {K : PySem.W.Frag} {mg : Str → Option Value} {base : Heap} (T : Txt mg) (D : MethAt K "Hoist" "_check_tower" "Hoist._check_tower" (memb (top 42) 22)) : CalM P w K mg base 1 "Hoist" "_check_tower" ["self", "tower"] S_Hoist__check_tower := by
  refine CalM.mk (T := T_Hoist__check_tower) D sc_Hoist__check_tower (fun _ _ _ _ _ _ us hl => match us, hl with | [_, _], _ => rfl) ar_Hoist__check_tower (fun f cdv A fs s hp e RX I hr gd => ?_) rd_Hoist__check_tower
  have sc := sc_Hoist__check_tower
  have hu := hr.units
  exact (ds_one ds_pass)

theorem ok_Promise_beyond {c : Str} {P : Program} {w : World} {K : PySem.W.Frag} {mg : Str → Option Value} {base : Heap} (T : Txt mg) (D : MethAt K c "beyond" "Promise.beyond" (memb (top 28) 2)) (C_check_number : CalX P w K mg base 3 "check_number" ["value"] S_check_number) (OT : ObjT P w K mg base) (X_TooLow : ErrD P w K mg base 1 "TooLow" "number") : CalM P w K mg base 4 c "beyond" ["self", "number"] S_Promise_beyond := by
  refine CalM.mk (T := T_Promise_beyond) D sc_Promise_beyond (fun _ _ _ _ _ _ us hl => match us, hl with | [_, _], _ => rfl) ar_Promise_beyond (fun f cdv A fs s hp e RX I hr gd => ?_) rd_Promise_beyond
  have sc := sc_Promise_beyond
  have hu := hr.units
  exact (ds_cons (ds_expr (de_callK I C_check_number (hr.mono (by decide)) gd (takes_of rfl rfl rfl rfl) (by rfl) (da_cons (dv 1) da_nil)))
    (ds_cons (ds_if (dt_cmp op_lt ok_b0 (dv 1) (de_some fun c hc => (de_fld (OT.clsP_Promise c hc) (OT.noP_Promise__least c hc) (dv 0)))) (ds_one (ds_raiseK I rfl (takes_of rfl rfl rfl rfl) X_TooLow (hr.mono (by decide)) (by rfl) (dv 1))) ds_nil)
    (ds_one (ds_ret (de_op op_sub ok_i0 (dv 1) (de_some fun c hc => (de_fld (OT.clsP_Promise c hc) (OT.noP_Promise__least c hc) (dv 0))))))))

theorem ok_PromisedHoist__check_tower {P : Program} {w : World} {K : PySem.W.Frag} {mg : Str → Option Value} {base : Heap} (T : Txt mg) (D : MethAt K "PromisedHoist" "_check_tower" "PromisedHoist._check_tower" (memb (top 43) 1)) (C_Promise_beyond : (∀ c ∈ CS_Promise, CalM P w K mg base 4 c "beyond" ["self", "number"] S_Promise_beyond)) (C_reach_weight : CalD P w K mg base 4 "reach_weight" ["tower"] S_reach_weight) (OT : ObjT P w K mg base) : CalM P w K mg base 6 "PromisedHoist" "_check_tower" ["self", "tower"] S_PromisedHoist__check_tower := by
  refine CalM.mk (T := T_PromisedHoist__check_tower) D sc_PromisedHoist__check_tower (fun _ _ _ _ _ _ us hl => match us, hl with | [_, _], _ => rfl) ar_PromisedHoist__check_tower (fun f cdv A fs s hp e RX I hr gd => ?_) rd_PromisedHoist__check_tower
  have sc := sc_PromisedHoist__check_tower
  have hu := hr.units
  exact (ds_one (ds_expr (de_some fun c hc => (de_methK I (OT.clsP_Promise c hc) (C_Promise_beyond c hc) (hr.mono (by decide)) gd (takes_of rfl rfl rfl rfl) (dv 0) (da_cons (de_call C_reach_weight (hr.mono (by decide)) gd (by rfl) (da_cons (dv 1) da_nil)) da_nil)))))

theorem ok_Hoist__keep {c : Str} {P : Program} {w : World} {K : PySem.W.Frag} {mg : Str → Option Value} {base : Heap} (T : Txt mg) (D : MethAt K c "_keep" "Hoist._keep" (memb (top 42) 23)) (C_Hoist__check_tower : CalM P w K mg base 1 "Hoist" "_check_tower" ["self", "tower"] S_Hoist__check_tower) (C_PromisedHoist__check_tower : CalM P w K mg base 6 "PromisedHoist" "_check_tower" ["self", "tower"] S_PromisedHoist__check_tower) (CO__check_tower : (∀ c ∈ CS_Hoist, CalM P w K mg base 6 c "_check_tower" ["self", "tower"] (SO__check_tower c))) (OT : ObjT P w K mg base) : CalM P w K mg base 8 c "_keep" ["self", "edit", "tower"] S_Hoist__keep := by
  refine CalM.mk (T := T_Hoist__keep) D sc_Hoist__keep (fun _ _ _ _ _ _ us hl => match us, hl with | [_, _, _], _ => rfl) ar_Hoist__keep (fun f cdv A fs s hp e RX I hr gd => ?_) rd_Hoist__keep
  have sc := sc_Hoist__keep
  have hu := hr.units
  exact (ds_cons (ds_expr (de_some fun c hc => (de_methK I (OT.clsP_Hoist c hc) (CO__check_tower c hc) (hr.mono (by decide)) gd (takes_of rfl rfl rfl rfl) (dv 0) (da_cons (dv 2) da_nil))))
    (ds_cons (ds_some fun c hc => (ds_fldS (OT.clsP_Hoist c hc) (OT.noP_Hoist__towers c hc) (dv 0) (de_tup (da_star (de_some fun c hc => (de_fld (OT.clsP_Hoist c hc) (OT.noP_Hoist__towers c hc) (dv 0))) (da_cons (dv 2) da_nil)))))
    (ds_cons (ds_some fun c hc => (ds_fldS (OT.clsP_Hoist c hc) (OT.noP_Hoist__edits c hc) (dv 0) (de_tup (da_star (de_some fun c hc => (de_fld (OT.clsP_Hoist c hc) (OT.noP_Hoist__edits c hc) (dv 0))) (da_cons (dv 1) da_nil)))))
    (ds_one (ds_ret (de_callB call_len ok_len (by rfl) T.b_len (by decide +kernel) (da_cons (de_some fun c hc => (de_fld (OT.clsP_Hoist c hc) (OT.noP_Hoist__edits c hc) (dv 0))) da_nil)))))))

theorem ok_Hoist_come {c : Str} {P : Program} {w : World} {K : PySem.W.Frag} {mg : Str → Option Value} {base : Heap} (T : Txt mg) (D : MethAt K c "come" "Hoist.come" (memb (top 42) 5)) (C_Hoist__check_edit : (∀ c ∈ CS_Hoist, CalM P w K mg base 5 c "_check_edit" ["self"] S_Hoist__check_edit)) (C_Hoist__keep : (∀ c ∈ CS_Hoist, CalM P w K mg base 8 c "_keep" ["self", "edit", "tower"] S_Hoist__keep)) (C_Hoist_tower : (∀ c ∈ CS_Hoist, CalP P w K mg base 3 c "tower" S_Hoist_tower)) (C_is_weight : CalD P w K mg base 2 "is_weight" ["value"] S_is_weight) (OT : ObjT P w K mg base) : CalM P w K mg base 10 c "come" ["self", "weight"] S_Hoist_come := by
  refine CalM.mk (T := T_Hoist_come) D sc_Hoist_come (fun _ _ _ _ _ _ us hl => match us, hl with | [_, _], _ => rfl) ar_Hoist_come (fun f cdv A fs s hp e RX I hr gd => ?_) rd_Hoist_come
  have sc := sc_Hoist_come
  have hu := hr.units
  exact (ds_cons (ds_expr (de_some fun c hc => (de_meth0K I (OT.clsP_Hoist c hc) (C_Hoist__check_edit c hc) (hr.mono (by decide)) gd (takes_of rfl rfl rfl rfl) (dv 0))))
    (ds_cons (ds_if (dt_not (dt_val (de_call C_is_weight (hr.mono (by decide)) gd (by rfl) (da_cons (dv 1) da_nil)))) (ds_one ds_never) ds_nil)
    (ds_cons (ds_asg (de_some fun c hc => (de_propK I (OT.clsP_Hoist c hc) (C_Hoist_tower c hc) (hr.mono (by decide)) gd (dv 0))) (dg_tup rfl (dgs_cons (dg_name (i := 2) sc.nd rfl (by first | exact Or.inl rfl | exact Or.inr rfl)) (dgs_cons (dg_name (i := 3) sc.nd rfl (by first | exact Or.inl rfl | exact Or.inr rfl)) dgs_nil))))
    (ds_cons (ds_if (dt_cmp (op_eqA hu) ok_eq (de_callB call_len ok_len (by rfl) T.b_len (by decide +kernel) (da_cons (dv 3) da_nil)) (de_globI2 (by rfl) T.c_MAX_PEOPLE)) (ds_one ds_never) ds_nil)
    (ds_one (ds_ret (de_some fun c hc => (de_methK I (OT.clsP_Hoist c hc) (C_Hoist__keep c hc) (hr.mono (by decide)) gd (takes_of rfl rfl rfl rfl) (dv 0) (da_cons (de_tup (da_cons de_str (da_cons (dv 1) da_nil))) (da_cons (de_tup (da_cons (dv 2) (da_cons (de_tup (da_star (dv 3) (da_cons (dv 1) da_nil))) da_nil))) da_nil))))))))))

theorem ok_Hoist__check_person {c : Str} {P : Program} {w : World} {K : PySem.W.Frag} {mg : Str → Option Value} {base : Heap} (T : Txt mg) (D : MethAt K c "_check_person" "Hoist._check_person" (memb (top 42) 21)) (C_Hoist_tower : (∀ c ∈ CS_Hoist, CalP P w K mg base 3 c "tower" S_Hoist_tower)) (C_is_number_between : CalD P w K mg base 1 "is_number_between" ["value", "low", "high"] S_is_number_between) (OT : ObjT P w K mg base) : CalM P w K mg base 5 c "_check_person" ["self", "person"] S_Hoist__check_person := by
  refine CalM.mk (T := T_Hoist__check_person) D sc_Hoist__check_person (fun _ _ _ _ _ _ us hl => match us, hl with | [_, _], _ => rfl) ar_Hoist__check_person (fun f cdv A fs s hp e RX I hr gd => ?_) rd_Hoist__check_person
  have sc := sc_Hoist__check_person
  have hu := hr.units
  exact (ds_cons (ds_asg (de_some fun c hc => (de_propK I (OT.clsP_Hoist c hc) (C_Hoist_tower c hc) (hr.mono (by decide)) gd (dv 0))) (dg_tup rfl (dgs_cons (dg_name (i := 2) sc.nd rfl (by first | exact Or.inl rfl | exact Or.inr rfl)) (dgs_cons (dg_name (i := 3) sc.nd rfl (by first | exact Or.inl rfl | exact Or.inr rfl)) dgs_nil))))
    (ds_one (ds_if (dt_not (dt_val (de_call C_is_number_between (hr.mono (by decide)) gd (by rfl) (da_cons (dv 1) (da_cons de_int (da_cons (de_op op_sub ok_i0 (de_callB call_len ok_len (by rfl) T.b_len (by decide +kernel) (da_cons (dv 3) da_nil)) de_int) da_nil)))))) (ds_one ds_never) ds_nil)))

theorem ok_Hoist_leave {c : Str} {P : Program} {w : World} {K : PySem.W.Frag} {mg : Str → Option Value} {base : Heap} (T : Txt mg) (D : MethAt K c "leave" "Hoist.leave" (memb (top 42) 6)) (C_Hoist__check_edit : (∀ c ∈ CS_Hoist, CalM P w K mg base 5 c "_check_edit" ["self"] S_Hoist__check_edit)) (C_Hoist__check_person : (∀ c ∈ CS_Hoist, CalM P w K mg base 5 c "_check_person" ["self", "person"] S_Hoist__check_person)) (C_Hoist__keep : (∀ c ∈ CS_Hoist, CalM P w K mg base 8 c "_keep" ["self", "edit", "tower"] S_Hoist__keep)) (C_Hoist_tower : (∀ c ∈ CS_Hoist, CalP P w K mg base 3 c "tower" S_Hoist_tower)) (OT : ObjT P w K mg base) : CalM P w K mg base 10 c "leave" ["self", "person"] S_Hoist_leave := by
  refine CalM.mk (T := T_Hoist_leave) D sc_Hoist_leave (fun _ _ _ _ _ _ us hl => match us, hl with | [_, _], _ => rfl) ar_Hoist_leave (fun f cdv A fs s hp e RX I hr gd => ?_) rd_Hoist_leave
  have sc := sc_Hoist_leave
  have hu := hr.units
  exact (ds_cons (ds_expr (de_some fun c hc => (de_meth0K I (OT.clsP_Hoist c hc) (C_Hoist__check_edit c hc) (hr.mono (by decide)) gd (takes_of rfl rfl rfl rfl) (dv 0))))
    (ds_cons (ds_expr (de_some fun c hc => (de_methK I (OT.clsP_Hoist c hc) (C_Hoist__check_person c hc) (hr.mono (by decide)) gd (takes_of rfl rfl rfl rfl) (dv 0) (da_cons (dv 1) da_nil))))
    (ds_cons (ds_asg (de_some fun c hc => (de_propK I (OT.clsP_Hoist c hc) (C_Hoist_tower c hc) (hr.mono (by decide)) gd (dv 0))) (dg_tup rfl (dgs_cons (dg_name (i := 2) sc.nd rfl (by first | exact Or.inl rfl | exact Or.inr rfl)) (dgs_cons (dg_name (i := 3) sc.nd rfl (by first | exact Or.inl rfl | exact Or.inr rfl)) dgs_nil))))
    (ds_one (ds_ret (de_some fun c hc => (de_methK I (OT.clsP_Hoist c hc) (C_Hoist__keep c hc) (hr.mono (by decide)) gd (takes_of rfl rfl rfl rfl) (dv 0) (da_cons (de_tup (da_cons de_str (da_cons (dv 1) da_nil))) (da_cons (de_tup (da_cons (dv 2) (da_cons (de_tup (da_star (de_sl (dv 3) do_none (do_some (dv 1))) (da_star (de_sl (dv 3) (do_some (de_op op_addA ok_add (dv 1) de_int)) do_none) da_nil))) da_nil))) da_nil)))))))))

theorem ok_Hoist_loosen {c : Str} {P : Program} {w : World} {K : PySem.W.Frag} {mg : Str → Option Value} {base : Heap} (T : Txt mg) (D : MethAt K c "loosen" "Hoist.loosen" (memb (top 42) 8)) (C_Hoist__check_edit : (∀ c ∈ CS_Hoist, CalM P w K mg base 5 c "_check_edit" ["self"] S_Hoist__check_edit)) (C_Hoist__keep : (∀ c ∈ CS_Hoist, CalM P w K mg base 8 c "_keep" ["self", "edit", "tower"] S_Hoist__keep)) (C_Hoist_tower : (∀ c ∈ CS_Hoist, CalP P w K mg base 3 c "tower" S_Hoist_tower)) (C_is_excess : CalD P w K mg base 2 "is_excess" ["value"] S_is_excess) (OT : ObjT P w K mg base) : CalM P w K mg base 10 c "loosen" ["self", "excess"] S_Hoist_loosen := by
  refine CalM.mk (T := T_Hoist_loosen) D sc_Hoist_loosen (fun _ _ _ _ _ _ us hl => match us, hl with | [_, _], _ => rfl) ar_Hoist_loosen (fun f cdv A fs s hp e RX I hr gd => ?_) rd_Hoist_loosen
  have sc := sc_Hoist_loosen
  have hu := hr.units
  exact (ds_cons (ds_expr (de_some fun c hc => (de_meth0K I (OT.clsP_Hoist c hc) (C_Hoist__check_edit c hc) (hr.mono (by decide)) gd (takes_of rfl rfl rfl rfl) (dv 0))))
    (ds_cons (ds_if (dt_not (dt_val (de_call C_is_excess (hr.mono (by decide)) gd (by rfl) (da_cons (dv 1) da_nil)))) (ds_one ds_never) ds_nil)
    (ds_cons (ds_asg (de_some fun c hc => (de_propK I (OT.clsP_Hoist c hc) (C_Hoist_tower c hc) (hr.mono (by decide)) gd (dv 0))) (dg_tup rfl (dgs_cons (dg_name (i := 2) sc.nd rfl (by first | exact Or.inl rfl | exact Or.inr rfl)) (dgs_cons (dg_name (i := 3) sc.nd rfl (by first | exact Or.inl rfl | exact Or.inr rfl)) dgs_nil))))
    (ds_one (ds_ret (de_some fun c hc => (de_methK I (OT.clsP_Hoist c hc) (C_Hoist__keep c hc) (hr.mono (by decide)) gd (takes_of rfl rfl rfl rfl) (dv 0) (da_cons (de_tup (da_cons de_str (da_cons (dv 1) da_nil))) (da_cons (de_tup (da_cons (dv 1) (da_cons (dv 3) da_nil))) da_nil)))))))))

theorem ok_Hoist_weigh {c : Str} {P : Program} {w : World} {K : PySem.W.Frag} {mg : Str → Option Value} {base : Heap} (T : Txt mg) (D : MethAt K c "weigh" "Hoist.weigh" (memb (top 42) 7)) (C_Hoist__check_edit : (∀ c ∈ CS_Hoist, CalM P w K mg base 5 c "_check_edit" ["self"] S_Hoist__check_edit)) (C_Hoist__check_person : (∀ c ∈ CS_Hoist, CalM P w K mg base 5 c "_check_person" ["self", "person"] S_Hoist__check_person)) (C_Hoist__keep : (∀ c ∈ CS_Hoist, CalM P w K mg base 8 c "_keep" ["self", "edit", "tower"] S_Hoist__keep)) (C_Hoist_tower : (∀ c ∈ CS_Hoist, CalP P w K mg base 3 c "tower" S_Hoist_tower)) (C_is_weight : CalD P w K mg base 2 "is_weight" ["value"] S_is_weight) (OT : ObjT P w K mg base) : CalM P w K mg base 10 c "weigh" ["self", "person", "weight"] S_Hoist_weigh := by
  refine CalM.mk (T := T_Hoist_weigh) D sc_Hoist_weigh (fun _ _ _ _ _ _ us hl => match us, hl with | [_, _, _], _ => rfl) ar_Hoist_weigh (fun f cdv A fs s hp e RX I hr gd => ?_) rd_Hoist_weigh
  have sc := sc_Hoist_weigh
  have hu := hr.units
  exact (ds_cons (ds_expr (de_some fun c hc => (de_meth0K I (OT.clsP_Hoist c hc) (C_Hoist__check_edit c hc) (hr.mono (by decide)) gd (takes_of rfl rfl rfl rfl) (dv 0))))
    (ds_cons (ds_expr (de_some fun c hc => (de_methK I (OT.clsP_Hoist c hc) (C_Hoist__check_person c hc) (hr.mono (by decide)) gd (takes_of rfl rfl rfl rfl) (dv 0) (da_cons (dv 1) da_nil))))
    (ds_cons (ds_if (dt_not (dt_val (de_call C_is_weight (hr.mono (by decide)) gd (by rfl) (da_cons (dv 2) da_nil)))) (ds_one ds_never) ds_nil)
    (ds_cons (ds_asg (de_some fun c hc => (de_propK I (OT.clsP_Hoist c hc) (C_Hoist_tower c hc) (hr.mono (by decide)) gd (dv 0))) (dg_tup rfl (dgs_cons (dg_name (i := 3) sc.nd rfl (by first | exact Or.inl rfl | exact Or.inr rfl)) (dgs_cons (dg_name (i := 4) sc.nd rfl (by first | exact Or.inl rfl | exact Or.inr rfl)) dgs_nil))))
    (ds_one (ds_ret (de_some fun c hc => (de_methK I (OT.clsP_Hoist c hc) (C_Hoist__keep c hc) (hr.mono (by decide)) gd (takes_of rfl rfl rfl rfl) (dv 0) (da_cons (de_tup (da_cons de_str (da_cons (dv 1) (da_cons (dv 2) da_nil)))) (da_cons (de_tup (da_cons (dv 3) (da_cons (de_tup (da_star (de_sl (dv 4) do_none (do_some (dv 1))) (da_cons (dv 2) (da_star (de_sl (dv 4) (do_some (de_op op_addA ok_add (dv 1) de_int)) do_none) da_nil)))) da_nil))) da_nil))))))))))

theorem ok__law_do {P : Program} {w : World} {K : PySem.W.Frag} {mg : Str → Option Value} {base : Heap} (T : Txt mg) (D : DefAt K mg "_law_do" (top 52)) (C_Hoist_come : (∀ c ∈ CS_Hoist, CalM P w K mg base 10 c "come" ["self", "weight"] S_Hoist_come)) (C_Hoist_leave : (∀ c ∈ CS_Hoist, CalM P w K mg base 10 c "leave" ["self", "person"] S_Hoist_leave)) (C_Hoist_loosen : (∀ c ∈ CS_Hoist, CalM P w K mg base 10 c "loosen" ["self", "excess"] S_Hoist_loosen)) (C_Hoist_weigh : (∀ c ∈ CS_Hoist, CalM P w K mg base 10 c "weigh" ["self", "person", "weight"] S_Hoist_weigh)) (OT : ObjT P w K mg base) : CalX P w K mg base 12 "_law_do" ["table", "edit"] S__law_do := by
  refine CalX.mk (T := T__law_do) D sc__law_do (fun _ _ _ _ _ _ us hl => match us, hl with | [_, _], _ => rfl) ar__law_do (fun f cdv A fs s hp e RX I hr gd => ?_) rd__law_do
  have sc := sc__law_do
  have hu := hr.units
  exact (ds_cons (ds_if (dt_cmp (op_eqA hu) ok_eq (de_ix (dv 1) de_int (fun _ _ => rfl)) de_str) (ds_one (ds_ret (de_some fun c hc => (de_methK I (OT.clsP_Hoist c hc) (C_Hoist_come c hc) (hr.mono (by decide)) gd (takes_of rfl rfl rfl rfl) (dv 0) (da_cons (de_ix (dv 1) de_int (fun _ _ => rfl)) da_nil))))) ds_nil)
    (ds_cons (ds_if (dt_cmp (op_eqA hu) ok_eq (de_ix (dv 1) de_int (fun _ _ => rfl)) de_str) (ds_one (ds_ret (de_some fun c hc => (de_methK I (OT.clsP_Hoist c hc) (C_Hoist_leave c hc) (hr.mono (by decide)) gd (takes_of rfl rfl rfl rfl) (dv 0) (da_cons (de_ix (dv 1) de_int (fun _ _ => rfl)) da_nil))))) ds_nil)
    (ds_cons (ds_if (dt_cmp (op_eqA hu) ok_eq (de_ix (dv 1) de_int (fun _ _ => rfl)) de_str) (ds_one (ds_ret (de_some fun c hc => (de_methK I (OT.clsP_Hoist c hc) (C_Hoist_weigh c hc) (hr.mono (by decide)) gd (takes_of rfl rfl rfl rfl) (dv 0) (da_cons (de_ix (dv 1) de_int (fun _ _ => rfl)) (da_cons (de_ix (dv 1) de_int (fun _ _ => rfl)) da_nil)))))) ds_nil)
    (ds_one (ds_ret (de_some fun c hc => (de_methK I (OT.clsP_Hoist c hc) (C_Hoist_loosen c hc) (hr.mono (by decide)) gd (takes_of rfl rfl rfl rfl) (dv 0) (da_cons (de_ix (dv 1) de_int (fun _ _ => rfl)) da_nil))))))))

theorem ok__law_done {P : Program} {w : World} {K : PySem.W.Frag} {mg : Str → Option Value} {base : Heap} (T : Txt mg) (D : DefAt K mg "_law_done" (top 53)) (C__law_do : CalX P w K mg base 12 "_law_do" ["table", "edit"] S__law_do) (ek : ErsK K prsK flsK) : CalD P w K mg base 13 "_law_done" ["table", "edit"] S__law_done := by
  refine CalD.mk (T := T__law_done) D sc__law_done (fun _ _ _ _ _ _ us hl => match us, hl with | [_, _], _ => rfl) ar__law_done (fun f cdv A fs s hp e hr gd => ?_) rd__law_done
  have sc := sc__law_done
  have hu := hr.units
  exact (ds_cons (ds_set (i := 2) sc.nd rfl (by first | exact Or.inl rfl | exact Or.inr rfl) de_non)
    (ds_cons (ds_tryK ambN (c := "TooLow") (i := 3) rfl rfl sc.nd rfl (by rfl) (names_cls (by rfl) T.k_TooLow) L2.takes0 ek (fun W RX pn xe I tk pw => (ds_one (ds_set (i := 2) sc.nd rfl (by first | exact Or.inl rfl | exact Or.inr rfl) (de_callK I C__law_do (hr.mono (by decide)) gd tk (by rfl) (da_cons (dv 0) (da_cons (dv 1) da_nil)))))) (fun x a oe d pn hm hz hf => (ds_one (ds_set (i := 2) sc.nd rfl (by first | exact Or.inl rfl | exact Or.inr rfl) (de_lst (da_cons (de_xf (ek.cl _ _ hm) (ek.no _ _ _ hm (by decide)) hz hf (dv 3)) da_nil))))))
    (ds_one (ds_ret (dv 2)))))

theorem ok_Hoist___init__ {P : Program} {w : World} {K : PySem.W.Frag} {mg : Str → Option Value} {base : Heap} (T : Txt mg) (D : MethAt K "Hoist" "__init__" "Hoist.__init__" (memb (top 42) 1)) (C_tower_error : CalD P w K mg base 3 "tower_error" ["value"] S_tower_error) (OT : ObjT P w K mg base) : CalM P w K mg base 4 "Hoist" "__init__" ["self", "tower"] S_Hoist___init__ := by
  refine CalM.mk (T := T_Hoist___init__) D sc_Hoist___init__ (fun _ _ _ _ _ _ us hl => match us, hl with | [_, _], _ => rfl) ar_Hoist___init__ (fun f cdv A fs s hp e RX I hr gd => ?_) rd_Hoist___init__
  have sc := sc_Hoist___init__
  have hu := hr.units
  exact (ds_cons (ds_set (i := 2) sc.nd rfl (by first | exact Or.inl rfl | exact Or.inr rfl) (de_call C_tower_error (hr.mono (by decide)) gd (by rfl) (da_cons (dv 1) da_nil)))
    (ds_cons (ds_if (dt_cmp op_notN ok_notN (dv 2) de_non) (ds_one ds_never) ds_nil)
    (ds_cons (ds_some fun c hc => (ds_fldS (OT.clsP_Hoist c hc) (OT.noP_Hoist__towers c hc) (dv 0) (de_tup (da_cons (dv 1) da_nil))))
    (ds_cons (ds_some fun c hc => (ds_fldS (OT.clsP_Hoist c hc) (OT.noP_Hoist__edits c hc) (dv 0) (de_tup da_nil)))
    (ds_one (ds_some fun c hc => (ds_fldS (OT.clsP_Hoist c hc) (OT.noP_Hoist__watched c hc) (dv 0) de_bl)))))))

theorem ok_Promise___init__ {P : Program} {w : World} {K : PySem.W.Frag} {mg : Str → Option Value} {base : Heap} (T : Txt mg) (D : MethAt K "Promise" "__init__" "Promise.__init__" (memb (top 28) 0)) (C_check_number : CalX P w K mg base 3 "check_number" ["value"] S_check_number) (OT : ObjT P w K mg base) : CalM P w K mg base 4 "Promise" "__init__" ["self", "least"] S_Promise___init__ := by
  refine CalM.mk (T := T_Promise___init__) D sc_Promise___init__ (fun _ _ _ _ _ _ us hl => match us, hl with | [_, _], _ => rfl) ar_Promise___init__ (fun f cdv A fs s hp e RX I hr gd => ?_) rd_Promise___init__
  have sc := sc_Promise___init__
  have hu := hr.units
  exact (ds_cons (ds_expr (de_callK I C_check_number (hr.mono (by decide)) gd (takes_of rfl rfl rfl rfl) (by rfl) (da_cons (dv 1) da_nil)))
    (ds_one (ds_some fun c hc => (ds_fldS (OT.clsP_Promise c hc) (OT.noP_Promise__least c hc) (dv 0) (dv 1)))))

theorem ok_PromisedHoist___init__ {P : Program} {w : World} {K : PySem.W.Frag} {mg : Str → Option Value} {base : Heap} (T : Txt mg) (D : MethAt K "PromisedHoist" "__init__" "PromisedHoist.__init__" (memb (top 43) 0)) (C_Hoist___init__ : CalM P w K mg base 4 "Hoist" "__init__" ["self", "tower"] S_Hoist___init__) (C_Promise___init__ : CalM P w K mg base 4 "Promise" "__init__" ["self", "least"] S_Promise___init__) (C_PromisedHoist__check_tower : CalM P w K mg base 6 "PromisedHoist" "_check_tower" ["self", "tower"] S_PromisedHoist__check_tower) (OT : ObjT P w K mg base) : CalM P w K mg base 8 "PromisedHoist" "__init__" ["self", "tower", "least"] S_PromisedHoist___init__ := by
  refine CalM.mk (T := T_PromisedHoist___init__) D sc_PromisedHoist___init__ (fun _ _ _ _ _ _ us hl => match us, hl with | [_, _, _], _ => rfl) ar_PromisedHoist___init__ (fun f cdv A fs s hp e RX I hr gd => ?_) rd_PromisedHoist___init__
  have sc := sc_PromisedHoist___init__
  have hu := hr.units
  exact (ds_cons (ds_expr (de_clsMK I OT.clsf_Hoist___init__ C_Hoist___init__ (hr.mono (by decide)) gd (takes_of rfl rfl rfl rfl) (de_cls (by rfl) T.k_Hoist) (da_cons (dv 0) (da_cons (dv 1) da_nil))))
    (ds_cons (ds_expr (de_clsMK I OT.clsf_Promise___init__ C_Promise___init__ (hr.mono (by decide)) gd (takes_of rfl rfl rfl rfl) (de_cls (by rfl) T.k_Promise) (da_cons (dv 0) (da_cons (dv 2) da_nil))))
    (ds_one (ds_expr (de_methK I OT.cls_PromisedHoist C_PromisedHoist__check_tower (hr.mono (by decide)) gd (takes_of rfl rfl rfl rfl) (dv 0) (da_cons (dv 1) da_nil))))))

theorem ok__law_refused {P : Program} {w : World} {K : PySem.W.Frag} {mg : Str → Option Value} {base : Heap} (T : Txt mg) (D : DefAt K mg "_law_refused" (top 54)) (C_PromisedHoist___init__ : CalM P w K mg base 8 "PromisedHoist" "__init__" ["self", "tower", "least"] S_PromisedHoist___init__) (OT : ObjT P w K mg base) (ek : ErsK K prsK flsK) : CalD P w K mg base 11 "_law_refused" ["tower", "least"] S__law_refused := by
  refine CalD.mk (T := T__law_refused) D sc__law_refused (fun _ _ _ _ _ _ us hl => match us, hl with | [_, _], _ => rfl) ar__law_refused (fun f cdv A fs s hp e hr gd => ?_) rd__law_refused
  have sc := sc__law_refused
  have hu := hr.units
  exact (ds_cons (ds_set (i := 2) sc.nd rfl (by first | exact Or.inl rfl | exact Or.inr rfl) de_non)
    (ds_cons (ds_tryK ambN (c := "TooLow") (i := 3) rfl rfl sc.nd rfl (by rfl) (names_cls (by rfl) T.k_TooLow) L2.takes0 ek (fun W RX pn xe I tk pw => (ds_one (ds_set (i := 2) sc.nd rfl (by first | exact Or.inl rfl | exact Or.inr rfl) (de_sl (de_lst (da_cons (de_makeOK I OT.mk_PromisedHoist C_PromisedHoist___init__ (hr.mono (by decide)) gd tk (by rfl) (da_cons (dv 0) (da_cons (dv 1) da_nil))) da_nil)) do_none (do_some de_int))))) (fun x a oe d pn hm hz hf => (ds_one (ds_set (i := 2) sc.nd rfl (by first | exact Or.inl rfl | exact Or.inr rfl) (de_xf (ek.cl _ _ hm) (ek.no _ _ _ hm (by decide)) hz hf (dv 3))))))
    (ds_one (ds_ret (de_if (dt_cmp (op_eqA hu) ok_eq (dv 2) (de_lst da_nil)) de_non (dv 2))))))

theorem ok_Hoist_reach {c : Str} {P : Program} {w : World} {K : PySem.W.Frag} {mg : Str → Option Value} {base : Heap} (T : Txt mg) (D : PropAt K c "reach" "Hoist.reach" (memb (top 42) 3)) (C_reach_weight : CalD P w K mg base 4 "reach_weight" ["tower"] S_reach_weight) (OT : ObjT P w K mg base) : CalP P w K mg base 5 c "reach" S_Hoist_reach := by
  refine CalP.mk (T := T_Hoist_reach) D sc_Hoist_reach (fun _ _ _ _ _ _ us hl => match us, hl with | [_], _ => rfl) ar_Hoist_reach (fun f cdv A fs s hp e RX I hr gd => ?_) rd_Hoist_reach
  have sc := sc_Hoist_reach
  have hu := hr.units
  exact (ds_one (ds_ret (de_call C_reach_weight (hr.mono (by decide)) gd (by rfl) (da_cons (de_ix (de_some fun c hc => (de_fld (OT.clsP_Hoist c hc) (OT.noP_Hoist__towers c hc) (dv 0))) (de_un un_neg ok_neg de_int) (fun _ _ => rfl)) da_nil))))

theorem ok_Hoist___str__ {c : Str} {P : Program} {w : World} {K : PySem.W.Frag} {mg : Str → Option Value} {base : Heap} (T : Txt mg) (D : MethAt K c "__str__" "Hoist.__str__" (memb (top 42) 17)) (C_Hoist_reach : (∀ c ∈ CS_Hoist, CalP P w K mg base 5 c "reach" S_Hoist_reach)) (C_Hoist_tower : (∀ c ∈ CS_Hoist, CalP P w K mg base 3 c "tower" S_Hoist_tower)) (OT : ObjT P w K mg base) : CalM P w K mg base 7 c "__str__" ["self"] S_Hoist___str__ := by
  refine CalM.mk (T := T_Hoist___str__) D sc_Hoist___str__ (fun _ _ _ _ _ _ us hl => match us, hl with | [_], _ => rfl) ar_Hoist___str__ (fun f cdv A fs s hp e RX I hr gd => ?_) rd_Hoist___str__
  have sc := sc_Hoist___str__
  have hu := hr.units
  exact (ds_one (ds_ret (de_joined (DJ.cons (de_fmt (de_callB call_len ok_len (by rfl) T.b_len (by decide +kernel) (da_cons (de_ix (de_some fun c hc => (de_propK I (OT.clsP_Hoist c hc) (C_Hoist_tower c hc) (hr.mono (by decide)) gd (dv 0))) de_int (fun _ _ => rfl)) da_nil))) (DJ.cons de_str (DJ.cons (de_fmt (de_ix (de_some fun c hc => (de_propK I (OT.clsP_Hoist c hc) (C_Hoist_tower c hc) (hr.mono (by decide)) gd (dv 0))) de_int (fun _ _ => rfl))) (DJ.cons de_str (DJ.cons (de_fmt (de_some fun c hc => (de_propK I (OT.clsP_Hoist c hc) (C_Hoist_reach c hc) (hr.mono (by decide)) gd (dv 0)))) (DJ.cons de_str (DJ.cons (de_fmt (de_callB call_len ok_len (by rfl) T.b_len (by decide +kernel) (da_cons (de_some fun c hc => (de_fld (OT.clsP_Hoist c hc) (OT.noP_Hoist__edits c hc) (dv 0))) da_nil))) (DJ.cons de_str DJ.nil)))))))))))

theorem ok_Hoist_edits {c : Str} {P : Program} {w : World} {K : PySem.W.Frag} {mg : Str → Option Value} {base : Heap} (T : Txt mg) (D : MethAt K c "edits" "Hoist.edits" (memb (top 42) 14)) (OT : ObjT P w K mg base) : CalM P w K mg base 3 c "edits" ["self"] S_Hoist_edits := by
  refine CalM.mk (T := T_Hoist_edits) D sc_Hoist_edits (fun _ _ _ _ _ _ us hl => match us, hl with | [_], _ => rfl) ar_Hoist_edits (fun f cdv A fs s hp e RX I hr gd => ?_) rd_Hoist_edits
  have sc := sc_Hoist_edits
  have hu := hr.units
  exact (ds_one (ds_ret (de_some fun c hc => (de_fld (OT.clsP_Hoist c hc) (OT.noP_Hoist__edits c hc) (dv 0)))))

theorem ok_Hoist_is_free {c : Str} {P : Program} {w : World} {K : PySem.W.Frag} {mg : Str → Option Value} {base : Heap} (T : Txt mg) (D : PropAt K c "is_free" "Hoist.is_free" (memb (top 42) 4)) (C_stuck_person : CalD P w K mg base 3 "stuck_person" ["tower"] S_stuck_person) (OT : ObjT P w K mg base) : CalP P w K mg base 4 c "is_free" S_Hoist_is_free := by
  refine CalP.mk (T := T_Hoist_is_free) D sc_Hoist_is_free (fun _ _ _ _ _ _ us hl => match us, hl with | [_], _ => rfl) ar_Hoist_is_free (fun f cdv A fs s hp e RX I hr gd => ?_) rd_Hoist_is_free
  have sc := sc_Hoist_is_free
  have hu := hr.units
  exact (ds_one (ds_ret (de_cmp op_isN ok_isN (de_call C_stuck_person (hr.mono (by decide)) gd (by rfl) (da_cons (de_ix (de_some fun c hc => (de_fld (OT.clsP_Hoist c hc) (OT.noP_Hoist__towers c hc) (dv 0))) (de_un un_neg ok_neg de_int) (fun _ _ => rfl)) da_nil)) de_non)))

theorem ok_Hoist_state {c : Str} {P : Program} {w : World} {K : PySem.W.Frag} {mg : Str → Option Value} {base : Heap} (T : Txt mg) (D : MethN K c "state" "Hoist.state" (memb (top 42) 11) "version") (C_Hoist_tower : (∀ c ∈ CS_Hoist, CalP P w K mg base 3 c "tower" S_Hoist_tower)) (C_is_number_between : CalD P w K mg base 1 "is_number_between" ["value", "low", "high"] S_is_number_between) (OT : ObjT P w K mg base) (X_NoVersion : ErrL P w K mg base 1 "NoVersion" "value") : CalN2 P w K mg base 5 c "state" ["self"] "version" S_Hoist_state := by
  refine CalN2.mk (ps := ["self"]) (T := T_Hoist_state) D sc_Hoist_state (fun _ _ _ _ _ _ us ks h1 h2 => match us, ks, h1, h2 with | [_], [_], _, _ => ⟨_, _, _, _, _, _, rfl, rfl, rfl⟩) (fun _ _ _ _ _ _ us v h1 => match us, h1 with | [_], _ => rfl) ar_Hoist_state (fun f cdv A fs s hp e RX I hr gd => ?_) rd_Hoist_state
  have sc := sc_Hoist_state
  have hu := hr.units
  exact (ds_cons (ds_if (dt_cmp op_isN ok_isN (dv 1) de_non) (ds_one (ds_ret (de_some fun c hc => (de_propK I (OT.clsP_Hoist c hc) (C_Hoist_tower c hc) (hr.mono (by decide)) gd (dv 0))))) ds_nil)
    (ds_cons (ds_if (dt_not (dt_val (de_call C_is_number_between (hr.mono (by decide)) gd (by rfl) (da_cons (dv 1) (da_cons de_int (da_cons (de_callB call_len ok_len (by rfl) T.b_len (by decide +kernel) (da_cons (de_some fun c hc => (de_fld (OT.clsP_Hoist c hc) (OT.noP_Hoist__edits c hc) (dv 0))) da_nil)) da_nil)))))) (ds_one (ds_raiseL I rfl (takes_of rfl rfl rfl rfl) X_NoVersion (hr.mono (by decide)) (by rfl) (dv 1))) ds_nil)
    (ds_one (ds_ret (de_ix (de_some fun c hc => (de_fld (OT.clsP_Hoist c hc) (OT.noP_Hoist__towers c hc) (dv 0))) (dv 1) (fun _ _ => rfl))))))

theorem ok_Hoist_walk {c : Str} {P : Program} {w : World} {K : PySem.W.Frag} {mg : Str → Option Value} {base : Heap} (T : Txt mg) (D : MethN K c "walk" "Hoist.walk" (memb (top 42) 13) "version") (C_Hoist_state : (∀ c ∈ CS_Hoist, CalN2 P w K mg base 5 c "state" ["self"] "version" S_Hoist_state)) (C_people_by_weight : CalD P w K mg base 2 "people_by_weight" ["tower"] S_people_by_weight) (C_room_of : CalD P w K mg base 2 "room_of" ["tower", "person"] S_room_of) (OT : ObjT P w K mg base) : CalG P w K mg base 7 c "walk" ["self"] "version" S_Hoist_walk := by
  refine CalG.mk (ps := ["self"]) (T := T_Hoist_walk) D sc_Hoist_walk (fun _ _ _ _ _ _ us ks h1 h2 => match us, ks, h1, h2 with | [_], [_], _, _ => ⟨_, _, _, _, _, _, rfl, rfl, rfl⟩) (fun _ _ _ _ _ _ us v h1 => match us, h1 with | [_], _ => rfl) ar_Hoist_walk (fun f cdv A fs s hp e pn hr gd => ?_) rd_Hoist_walk
  letI : Amb := amb0
  have sc := sc_Hoist_walk
  have hu := hr.units
  exact (dys_cons (dy_plain (ds_set (i := 2) sc.nd rfl (by first | exact Or.inl rfl | exact Or.inr rfl) (de_some fun c hc => (de_methKw0K ambN (OT.clsP_Hoist c hc) (C_Hoist_state c hc) (hr.mono (by decide)) gd L2.takes0 (dv 0) (dv 1)))))
    (dys_one (dy_for owns_gcx rfl (di_seq (de_call C_people_by_weight (hr.mono (by decide)) gd (by rfl) (da_cons (dv 2) da_nil))) (dg_name (i := 3) sc.nd rfl (by first | exact Or.inl rfl | exact Or.inr rfl)) (dys_one (dy_yield (de_tup (da_cons (dv 3) (da_cons (de_call C_room_of (hr.mono (by decide)) gd (by rfl) (da_cons (dv 2) (da_cons (dv 3) da_nil))) da_nil))))))))

theorem ok__law_shown {P : Program} {w : World} {K : PySem.W.Frag} {mg : Str → Option Value} {base : Heap} (T : Txt mg) (D : DefAt K mg "_law_shown" (top 55)) (C_Hoist___str__ : (∀ c ∈ CS_Hoist, CalM P w K mg base 7 c "__str__" ["self"] S_Hoist___str__)) (C_Hoist_edits : (∀ c ∈ CS_Hoist, CalM P w K mg base 3 c "edits" ["self"] S_Hoist_edits)) (C_Hoist_is_free : (∀ c ∈ CS_Hoist, CalP P w K mg base 4 c "is_free" S_Hoist_is_free)) (C_Hoist_reach : (∀ c ∈ CS_Hoist, CalP P w K mg base 5 c "reach" S_Hoist_reach)) (C_Hoist_state : (∀ c ∈ CS_Hoist, CalN2 P w K mg base 5 c "state" ["self"] "version" S_Hoist_state)) (C_Hoist_walk : (∀ c ∈ CS_Hoist, CalG P w K mg base 7 c "walk" ["self"] "version" S_Hoist_walk)) (OT : ObjT P w K mg base) : CalD P w K mg base 12 "_law_shown" ["table"] S__law_shown := by
  refine CalD.mk (T := T__law_shown) D sc__law_shown (fun _ _ _ _ _ _ us hl => match us, hl with | [_], _ => rfl) ar__law_shown (fun f cdv A fs s hp e hr gd => ?_) rd__law_shown
  have sc := sc__law_shown
  have hu := hr.units
  exact (ds_one (ds_ret (de_callB (call_reprD hu gd) ok_repr (by rfl) T.b_repr (by decide +kernel) (da_cons (de_lst (da_cons (de_some fun c hc => (de_methNK ambN (OT.clsP_Hoist c hc) (C_Hoist_state c hc).n (hr.mono (by decide)) gd L2.takes0 (dv 0))) (da_cons (de_some fun c hc => (de_propK ambN (OT.clsP_Hoist c hc) (C_Hoist_reach c hc) (hr.mono (by decide)) gd (dv 0))) (da_cons (de_some fun c hc => (de_propK ambN (OT.clsP_Hoist c hc) (C_Hoist_is_free c hc) (hr.mono (by decide)) gd (dv 0))) (da_cons (de_some fun c hc => (de_meth0K ambN (OT.clsP_Hoist c hc) (C_Hoist_edits c hc) (hr.mono (by decide)) gd L2.takes0 (dv 0))) (da_cons (de_some fun c hc => (de_callTy (call_strMC (C_Hoist___str__ c hc) (hr.mono (by decide)) gd) ok_strM (by rfl) T.b_str (by decide +kernel) (da_cons (dv 0) da_nil))) (da_cons (de_some fun c hc => (de_listG0K (OT.clsP_Hoist c hc) (C_Hoist_walk c hc) (hr.mono (by decide)) gd (by rfl) T.b_list (dv 0))) da_nil))))))) da_nil))))

theorem ok_Hoist___eq__ {c : Str} {P : Program} {w : World} {K : PySem.W.Frag} {mg : Str → Option Value} {base : Heap} (T : Txt mg) (D : MethAt K c "__eq__" "Hoist.__eq__" (memb (top 42) 18)) (C_likeness : CalD P w K mg base 5 "likeness" ["hoist"] S_likeness) (OT : ObjT P w K mg base) : CalM P w K mg base 6 c "__eq__" ["self", "other"] S_Hoist___eq__ := by
  refine CalM.mk (T := T_Hoist___eq__) D sc_Hoist___eq__ (fun _ _ _ _ _ _ us hl => match us, hl with | [_, _], _ => rfl) ar_Hoist___eq__ (fun f cdv A fs s hp e RX I hr gd => ?_) rd_Hoist___eq__
  have sc := sc_Hoist___eq__
  have hu := hr.units
  exact (ds_cons (ds_if (dt_not (dt_val (de_callB call_isi (ok_isK OT.isF_Hoist (by decide) OT.kitF_Hoist_Hoist) (by rfl) T.b_isinstance (by decide +kernel) (da_cons (dv 1) (da_cons (de_cls (by rfl) T.k_Hoist) da_nil))))) (ds_one (ds_ret de_bl)) ds_nil)
    (ds_one (ds_ret (de_cmp (op_eqA hu) ok_eq (de_call C_likeness (hr.mono (by decide)) gd (by rfl) (da_cons (dv 0) da_nil)) (de_call C_likeness (hr.mono (by decide)) gd (by rfl) (da_cons (dv 1) da_nil))))))

theorem ok_Hoist___len__ {c : Str} {P : Program} {w : World} {K : PySem.W.Frag} {mg : Str → Option Value} {base : Heap} (T : Txt mg) (D : MethAt K c "__len__" "Hoist.__len__" (memb (top 42) 16)) (OT : ObjT P w K mg base) : CalM P w K mg base 3 c "__len__" ["self"] S_Hoist___len__ := by
  refine CalM.mk (T := T_Hoist___len__) D sc_Hoist___len__ (fun _ _ _ _ _ _ us hl => match us, hl with | [_], _ => rfl) ar_Hoist___len__ (fun f cdv A fs s hp e RX I hr gd => ?_) rd_Hoist___len__
  have sc := sc_Hoist___len__
  have hu := hr.units
  exact (ds_one (ds_ret (de_callB call_len ok_len (by rfl) T.b_len (by decide +kernel) (da_cons (de_some fun c hc => (de_fld (OT.clsP_Hoist c hc) (OT.noP_Hoist__edits c hc) (dv 0))) da_nil))))

theorem ok_Hoist_undo {c : Str} {P : Program} {w : World} {K : PySem.W.Frag} {mg : Str → Option Value} {base : Heap} (T : Txt mg) (D : MethAt K c "undo" "Hoist.undo" (memb (top 42) 9)) (C_Hoist__check_idle : (∀ c ∈ CS_Hoist, CalM P w K mg base 3 c "_check_idle" ["self"] S_Hoist__check_idle)) (OT : ObjT P w K mg base) : CalM P w K mg base 5 c "undo" ["self"] S_Hoist_undo := by
  refine CalM.mk (T := T_Hoist_undo) D sc_Hoist_undo (fun _ _ _ _ _ _ us hl => match us, hl with | [_], _ => rfl) ar_Hoist_undo (fun f cdv A fs s hp e RX I hr gd => ?_) rd_Hoist_undo
  have sc := sc_Hoist_undo
  have hu := hr.units
  exact (ds_cons (ds_expr (de_some fun c hc => (de_meth0K I (OT.clsP_Hoist c hc) (C_Hoist__check_idle c hc) (hr.mono (by decide)) gd (takes_of rfl rfl rfl rfl) (dv 0))))
    (ds_cons (ds_if (dt_cmp (op_eqA hu) ok_eq (de_callB call_len ok_len (by rfl) T.b_len (by decide +kernel) (da_cons (de_some fun c hc => (de_fld (OT.clsP_Hoist c hc) (OT.noP_Hoist__edits c hc) (dv 0))) da_nil)) de_int) (ds_one ds_never) ds_nil)
    (ds_cons (ds_some fun c hc => (ds_fldS (OT.clsP_Hoist c hc) (OT.noP_Hoist__towers c hc) (dv 0) (de_sl (de_some fun c hc => (de_fld (OT.clsP_Hoist c hc) (OT.noP_Hoist__towers c hc) (dv 0))) do_none (do_some (de_un un_neg ok_neg de_int)))))
    (ds_cons (ds_some fun c hc => (ds_fldS (OT.clsP_Hoist c hc) (OT.noP_Hoist__edits c hc) (dv 0) (de_sl (de_some fun c hc => (de_fld (OT.clsP_Hoist c hc) (OT.noP_Hoist__edits c hc) (dv 0))) do_none (do_some (de_un un_neg ok_neg de_int)))))
    (ds_one (ds_ret (de_callB call_len ok_len (by rfl) T.b_len (by decide +kernel) (da_cons (de_some fun c hc => (de_fld (OT.clsP_Hoist c hc) (OT.noP_Hoist__edits c hc) (dv 0))) da_nil))))))))

theorem ok_law {P : Program} {w : World} {K : PySem.W.Frag} {mg : Str → Option Value} {base : Heap} (T : Txt mg) (D : DefAt K mg "law" (top 56)) (C_Hoist___eq__ : (∀ c ∈ CS_Hoist, CalM P w K mg base 6 c "__eq__" ["self", "other"] S_Hoist___eq__)) (C_Hoist___init__ : CalM P w K mg base 4 "Hoist" "__init__" ["self", "tower"] S_Hoist___init__) (C_Hoist___len__ : (∀ c ∈ CS_Hoist, CalM P w K mg base 3 c "__len__" ["self"] S_Hoist___len__)) (C_Hoist_reach : (∀ c ∈ CS_Hoist, CalP P w K mg base 5 c "reach" S_Hoist_reach)) (C_Hoist_undo : (∀ c ∈ CS_Hoist, CalM P w K mg base 5 c "undo" ["self"] S_Hoist_undo)) (C_PromisedHoist___init__ : CalM P w K mg base 8 "PromisedHoist" "__init__" ["self", "tower", "least"] S_PromisedHoist___init__) (C__law_after : CalD P w K mg base 1 "_law_after" ["tower", "edit"] S__law_after) (C__law_deck : CalD P w K mg base 1 "_law_deck" ["script"] S__law_deck) (C__law_do : CalX P w K mg base 12 "_law_do" ["table", "edit"] S__law_do) (C__law_done : CalD P w K mg base 13 "_law_done" ["table", "edit"] S__law_done) (C__law_draw : CalD P w K mg base 1 "_law_draw" ["deck", "many"] S__law_draw) (C__law_edit : CalD P w K mg base 3 "_law_edit" ["deck", "tower"] S__law_edit) (C__law_refused : CalD P w K mg base 11 "_law_refused" ["tower", "least"] S__law_refused) (C__law_shown : CalD P w K mg base 12 "_law_shown" ["table"] S__law_shown) (C__law_tower : CalD P w K mg base 3 "_law_tower" ["deck", "most"] S__law_tower) (C_reach_weight : CalD P w K mg base 4 "reach_weight" ["tower"] S_reach_weight) (OT : ObjT P w K mg base) : CalD P w K mg base 14 "law" ["script"] S_law := by
  refine CalD.mk (T := T_law) D sc_law (fun _ _ _ _ _ _ us hl => match us, hl with | [_], _ => rfl) ar_law (fun f cdv A fs s hp e hr gd => ?_) rd_law
  have sc := sc_law
  have hu := hr.units
  exact (ds_cons (ds_set (i := 1) sc.nd rfl (by first | exact Or.inl rfl | exact Or.inr rfl) (de_call C__law_deck (hr.mono (by decide)) gd (by rfl) (da_cons (dv 0) da_nil)))
    (ds_cons (ds_set (i := 2) sc.nd rfl (by first | exact Or.inl rfl | exact Or.inr rfl) (de_call C__law_tower (hr.mono (by decide)) gd (by rfl) (da_cons (dv 1) (da_cons de_int da_nil))))
    (ds_cons (ds_set (i := 3) sc.nd rfl (by first | exact Or.inl rfl | exact Or.inr rfl) (de_call C_reach_weight (hr.mono (by decide)) gd (by rfl) (da_cons (dv 2) da_nil)))
    (ds_cons (ds_if (dt_bool (dw_or (dt_cmp op_notN ok_notN (de_call C__law_refused (hr.mono (by decide)) gd (by rfl) (da_cons (dv 2) (da_cons (dv 3) da_nil))) de_non) (dw_or1 (dt_cmp (op_neA hu) ok_ne (de_call C__law_refused (hr.mono (by decide)) gd (by rfl) (da_cons (dv 2) (da_cons (de_op op_addA ok_add (dv 3) de_int) da_nil))) (dv 3))))) (ds_one (ds_ret de_bl)) ds_nil)
    (ds_cons (ds_set (i := 4) sc.nd rfl (by first | exact Or.inl rfl | exact Or.inr rfl) (de_callB (call_max2 rfl) ok_ii (by rfl) T.b_max (by decide +kernel) (da_cons de_int (da_cons (de_op op_sub ok_i0 (dv 3) (de_call C__law_draw (hr.mono (by decide)) gd (by rfl) (da_cons (dv 1) (da_cons de_int da_nil)))) da_nil))))
    (ds_cons (ds_par (i := 5) (j := 6) rfl sc.nd rfl rfl (by decide) rfl rfl (da_cons (de_makeOK ambN OT.mk_PromisedHoist C_PromisedHoist___init__ (hr.mono (by decide)) gd L2.takes0 (by rfl) (da_cons (dv 2) (da_cons (dv 4) da_nil))) (da_cons (de_makeOK ambN OT.mk_Hoist C_Hoist___init__ (hr.mono (by decide)) gd L2.takes0 (by rfl) (da_cons (dv 2) da_nil)) da_nil)) (by rfl))
    (ds_cons (ds_for PassesOwn.never rfl (di_rng1 (by rfl) T.b_range (da_cons (de_op op_addA ok_add de_int (de_call C__law_draw (hr.mono (by decide)) gd (by rfl) (da_cons (dv 1) (da_cons de_int da_nil)))) da_nil)) (dg_name (i := 7) sc.nd rfl (by first | exact Or.inl rfl | exact Or.inr rfl)) (ds_cons (ds_set (i := 8) sc.nd rfl (by first | exact Or.inl rfl | exact Or.inr rfl) (de_call C__law_edit (hr.mono (by decide)) gd (by rfl) (da_cons (dv 1) (da_cons (dv 2) da_nil))))
    (ds_cons (ds_if (dt_cmp (op_neA hu) ok_ne (de_callK ambN C__law_do (hr.mono (by decide)) gd L2.takes0 (by rfl) (da_cons (dv 6) (da_cons (dv 8) da_nil))) (de_some fun c hc => (de_callB (call_lenMC (C_Hoist___len__ c hc) (hr.mono (by decide)) gd) ok_lenM (by rfl) T.b_len (by decide +kernel) (da_cons (dv 6) da_nil)))) (ds_one (ds_ret de_bl)) ds_nil)
    (ds_cons (ds_set (i := 9) sc.nd rfl (by first | exact Or.inl rfl | exact Or.inr rfl) (de_if (dt_cmp op_ge ok_b0 (de_some fun c hc => (de_propK ambN (OT.clsP_Hoist c hc) (C_Hoist_reach c hc) (hr.mono (by decide)) gd (dv 6))) (dv 4)) (de_some fun c hc => (de_callB (call_lenMC (C_Hoist___len__ c hc) (hr.mono (by decide)) gd) ok_lenM (by rfl) T.b_len (by decide +kernel) (da_cons (dv 6) da_nil))) (de_lst (da_cons (de_some fun c hc => (de_propK ambN (OT.clsP_Hoist c hc) (C_Hoist_reach c hc) (hr.mono (by decide)) gd (dv 6))) da_nil))))
    (ds_cons (ds_set (i := 10) sc.nd rfl (by first | exact Or.inl rfl | exact Or.inr rfl) (de_or (de_cmp (op_eqA hu) ok_eq (de_ix (dv 8) de_int (fun _ _ => rfl)) de_str) (de_one (de_and (de_cmp (op_eqA hu) ok_eq (de_ix (dv 8) de_int (fun _ _ => rfl)) de_str) (de_one (de_cmp op_ge ok_b0 (de_ix (dv 8) de_int (fun _ _ => rfl)) (de_ix (dv 2) de_int (fun _ _ => rfl))))))))
    (ds_cons (ds_if (dt_bool (dw_or (dt_cmp (op_neA hu) ok_ne (de_callB (call_reprD hu gd) ok_repr (by rfl) T.b_repr (by decide +kernel) (da_cons (de_call C__law_done (hr.mono (by decide)) gd (by rfl) (da_cons (dv 5) (da_cons (dv 8) da_nil))) da_nil)) (de_callB (call_reprD hu gd) ok_repr (by rfl) T.b_repr (by decide +kernel) (da_cons (dv 9) da_nil))) (dw_or1 (dt_bool (dw_and (dt_val (de_callB call_isi ok_isi (by rfl) T.b_isinstance (by decide +kernel) (da_cons (dv 9) (da_cons (de_bltn (v := .ty "list") (by rfl) T.b_list (by decide +kernel) rfl) da_nil)))) (dw_and1 (dt_val (dv 10)))))))) (ds_one (ds_ret de_bl)) ds_nil)
    (ds_cons (ds_if (dt_val (de_callB call_isi ok_isi (by rfl) T.b_isinstance (by decide +kernel) (da_cons (dv 9) (da_cons (de_bltn (v := .ty "list") (by rfl) T.b_list (by decide +kernel) rfl) da_nil)))) (ds_one (ds_if (dt_cmp (op_neA hu) ok_ne (de_some fun c hc => (de_meth0K ambN (OT.clsP_Hoist c hc) (C_Hoist_undo c hc) (hr.mono (by decide)) gd L2.takes0 (dv 6))) (de_some fun c hc => (de_callB (call_lenMC (C_Hoist___len__ c hc) (hr.mono (by decide)) gd) ok_lenM (by rfl) T.b_len (by decide +kernel) (da_cons (dv 5) da_nil)))) (ds_one (ds_ret de_bl)) ds_nil)) (ds_one (ds_set (i := 2) sc.nd rfl (by first | exact Or.inl rfl | exact Or.inr rfl) (de_call C__law_after (hr.mono (by decide)) gd (by rfl) (da_cons (dv 2) (da_cons (dv 8) da_nil))))))
    (ds_one (ds_if (dt_bool (dw_or (dt_cmp (op_neA hu) ok_ne (de_call C__law_shown (hr.mono (by decide)) gd (by rfl) (da_cons (dv 5) da_nil)) (de_call C__law_shown (hr.mono (by decide)) gd (by rfl) (da_cons (dv 6) da_nil))) (dw_or (dt_cmp (op_eqXC (CalM.fam (C_Hoist___eq__ "Hoist" (List.mem_cons_self ..)) OT.eqF_Hoist.1 OT.eqF_Hoist.2) (hr.mono (by decide)) gd hu) ok_eqX (dv 5) (dv 6)) (dw_or (dt_cmp (op_eqXC (CalM.fam (C_Hoist___eq__ "Hoist" (List.mem_cons_self ..)) OT.eqF_Hoist.1 OT.eqF_Hoist.2) (hr.mono (by decide)) gd hu) ok_eqX (dv 6) (dv 5)) (dw_or1 (dt_cmp (op_neA hu) ok_ne (de_some fun c hc => (de_propF (OT.clsP_Promise c hc) (OT.getP_Promise_least c hc) (hr.mono (by decide)) (dv 5))) (dv 4))))))) (ds_one (ds_ret de_bl)) ds_nil)))))))))
    (ds_cons (ds_for PassesOwn.never rfl (di_rng1 (by rfl) T.b_range (da_cons (de_some fun c hc => (de_callB (call_lenMC (C_Hoist___len__ c hc) (hr.mono (by decide)) gd) ok_lenM (by rfl) T.b_len (by decide +kernel) (da_cons (dv 5) da_nil))) da_nil)) (dg_name (i := 7) sc.nd rfl (by first | exact Or.inl rfl | exact Or.inr rfl)) (ds_one (ds_if (dt_bool (dw_or (dt_cmp (op_neA hu) ok_ne (de_some fun c hc => (de_meth0K ambN (OT.clsP_Hoist c hc) (C_Hoist_undo c hc) (hr.mono (by decide)) gd L2.takes0 (dv 5))) (de_some fun c hc => (de_meth0K ambN (OT.clsP_Hoist c hc) (C_Hoist_undo c hc) (hr.mono (by decide)) gd L2.takes0 (dv 6)))) (dw_or1 (dt_cmp (op_neA hu) ok_ne (de_call C__law_shown (hr.mono (by decide)) gd (by rfl) (da_cons (dv 5) da_nil)) (de_call C__law_shown (hr.mono (by decide)) gd (by rfl) (da_cons (dv 6) da_nil)))))) (ds_one (ds_ret de_bl)) ds_nil)))
    (ds_one (ds_ret de_bl))))))))))

theorem all_ok {P : Program} {w : World} {K : PySem.W.Frag} {mg : Str → Option Value} {base : Heap} (T : Txt mg) (ek : ErsK K prsK flsK) (X_BadNumber : ErrD P w K mg base 1 "BadNumber" "value") (X_NoVersion : ErrL P w K mg base 1 "NoVersion" "value") (X_TooLow : ErrD P w K mg base 1 "TooLow" "number") (OT : ObjT P w K mg base) (D0 : DefAt K mg "is_number_between" (top 21)) (D1 : DefAt K mg "is_excess" (top 23)) (D2 : DefAt K mg "is_weight" (top 24)) (D3 : DefAt K mg "tower_error" (top 25)) (D4 : DefAt K mg "check_number" (top 27)) (D5 : DefAt K mg "lighter_weight" (top 30)) (D6 : DefAt K mg "room_of" (top 31)) {cc7 : Addr} (B7 : LamX.TabB base mg cc7 (Tbl.P "people_by_weight")) (D7 : DefAtC K mg "people_by_weight" (top 32) cc7) (D8 : DefAt K mg "stuck_person" (top 33)) (D9 : DefAt K mg "reach_weight" (top 34)) (D10 : DefAt K mg "likeness" (top 44)) (D11 : DefAt K mg "_law_deck" (top 46)) (D12 : DefAt K mg "_law_draw" (top 47)) (D13 : DefAt K mg "_law_weight" (top 48)) (D14 : DefAt K mg "_law_tower" (top 49)) (D15 : DefAt K mg "_law_after" (top 50)) (D16 : DefAt K mg "_law_edit" (top 51)) (D17 : DefAt K mg "_law_do" (top 52)) (D18 : DefAt K mg "_law_done" (top 53)) (D19 : DefAt K mg "_law_refused" (top 54)) (D20 : DefAt K mg "_law_shown" (top 55)) (D21 : DefAt K mg "law" (top 56)) (D22 : MethAt K "Hoist" "__init__" "Hoist.__init__" (memb (top 42) 1)) (D23 : ∀ c ∈ CS_Hoist, MethAt K c "come" "Hoist.come" (memb (top 42) 5)) (D24 : ∀ c ∈ CS_Hoist, MethAt K c "leave" "Hoist.leave" (memb (top 42) 6)) (D25 : ∀ c ∈ CS_Hoist, MethAt K c "weigh" "Hoist.weigh" (memb (top 42) 7)) (D26 : ∀ c ∈ CS_Hoist, MethAt K c "loosen" "Hoist.loosen" (memb (top 42) 8)) (D27 : ∀ c ∈ CS_Hoist, MethAt K c "_check_idle" "Hoist._check_idle" (memb (top 42) 19)) (D28 : ∀ c ∈ CS_Hoist, MethAt K c "_check_edit" "Hoist._check_edit" (memb (top 42) 20)) (D29 : ∀ c ∈ CS_Hoist, MethAt K c "_check_person" "Hoist._check_person" (memb (top 42) 21)) (D30 : MethAt K "Hoist" "_check_tower" "Hoist._check_tower" (memb (top 42) 22)) (D31 : ∀ c ∈ CS_Hoist, MethAt K c "_keep" "Hoist._keep" (memb (top 42) 23)) (D32 : MethAt K "Promise" "__init__" "Promise.__init__" (memb (top 28) 0)) (D33 : ∀ c ∈ CS_Promise, MethAt K c "beyond" "Promise.beyond" (memb (top 28) 2)) (D34 : MethAt K "PromisedHoist" "__init__" "PromisedHoist.__init__" (memb (top 43) 0)) (D35 : MethAt K "PromisedHoist" "_check_tower" "PromisedHoist._check_tower" (memb (top 43) 1)) (D36 : ∀ c ∈ CS_Hoist, MethAt K c "undo" "Hoist.undo" (memb (top 42) 9)) (D37 : ∀ c ∈ CS_Hoist, MethAt K c "edits" "Hoist.edits" (memb (top 42) 14)) (D38 : ∀ c ∈ CS_Hoist, MethAt K c "__len__" "Hoist.__len__" (memb (top 42) 16)) (D39 : ∀ c ∈ CS_Hoist, MethAt K c "__str__" "Hoist.__str__" (memb (top 42) 17)) (D40 : ∀ c ∈ CS_Hoist, MethAt K c "__eq__" "Hoist.__eq__" (memb (top 42) 18)) (D41 : ∀ c ∈ CS_Hoist, PropAt K c "tower" "Hoist.tower" (memb (top 42) 2)) (D42 : ∀ c ∈ CS_Hoist, PropAt K c "reach" "Hoist.reach" (memb (top 42) 3)) (D43 : ∀ c ∈ CS_Hoist, PropAt K c "is_free" "Hoist.is_free" (memb (top 42) 4)) (D44 : ∀ c ∈ CS_Hoist, MethN K c "state" "Hoist.state" (memb (top 42) 11) "version") (D45 : ∀ c ∈ CS_Hoist, MethN K c "walk" "Hoist.walk" (memb (top 42) 13) "version") : CalD P w K mg base 14 "law" ["script"] S_law := by
  have C_is_number_between := ok_is_number_between (P := P) (w := w) (base := base) T D0
  have C_is_excess := ok_is_excess (P := P) (w := w) (base := base) T D1 C_is_number_between
  have C_is_weight := ok_is_weight (P := P) (w := w) (base := base) T D2 C_is_number_between
  have C_tower_error := ok_tower_error (P := P) (w := w) (base := base) T D3 C_is_excess C_is_weight
  have C_check_number := ok_check_number (P := P) (w := w) (base := base) T D4 C_is_number_between X_BadNumber
  have C_lighter_weight := ok_lighter_weight (P := P) (w := w) (base := base) T D5
  have C_room_of := ok_room_of (P := P) (w := w) (base := base) T D6 C_lighter_weight
  have C_people_by_weight := ok_people_by_weight (P := P) (w := w) (base := base) T B7 D7
  have C_stuck_person := ok_stuck_person (P := P) (w := w) (base := base) T D8 C_people_by_weight C_room_of
  have C_reach_weight := ok_reach_weight (P := P) (w := w) (base := base) T D9 C_lighter_weight C_stuck_person
  have C_Hoist_tower := fun (c : Str) (hc : c ∈ CS_Hoist) => ok_Hoist_tower (P := P) (w := w) (base := base) T (D41 c hc) OT
  have C_likeness := ok_likeness (P := P) (w := w) (base := base) T D10 C_Hoist_tower OT
  have C__law_deck := ok__law_deck (P := P) (w := w) (base := base) T D11
  have C__law_draw := ok__law_draw (P := P) (w := w) (base := base) T D12
  have C__law_weight := ok__law_weight (P := P) (w := w) (base := base) T D13 C__law_draw
  have C__law_tower := ok__law_tower (P := P) (w := w) (base := base) T D14 C__law_draw C__law_weight
  have C__law_after := ok__law_after (P := P) (w := w) (base := base) T D15
  have C__law_edit := ok__law_edit (P := P) (w := w) (base := base) T D16 C__law_draw C__law_weight
  have C_Hoist__check_idle := fun (c : Str) (hc : c ∈ CS_Hoist) => ok_Hoist__check_idle (P := P) (w := w) (base := base) T (D27 c hc) OT
  have C_Hoist__check_edit := fun (c : Str) (hc : c ∈ CS_Hoist) => ok_Hoist__check_edit (P := P) (w := w) (base := base) T (D28 c hc) C_Hoist__check_idle OT
  have C_Hoist__check_tower := ok_Hoist__check_tower (P := P) (w := w) (base := base) T D30
  have C_Promise_beyond := fun (c : Str) (hc : c ∈ CS_Promise) => ok_Promise_beyond (P := P) (w := w) (base := base) T (D33 c hc) C_check_number OT X_TooLow
  have C_PromisedHoist__check_tower := ok_PromisedHoist__check_tower (P := P) (w := w) (base := base) T D35 C_Promise_beyond C_reach_weight OT
  have CO__check_tower : (∀ c ∈ CS_Hoist, CalM P w K mg base 6 c "_check_tower" ["self", "tower"] (SO__check_tower c)) := all2 (by unfold SO__check_tower; rw [if_neg (by decide)]; exact C_Hoist__check_tower.more (by decide)) (by unfold SO__check_tower; rw [if_pos rfl]; exact C_PromisedHoist__check_tower.more (by decide))
  have C_Hoist__keep := fun (c : Str) (hc : c ∈ CS_Hoist) => ok_Hoist__keep (P := P) (w := w) (base := base) T (D31 c hc) C_Hoist__check_tower C_PromisedHoist__check_tower CO__check_tower OT
  have C_Hoist_come := fun (c : Str) (hc : c ∈ CS_Hoist) => ok_Hoist_come (P := P) (w := w) (base := base) T (D23 c hc) C_Hoist__check_edit C_Hoist__keep C_Hoist_tower C_is_weight OT
  have C_Hoist__check_person := fun (c : Str) (hc : c ∈ CS_Hoist) => ok_Hoist__check_person (P := P) (w := w) (base := base) T (D29 c hc) C_Hoist_tower C_is_number_between OT
  have C_Hoist_leave := fun (c : Str) (hc : c ∈ CS_Hoist) => ok_Hoist_leave (P := P) (w := w) (base := base) T (D24 c hc) C_Hoist__check_edit C_Hoist__check_person C_Hoist__keep C_Hoist_tower OT
  have C_Hoist_loosen := fun (c : Str) (hc : c ∈ CS_Hoist) => ok_Hoist_loosen (P := P) (w := w) (base := base) T (D26 c hc) C_Hoist__check_edit C_Hoist__keep C_Hoist_tower C_is_excess OT
  have C_Hoist_weigh := fun (c : Str) (hc : c ∈ CS_Hoist) => ok_Hoist_weigh (P := P) (w := w) (base := base) T (D25 c hc) C_Hoist__check_edit C_Hoist__check_person C_Hoist__keep C_Hoist_tower C_is_weight OT
  have C__law_do := ok__law_do (P := P) (w := w) (base := base) T D17 C_Hoist_come C_Hoist_leave C_Hoist_loosen C_Hoist_weigh OT
  have C__law_done := ok__law_done (P := P) (w := w) (base := base) T D18 C__law_do ek
  have C_Hoist___init__ := ok_Hoist___init__ (P := P) (w := w) (base := base) T D22 C_tower_error OT
  have C_Promise___init__ := ok_Promise___init__ (P := P) (w := w) (base := base) T D32 C_check_number OT
  have C_PromisedHoist___init__ := ok_PromisedHoist___init__ (P := P) (w := w) (base := base) T D34 C_Hoist___init__ C_Promise___init__ C_PromisedHoist__check_tower OT
  have C__law_refused := ok__law_refused (P := P) (w := w) (base := base) T D19 C_PromisedHoist___init__ OT ek
  have C_Hoist_reach := fun (c : Str) (hc : c ∈ CS_Hoist) => ok_Hoist_reach (P := P) (w := w) (base := base) T (D42 c hc) C_reach_weight OT
  have C_Hoist___str__ := fun (c : Str) (hc : c ∈ CS_Hoist) => ok_Hoist___str__ (P := P) (w := w) (base := base) T (D39 c hc) C_Hoist_reach C_Hoist_tower OT
  have C_Hoist_edits := fun (c : Str) (hc : c ∈ CS_Hoist) => ok_Hoist_edits (P := P) (w := w) (base := base) T (D37 c hc) OT
  have C_Hoist_is_free := fun (c : Str) (hc : c ∈ CS_Hoist) => ok_Hoist_is_free (P := P) (w := w) (base := base) T (D43 c hc) C_stuck_person OT
  have C_Hoist_state := fun (c : Str) (hc : c ∈ CS_Hoist) => ok_Hoist_state (P := P) (w := w) (base := base) T (D44 c hc) C_Hoist_tower C_is_number_between OT X_NoVersion
  have C_Hoist_walk := fun (c : Str) (hc : c ∈ CS_Hoist) => ok_Hoist_walk (P := P) (w := w) (base := base) T (D45 c hc) C_Hoist_state C_people_by_weight C_room_of OT
  have C__law_shown := ok__law_shown (P := P) (w := w) (base := base) T D20 C_Hoist___str__ C_Hoist_edits C_Hoist_is_free C_Hoist_reach C_Hoist_state C_Hoist_walk OT
  have C_Hoist___eq__ := fun (c : Str) (hc : c ∈ CS_Hoist) => ok_Hoist___eq__ (P := P) (w := w) (base := base) T (D40 c hc) C_likeness OT
  have C_Hoist___len__ := fun (c : Str) (hc : c ∈ CS_Hoist) => ok_Hoist___len__ (P := P) (w := w) (base := base) T (D38 c hc) OT
  have C_Hoist_undo := fun (c : Str) (hc : c ∈ CS_Hoist) => ok_Hoist_undo (P := P) (w := w) (base := base) T (D36 c hc) C_Hoist__check_idle OT
  have C_law := ok_law (P := P) (w := w) (base := base) T D21 C_Hoist___eq__ C_Hoist___init__ C_Hoist___len__ C_Hoist_reach C_Hoist_undo C_PromisedHoist___init__ C__law_after C__law_deck C__law_do C__law_done C__law_draw C__law_edit C__law_refused C__law_shown C__law_tower C_reach_weight OT
  exact C_law
end K52
namespace K52
open PySem PySem.Spec L2 DL
variable [Tbl]
theorem fin {P : Program} {w : World} {K : PySem.W.Frag} {h : Heap} {mg : Str → Option Value} {fa : Addr} (KX : K.In h) (G : h.Ns mainGlobals mg) (hfa : mg "law" = some (.ref fa))
    {f0 : Addr} {od0 an0 : Option Addr} {sl0 : Array (Option Value)} {oc0 kV0 dc0 pm0 cd0 ct0 : Value} (a0 : PySem.W.nsIn K mainGlobals "is_number_between" = some (some (.ref f0))) (l0 : K.lookup f0 = some ⟨oc0, od0, .func (PySem.W.fnOf "is_number_between" "is_number_between" (defArgs (top 21)) (defBody (top 21)) (defScope (top 21)) .none kV0 dc0 pm0 an0 cd0 ct0), sl0⟩) (c0 : PySem.W.codeIn K cd0 "is_number_between" = true) (k0 : PySem.W.keepIn K (.ref f0) = true)
    {f1 : Addr} {od1 an1 : Option Addr} {sl1 : Array (Option Value)} {oc1 kV1 dc1 pm1 cd1 ct1 : Value} (a1 : PySem.W.nsIn K mainGlobals "is_excess" = some (some (.ref f1))) (l1 : K.lookup f1 = some ⟨oc1, od1, .func (PySem.W.fnOf "is_excess" "is_excess" (defArgs (top 23)) (defBody (top 23)) (defScope (top 23)) .none kV1 dc1 pm1 an1 cd1 ct1), sl1⟩) (c1 : PySem.W.codeIn K cd1 "is_excess" = true) (k1 : PySem.W.keepIn K (.ref f1) = true)
    {f2 : Addr} {od2 an2 : Option Addr} {sl2 : Array (Option Value)} {oc2 kV2 dc2 pm2 cd2 ct2 : Value} (a2 : PySem.W.nsIn K mainGlobals "is_weight" = some (some (.ref f2))) (l2 : K.lookup f2 = some ⟨oc2, od2, .func (PySem.W.fnOf "is_weight" "is_weight" (defArgs (top 24)) (defBody (top 24)) (defScope (top 24)) .none kV2 dc2 pm2 an2 cd2 ct2), sl2⟩) (c2 : PySem.W.codeIn K cd2 "is_weight" = true) (k2 : PySem.W.keepIn K (.ref f2) = true)
    {f3 : Addr} {od3 an3 : Option Addr} {sl3 : Array (Option Value)} {oc3 kV3 dc3 pm3 cd3 ct3 : Value} (a3 : PySem.W.nsIn K mainGlobals "tower_error" = some (some (.ref f3))) (l3 : K.lookup f3 = some ⟨oc3, od3, .func (PySem.W.fnOf "tower_error" "tower_error" (defArgs (top 25)) (defBody (top 25)) (defScope (top 25)) .none kV3 dc3 pm3 an3 cd3 ct3), sl3⟩) (c3 : PySem.W.codeIn K cd3 "tower_error" = true) (k3 : PySem.W.keepIn K (.ref f3) = true)
    {f4 : Addr} {od4 an4 : Option Addr} {sl4 : Array (Option Value)} {oc4 kV4 dc4 pm4 cd4 ct4 : Value} (a4 : PySem.W.nsIn K mainGlobals "check_number" = some (some (.ref f4))) (l4 : K.lookup f4 = some ⟨oc4, od4, .func (PySem.W.fnOf "check_number" "check_number" (defArgs (top 27)) (defBody (top 27)) (defScope (top 27)) .none kV4 dc4 pm4 an4 cd4 ct4), sl4⟩) (c4 : PySem.W.codeIn K cd4 "check_number" = true) (k4 : PySem.W.keepIn K (.ref f4) = true)
    {f5 : Addr} {od5 an5 : Option Addr} {sl5 : Array (Option Value)} {oc5 kV5 dc5 pm5 cd5 ct5 : Value} (a5 : PySem.W.nsIn K mainGlobals "lighter_weight" = some (some (.ref f5))) (l5 : K.lookup f5 = some ⟨oc5, od5, .func (PySem.W.fnOf "lighter_weight" "lighter_weight" (defArgs (top 30)) (defBody (top 30)) (defScope (top 30)) .none kV5 dc5 pm5 an5 cd5 ct5), sl5⟩) (c5 : PySem.W.codeIn K cd5 "lighter_weight" = true) (k5 : PySem.W.keepIn K (.ref f5) = true)
    {f6 : Addr} {od6 an6 : Option Addr} {sl6 : Array (Option Value)} {oc6 kV6 dc6 pm6 cd6 ct6 : Value} (a6 : PySem.W.nsIn K mainGlobals "room_of" = some (some (.ref f6))) (l6 : K.lookup f6 = some ⟨oc6, od6, .func (PySem.W.fnOf "room_of" "room_of" (defArgs (top 31)) (defBody (top 31)) (defScope (top 31)) .none kV6 dc6 pm6 an6 cd6 ct6), sl6⟩) (c6 : PySem.W.codeIn K cd6 "room_of" = true) (k6 : PySem.W.keepIn K (.ref f6) = true)
    {f7 : Addr} {od7 an7 : Option Addr} {sl7 : Array (Option Value)} {oc7 kV7 dc7 pm7 ct7 : Value} {cc7 : Addr} (a7 : PySem.W.nsIn K mainGlobals "people_by_weight" = some (some (.ref f7))) (l7 : K.lookup f7 = some ⟨oc7, od7, .func (PySem.W.fnOf "people_by_weight" "people_by_weight" (defArgs (top 32)) (defBody (top 32)) (defScope (top 32)) .none kV7 dc7 pm7 an7 (.ref cc7) ct7), sl7⟩) (c7 : PySem.W.codeIn K (.ref cc7) "people_by_weight" = true) (k7 : PySem.W.keepIn K (.ref f7) = true)
    {f8 : Addr} {od8 an8 : Option Addr} {sl8 : Array (Option Value)} {oc8 kV8 dc8 pm8 cd8 ct8 : Value} (a8 : PySem.W.nsIn K mainGlobals "stuck_person" = some (some (.ref f8))) (l8 : K.lookup f8 = some ⟨oc8, od8, .func (PySem.W.fnOf "stuck_person" "stuck_person" (defArgs (top 33)) (defBody (top 33)) (defScope (top 33)) .none kV8 dc8 pm8 an8 cd8 ct8), sl8⟩) (c8 : PySem.W.codeIn K cd8 "stuck_person" = true) (k8 : PySem.W.keepIn K (.ref f8) = true)
    {f9 : Addr} {od9 an9 : Option Addr} {sl9 : Array (Option Value)} {oc9 kV9 dc9 pm9 cd9 ct9 : Value} (a9 : PySem.W.nsIn K mainGlobals "reach_weight" = some (some (.ref f9))) (l9 : K.lookup f9 = some ⟨oc9, od9, .func (PySem.W.fnOf "reach_weight" "reach_weight" (defArgs (top 34)) (defBody (top 34)) (defScope (top 34)) .none kV9 dc9 pm9 an9 cd9 ct9), sl9⟩) (c9 : PySem.W.codeIn K cd9 "reach_weight" = true) (k9 : PySem.W.keepIn K (.ref f9) = true)
    {f10 : Addr} {od10 an10 : Option Addr} {sl10 : Array (Option Value)} {oc10 kV10 dc10 pm10 cd10 ct10 : Value} (a10 : PySem.W.nsIn K mainGlobals "likeness" = some (some (.ref f10))) (l10 : K.lookup f10 = some ⟨oc10, od10, .func (PySem.W.fnOf "likeness" "likeness" (defArgs (top 44)) (defBody (top 44)) (defScope (top 44)) .none kV10 dc10 pm10 an10 cd10 ct10), sl10⟩) (c10 : PySem.W.codeIn K cd10 "likeness" = true) (k10 : PySem.W.keepIn K (.ref f10) = true)
    {f11 : Addr} {od11 an11 : Option Addr} {sl11 : Array (Option Value)} {oc11 kV11 dc11 pm11 cd11 ct11 : Value} (a11 : PySem.W.nsIn K mainGlobals "_law_deck" = some (some (.ref f11))) (l11 : K.lookup f11 = some ⟨oc11, od11, .func (PySem.W.fnOf "_law_deck" "_law_deck" (defArgs (top 46)) (defBody (top 46)) (defScope (top 46)) .none kV11 dc11 pm11 an11 cd11 ct11), sl11⟩) (c11 : PySem.W.codeIn K cd11 "_law_deck" = true) (k11 : PySem.W.keepIn K (.ref f11) = true)
    {f12 : Addr} {od12 an12 : Option Addr} {sl12 : Array (Option Value)} {oc12 kV12 dc12 pm12 cd12 ct12 : Value} (a12 : PySem.W.nsIn K mainGlobals "_law_draw" = some (some (.ref f12))) (l12 : K.lookup f12 = some ⟨oc12, od12, .func (PySem.W.fnOf "_law_draw" "_law_draw" (defArgs (top 47)) (defBody (top 47)) (defScope (top 47)) .none kV12 dc12 pm12 an12 cd12 ct12), sl12⟩) (c12 : PySem.W.codeIn K cd12 "_law_draw" = true) (k12 : PySem.W.keepIn K (.ref f12) = true)
    {f13 : Addr} {od13 an13 : Option Addr} {sl13 : Array (Option Value)} {oc13 kV13 dc13 pm13 cd13 ct13 : Value} (a13 : PySem.W.nsIn K mainGlobals "_law_weight" = some (some (.ref f13))) (l13 : K.lookup f13 = some ⟨oc13, od13, .func (PySem.W.fnOf "_law_weight" "_law_weight" (defArgs (top 48)) (defBody (top 48)) (defScope (top 48)) .none kV13 dc13 pm13 an13 cd13 ct13), sl13⟩) (c13 : PySem.W.codeIn K cd13 "_law_weight" = true) (k13 : PySem.W.keepIn K (.ref f13) = true)
    {f14 : Addr} {od14 an14 : Option Addr} {sl14 : Array (Option Value)} {oc14 kV14 dc14 pm14 cd14 ct14 : Value} (a14 : PySem.W.nsIn K mainGlobals "_law_tower" = some (some (.ref f14))) (l14 : K.lookup f14 = some ⟨oc14, od14, .func (PySem.W.fnOf "_law_tower" "_law_tower" (defArgs (top 49)) (defBody (top 49)) (defScope (top 49)) .none kV14 dc14 pm14 an14 cd14 ct14), sl14⟩) (c14 : PySem.W.codeIn K cd14 "_law_tower" = true) (k14 : PySem.W.keepIn K (.ref f14) = true)
    {f15 : Addr} {od15 an15 : Option Addr} {sl15 : Array (Option Value)} {oc15 kV15 dc15 pm15 cd15 ct15 : Value} (a15 : PySem.W.nsIn K mainGlobals "_law_after" = some (some (.ref f15))) (l15 : K.lookup f15 = some ⟨oc15, od15, .func (PySem.W.fnOf "_law_after" "_law_after" (defArgs (top 50)) (defBody (top 50)) (defScope (top 50)) .none kV15 dc15 pm15 an15 cd15 ct15), sl15⟩) (c15 : PySem.W.codeIn K cd15 "_law_after" = true) (k15 : PySem.W.keepIn K (.ref f15) = true)
    {f16 : Addr} {od16 an16 : Option Addr} {sl16 : Array (Option Value)} {oc16 kV16 dc16 pm16 cd16 ct16 : Value} (a16 : PySem.W.nsIn K mainGlobals "_law_edit" = some (some (.ref f16))) (l16 : K.lookup f16 = some ⟨oc16, od16, .func (PySem.W.fnOf "_law_edit" "_law_edit" (defArgs (top 51)) (defBody (top 51)) (defScope (top 51)) .none kV16 dc16 pm16 an16 cd16 ct16), sl16⟩) (c16 : PySem.W.codeIn K cd16 "_law_edit" = true) (k16 : PySem.W.keepIn K (.ref f16) = true)
    {f17 : Addr} {od17 an17 : Option Addr} {sl17 : Array (Option Value)} {oc17 kV17 dc17 pm17 cd17 ct17 : Value} (a17 : PySem.W.nsIn K mainGlobals "_law_do" = some (some (.ref f17))) (l17 : K.lookup f17 = some ⟨oc17, od17, .func (PySem.W.fnOf "_law_do" "_law_do" (defArgs (top 52)) (defBody (top 52)) (defScope (top 52)) .none kV17 dc17 pm17 an17 cd17 ct17), sl17⟩) (c17 : PySem.W.codeIn K cd17 "_law_do" = true) (k17 : PySem.W.keepIn K (.ref f17) = true)
    {f18 : Addr} {od18 an18 : Option Addr} {sl18 : Array (Option Value)} {oc18 kV18 dc18 pm18 cd18 ct18 : Value} (a18 : PySem.W.nsIn K mainGlobals "_law_done" = some (some (.ref f18))) (l18 : K.lookup f18 = some ⟨oc18, od18, .func (PySem.W.fnOf "_law_done" "_law_done" (defArgs (top 53)) (defBody (top 53)) (defScope (top 53)) .none kV18 dc18 pm18 an18 cd18 ct18), sl18⟩) (c18 : PySem.W.codeIn K cd18 "_law_done" = true) (k18 : PySem.W.keepIn K (.ref f18) = true)
    {f19 : Addr} {od19 an19 : Option Addr} {sl19 : Array (Option Value)} {oc19 kV19 dc19 pm19 cd19 ct19 : Value} (a19 : PySem.W.nsIn K mainGlobals "_law_refused" = some (some (.ref f19))) (l19 : K.lookup f19 = some ⟨oc19, od19, .func (PySem.W.fnOf "_law_refused" "_law_refused" (defArgs (top 54)) (defBody (top 54)) (defScope (top 54)) .none kV19 dc19 pm19 an19 cd19 ct19), sl19⟩) (c19 : PySem.W.codeIn K cd19 "_law_refused" = true) (k19 : PySem.W.keepIn K (.ref f19) = true)
    {f20 : Addr} {od20 an20 : Option Addr} {sl20 : Array (Option Value)} {oc20 kV20 dc20 pm20 cd20 ct20 : Value} (a20 : PySem.W.nsIn K mainGlobals "_law_shown" = some (some (.ref f20))) (l20 : K.lookup f20 = some ⟨oc20, od20, .func (PySem.W.fnOf "_law_shown" "_law_shown" (defArgs (top 55)) (defBody (top 55)) (defScope (top 55)) .none kV20 dc20 pm20 an20 cd20 ct20), sl20⟩) (c20 : PySem.W.codeIn K cd20 "_law_shown" = true) (k20 : PySem.W.keepIn K (.ref f20) = true)
    {f21 : Addr} {od21 an21 : Option Addr} {sl21 : Array (Option Value)} {oc21 kV21 dc21 pm21 cd21 ct21 : Value} (a21 : PySem.W.nsIn K mainGlobals "law" = some (some (.ref f21))) (l21 : K.lookup f21 = some ⟨oc21, od21, .func (PySem.W.fnOf "law" "law" (defArgs (top 56)) (defBody (top 56)) (defScope (top 56)) .none kV21 dc21 pm21 an21 cd21 ct21), sl21⟩) (c21 : PySem.W.codeIn K cd21 "law" = true) (k21 : PySem.W.keepIn K (.ref f21) = true)
    {f22 : Addr} {od22 an22 : Option Addr} {sl22 : Array (Option Value)} {oc22 kV22 dc22 pm22 cd22 ct22 : Value} (l22 : K.lookup f22 = some ⟨oc22, od22, .func (PySem.W.fnOf "__init__" "Hoist.__init__" (defArgs (memb (top 42) 1)) (defBody (memb (top 42) 1)) (defScope (memb (top 42) 1)) .none kV22 dc22 pm22 an22 cd22 ct22), sl22⟩) (c22 : PySem.W.codeIn K cd22 "Hoist.__init__" = true) (k22 : PySem.W.keepIn K (.ref f22) = true) (v22 : PySem.W.isFn K (.ref f22) = true) (w22 : PySem.W.fnIn K f22 = true)
    {f23 : Addr} {od23 an23 : Option Addr} {sl23 : Array (Option Value)} {oc23 kV23 dc23 pm23 cd23 ct23 : Value} (l23 : K.lookup f23 = some ⟨oc23, od23, .func (PySem.W.fnOf "come" "Hoist.come" (defArgs (memb (top 42) 5)) (defBody (memb (top 42) 5)) (defScope (memb (top 42) 5)) .none kV23 dc23 pm23 an23 cd23 ct23), sl23⟩) (c23 : PySem.W.codeIn K cd23 "Hoist.come" = true) (k23 : PySem.W.keepIn K (.ref f23) = true) (v23 : PySem.W.isFn K (.ref f23) = true) (w23 : PySem.W.fnIn K f23 = true)
    {f24 : Addr} {od24 an24 : Option Addr} {sl24 : Array (Option Value)} {oc24 kV24 dc24 pm24 cd24 ct24 : Value} (l24 : K.lookup f24 = some ⟨oc24, od24, .func (PySem.W.fnOf "leave" "Hoist.leave" (defArgs (memb (top 42) 6)) (defBody (memb (top 42) 6)) (defScope (memb (top 42) 6)) .none kV24 dc24 pm24 an24 cd24 ct24), sl24⟩) (c24 : PySem.W.codeIn K cd24 "Hoist.leave" = true) (k24 : PySem.W.keepIn K (.ref f24) = true) (v24 : PySem.W.isFn K (.ref f24) = true) (w24 : PySem.W.fnIn K f24 = true)
    {f25 : Addr} {od25 an25 : Option Addr} {sl25 : Array (Option Value)} {oc25 kV25 dc25 pm25 cd25 ct25 : Value} (l25 : K.lookup f25 = some ⟨oc25, od25, .func (PySem.W.fnOf "weigh" "Hoist.weigh" (defArgs (memb (top 42) 7)) (defBody (memb (top 42) 7)) (defScope (memb (top 42) 7)) .none kV25 dc25 pm25 an25 cd25 ct25), sl25⟩) (c25 : PySem.W.codeIn K cd25 "Hoist.weigh" = true) (k25 : PySem.W.keepIn K (.ref f25) = true) (v25 : PySem.W.isFn K (.ref f25) = true) (w25 : PySem.W.fnIn K f25 = true)
    {f26 : Addr} {od26 an26 : Option Addr} {sl26 : Array (Option Value)} {oc26 kV26 dc26 pm26 cd26 ct26 : Value} (l26 : K.lookup f26 = some ⟨oc26, od26, .func (PySem.W.fnOf "loosen" "Hoist.loosen" (defArgs (memb (top 42) 8)) (defBody (memb (top 42) 8)) (defScope (memb (top 42) 8)) .none kV26 dc26 pm26 an26 cd26 ct26), sl26⟩) (c26 : PySem.W.codeIn K cd26 "Hoist.loosen" = true) (k26 : PySem.W.keepIn K (.ref f26) = true) (v26 : PySem.W.isFn K (.ref f26) = true) (w26 : PySem.W.fnIn K f26 = true)
    {f27 : Addr} {od27 an27 : Option Addr} {sl27 : Array (Option Value)} {oc27 kV27 dc27 pm27 cd27 ct27 : Value} (l27 : K.lookup f27 = some ⟨oc27, od27, .func (PySem.W.fnOf "_check_idle" "Hoist._check_idle" (defArgs (memb (top 42) 19)) (defBody (memb (top 42) 19)) (defScope (memb (top 42) 19)) .none kV27 dc27 pm27 an27 cd27 ct27), sl27⟩) (c27 : PySem.W.codeIn K cd27 "Hoist._check_idle" = true) (k27 : PySem.W.keepIn K (.ref f27) = true) (v27 : PySem.W.isFn K (.ref f27) = true) (w27 : PySem.W.fnIn K f27 = true)
    {f28 : Addr} {od28 an28 : Option Addr} {sl28 : Array (Option Value)} {oc28 kV28 dc28 pm28 cd28 ct28 : Value} (l28 : K.lookup f28 = some ⟨oc28, od28, .func (PySem.W.fnOf "_check_edit" "Hoist._check_edit" (defArgs (memb (top 42) 20)) (defBody (memb (top 42) 20)) (defScope (memb (top 42) 20)) .none kV28 dc28 pm28 an28 cd28 ct28), sl28⟩) (c28 : PySem.W.codeIn K cd28 "Hoist._check_edit" = true) (k28 : PySem.W.keepIn K (.ref f28) = true) (v28 : PySem.W.isFn K (.ref f28) = true) (w28 : PySem.W.fnIn K f28 = true)
    {f29 : Addr} {od29 an29 : Option Addr} {sl29 : Array (Option Value)} {oc29 kV29 dc29 pm29 cd29 ct29 : Value} (l29 : K.lookup f29 = some ⟨oc29, od29, .func (PySem.W.fnOf "_check_person" "Hoist._check_person" (defArgs (memb (top 42) 21)) (defBody (memb (top 42) 21)) (defScope (memb (top 42) 21)) .none kV29 dc29 pm29 an29 cd29 ct29), sl29⟩) (c29 : PySem.W.codeIn K cd29 "Hoist._check_person" = true) (k29 : PySem.W.keepIn K (.ref f29) = true) (v29 : PySem.W.isFn K (.ref f29) = true) (w29 : PySem.W.fnIn K f29 = true)
    {f30 : Addr} {od30 an30 : Option Addr} {sl30 : Array (Option Value)} {oc30 kV30 dc30 pm30 cd30 ct30 : Value} (l30 : K.lookup f30 = some ⟨oc30, od30, .func (PySem.W.fnOf "_check_tower" "Hoist._check_tower" (defArgs (memb (top 42) 22)) (defBody (memb (top 42) 22)) (defScope (memb (top 42) 22)) .none kV30 dc30 pm30 an30 cd30 ct30), sl30⟩) (c30 : PySem.W.codeIn K cd30 "Hoist._check_tower" = true) (k30 : PySem.W.keepIn K (.ref f30) = true) (v30 : PySem.W.isFn K (.ref f30) = true) (w30 : PySem.W.fnIn K f30 = true)
    {f31 : Addr} {od31 an31 : Option Addr} {sl31 : Array (Option Value)} {oc31 kV31 dc31 pm31 cd31 ct31 : Value} (l31 : K.lookup f31 = some ⟨oc31, od31, .func (PySem.W.fnOf "_keep" "Hoist._keep" (defArgs (memb (top 42) 23)) (defBody (memb (top 42) 23)) (defScope (memb (top 42) 23)) .none kV31 dc31 pm31 an31 cd31 ct31), sl31⟩) (c31 : PySem.W.codeIn K cd31 "Hoist._keep" = true) (k31 : PySem.W.keepIn K (.ref f31) = true) (v31 : PySem.W.isFn K (.ref f31) = true) (w31 : PySem.W.fnIn K f31 = true)
    {f32 : Addr} {od32 an32 : Option Addr} {sl32 : Array (Option Value)} {oc32 kV32 dc32 pm32 cd32 ct32 : Value} (l32 : K.lookup f32 = some ⟨oc32, od32, .func (PySem.W.fnOf "__init__" "Promise.__init__" (defArgs (memb (top 28) 0)) (defBody (memb (top 28) 0)) (defScope (memb (top 28) 0)) .none kV32 dc32 pm32 an32 cd32 ct32), sl32⟩) (c32 : PySem.W.codeIn K cd32 "Promise.__init__" = true) (k32 : PySem.W.keepIn K (.ref f32) = true) (v32 : PySem.W.isFn K (.ref f32) = true) (w32 : PySem.W.fnIn K f32 = true)
    {f33 : Addr} {od33 an33 : Option Addr} {sl33 : Array (Option Value)} {oc33 kV33 dc33 pm33 cd33 ct33 : Value} (l33 : K.lookup f33 = some ⟨oc33, od33, .func (PySem.W.fnOf "beyond" "Promise.beyond" (defArgs (memb (top 28) 2)) (defBody (memb (top 28) 2)) (defScope (memb (top 28) 2)) .none kV33 dc33 pm33 an33 cd33 ct33), sl33⟩) (c33 : PySem.W.codeIn K cd33 "Promise.beyond" = true) (k33 : PySem.W.keepIn K (.ref f33) = true) (v33 : PySem.W.isFn K (.ref f33) = true) (w33 : PySem.W.fnIn K f33 = true)
    {f34 : Addr} {od34 an34 : Option Addr} {sl34 : Array (Option Value)} {oc34 kV34 dc34 pm34 cd34 ct34 : Value} (l34 : K.lookup f34 = some ⟨oc34, od34, .func (PySem.W.fnOf "__init__" "PromisedHoist.__init__" (defArgs (memb (top 43) 0)) (defBody (memb (top 43) 0)) (defScope (memb (top 43) 0)) .none kV34 dc34 pm34 an34 cd34 ct34), sl34⟩) (c34 : PySem.W.codeIn K cd34 "PromisedHoist.__init__" = true) (k34 : PySem.W.keepIn K (.ref f34) = true) (v34 : PySem.W.isFn K (.ref f34) = true) (w34 : PySem.W.fnIn K f34 = true)
    {f35 : Addr} {od35 an35 : Option Addr} {sl35 : Array (Option Value)} {oc35 kV35 dc35 pm35 cd35 ct35 : Value} (l35 : K.lookup f35 = some ⟨oc35, od35, .func (PySem.W.fnOf "_check_tower" "PromisedHoist._check_tower" (defArgs (memb (top 43) 1)) (defBody (memb (top 43) 1)) (defScope (memb (top 43) 1)) .none kV35 dc35 pm35 an35 cd35 ct35), sl35⟩) (c35 : PySem.W.codeIn K cd35 "PromisedHoist._check_tower" = true) (k35 : PySem.W.keepIn K (.ref f35) = true) (v35 : PySem.W.isFn K (.ref f35) = true) (w35 : PySem.W.fnIn K f35 = true)
    {f36 : Addr} {od36 an36 : Option Addr} {sl36 : Array (Option Value)} {oc36 kV36 dc36 pm36 cd36 ct36 : Value} (l36 : K.lookup f36 = some ⟨oc36, od36, .func (PySem.W.fnOf "undo" "Hoist.undo" (defArgs (memb (top 42) 9)) (defBody (memb (top 42) 9)) (defScope (memb (top 42) 9)) .none kV36 dc36 pm36 an36 cd36 ct36), sl36⟩) (c36 : PySem.W.codeIn K cd36 "Hoist.undo" = true) (k36 : PySem.W.keepIn K (.ref f36) = true) (v36 : PySem.W.isFn K (.ref f36) = true) (w36 : PySem.W.fnIn K f36 = true)
    {f37 : Addr} {od37 an37 : Option Addr} {sl37 : Array (Option Value)} {oc37 kV37 dc37 pm37 cd37 ct37 : Value} (l37 : K.lookup f37 = some ⟨oc37, od37, .func (PySem.W.fnOf "edits" "Hoist.edits" (defArgs (memb (top 42) 14)) (defBody (memb (top 42) 14)) (defScope (memb (top 42) 14)) .none kV37 dc37 pm37 an37 cd37 ct37), sl37⟩) (c37 : PySem.W.codeIn K cd37 "Hoist.edits" = true) (k37 : PySem.W.keepIn K (.ref f37) = true) (v37 : PySem.W.isFn K (.ref f37) = true) (w37 : PySem.W.fnIn K f37 = true)
    {f38 : Addr} {od38 an38 : Option Addr} {sl38 : Array (Option Value)} {oc38 kV38 dc38 pm38 cd38 ct38 : Value} (l38 : K.lookup f38 = some ⟨oc38, od38, .func (PySem.W.fnOf "__len__" "Hoist.__len__" (defArgs (memb (top 42) 16)) (defBody (memb (top 42) 16)) (defScope (memb (top 42) 16)) .none kV38 dc38 pm38 an38 cd38 ct38), sl38⟩) (c38 : PySem.W.codeIn K cd38 "Hoist.__len__" = true) (k38 : PySem.W.keepIn K (.ref f38) = true) (v38 : PySem.W.isFn K (.ref f38) = true) (w38 : PySem.W.fnIn K f38 = true)
    {f39 : Addr} {od39 an39 : Option Addr} {sl39 : Array (Option Value)} {oc39 kV39 dc39 pm39 cd39 ct39 : Value} (l39 : K.lookup f39 = some ⟨oc39, od39, .func (PySem.W.fnOf "__str__" "Hoist.__str__" (defArgs (memb (top 42) 17)) (defBody (memb (top 42) 17)) (defScope (memb (top 42) 17)) .none kV39 dc39 pm39 an39 cd39 ct39), sl39⟩) (c39 : PySem.W.codeIn K cd39 "Hoist.__str__" = true) (k39 : PySem.W.keepIn K (.ref f39) = true) (v39 : PySem.W.isFn K (.ref f39) = true) (w39 : PySem.W.fnIn K f39 = true)
    {f40 : Addr} {od40 an40 : Option Addr} {sl40 : Array (Option Value)} {oc40 kV40 dc40 pm40 cd40 ct40 : Value} (l40 : K.lookup f40 = some ⟨oc40, od40, .func (PySem.W.fnOf "__eq__" "Hoist.__eq__" (defArgs (memb (top 42) 18)) (defBody (memb (top 42) 18)) (defScope (memb (top 42) 18)) .none kV40 dc40 pm40 an40 cd40 ct40), sl40⟩) (c40 : PySem.W.codeIn K cd40 "Hoist.__eq__" = true) (k40 : PySem.W.keepIn K (.ref f40) = true) (v40 : PySem.W.isFn K (.ref f40) = true) (w40 : PySem.W.fnIn K f40 = true)
    {pa41 f41 : Addr} {pr41 : List Value} {od41 an41 : Option Addr} {sl41 : Array (Option Value)} {oc41 kV41 dc41 pm41 cd41 ct41 : Value}
    {pa42 f42 : Addr} {pr42 : List Value} {od42 an42 : Option Addr} {sl42 : Array (Option Value)} {oc42 kV42 dc42 pm42 cd42 ct42 : Value}
    {pa43 f43 : Addr} {pr43 : List Value} {od43 an43 : Option Addr} {sl43 : Array (Option Value)} {oc43 kV43 dc43 pm43 cd43 ct43 : Value}
    {f44 kD44 : Addr} {od44 an44 : Option Addr} {sl44 : Array (Option Value)} {oc44 dc44 pm44 cd44 ct44 : Value} (l44 : K.lookup f44 = some ⟨oc44, od44, .func (PySem.W.fnOf "state" "Hoist.state" (defArgs (memb (top 42) 11)) (defBody (memb (top 42) 11)) (defScope (memb (top 42) 11)) .none (.ref kD44) dc44 pm44 an44 cd44 ct44), sl44⟩) (n44 : PySem.W.nsIn K kD44 "version" = some (some .none)) (c44 : PySem.W.codeIn K cd44 "Hoist.state" = true) (k44 : PySem.W.keepIn K (.ref f44) = true) (v44 : PySem.W.isFn K (.ref f44) = true)
    {f45 kD45 : Addr} {od45 an45 : Option Addr} {sl45 : Array (Option Value)} {oc45 dc45 pm45 cd45 ct45 : Value} (l45 : K.lookup f45 = some ⟨oc45, od45, .func (PySem.W.fnOf "walk" "Hoist.walk" (defArgs (memb (top 42) 13)) (defBody (memb (top 42) 13)) (defScope (memb (top 42) 13)) .none (.ref kD45) dc45 pm45 an45 cd45 ct45), sl45⟩) (n45 : PySem.W.nsIn K kD45 "version" = some (some .none)) (c45 : PySem.W.codeIn K cd45 "Hoist.walk" = true) (k45 : PySem.W.keepIn K (.ref f45) = true) (v45 : PySem.W.isFn K (.ref f45) = true)
    {t0 : Tok} (m0 : PySem.W.nsIn K mainGlobals "LIMIT" = some (some (.int 100000000 t0)))
    {t1 : Tok} (m1 : PySem.W.nsIn K mainGlobals "MAX_EDITS" = some (some (.int 60 t1)))
    {t2 : Tok} (m2 : PySem.W.nsIn K mainGlobals "MAX_EXCESS" = some (some (.int 1000000 t2)))
    {t3 : Tok} (m3 : PySem.W.nsIn K mainGlobals "MAX_PEOPLE" = some (some (.int 24 t3)))
    {t4 : Tok} (m4 : PySem.W.nsIn K mainGlobals "MAX_WEIGHT" = some (some (.int 1000000 t4)))
    (z0 : PySem.W.nsIn K mainGlobals "abs" = some none)
    (z1 : PySem.W.nsIn K mainGlobals "bool" = some none)
    (z2 : PySem.W.nsIn K mainGlobals "enumerate" = some none)
    (z3 : PySem.W.nsIn K mainGlobals "int" = some none)
    (z4 : PySem.W.nsIn K mainGlobals "isinstance" = some none)
    (z5 : PySem.W.nsIn K mainGlobals "len" = some none)
    (z6 : PySem.W.nsIn K mainGlobals "list" = some none)
    (z7 : PySem.W.nsIn K mainGlobals "max" = some none)
    (z8 : PySem.W.nsIn K mainGlobals "min" = some none)
    (z9 : PySem.W.nsIn K mainGlobals "range" = some none)
    (z10 : PySem.W.nsIn K mainGlobals "repr" = some none)
    (z11 : PySem.W.nsIn K mainGlobals "sorted" = some none)
    (z12 : PySem.W.nsIn K mainGlobals "str" = some none)
    (z13 : PySem.W.nsIn K mainGlobals "sum" = some none)
    (z14 : PySem.W.nsIn K mainGlobals "tuple" = some none)
    {A_BadNumber : Addr} (kc_BadNumber : PySem.W.nsIn K mainGlobals "BadNumber" = some (some (.ref A_BadNumber)))
    {A_Hoist : Addr} (kc_Hoist : PySem.W.nsIn K mainGlobals "Hoist" = some (some (.ref A_Hoist)))
    {A_NoVersion : Addr} (kc_NoVersion : PySem.W.nsIn K mainGlobals "NoVersion" = some (some (.ref A_NoVersion)))
    {A_Promise : Addr} (kc_Promise : PySem.W.nsIn K mainGlobals "Promise" = some (some (.ref A_Promise)))
    {A_PromisedHoist : Addr} (kc_PromisedHoist : PySem.W.nsIn K mainGlobals "PromisedHoist" = some (some (.ref A_PromisedHoist)))
    {A_TooLow : Addr} (kc_TooLow : PySem.W.nsIn K mainGlobals "TooLow" = some (some (.ref A_TooLow)))
    {nm_BadNumber q_BadNumber : Str} {N_BadNumber F_BadNumber : Addr} {bs_BadNumber bm_BadNumber su_BadNumber : List Value} {sn_BadNumber : List Str} {ab_BadNumber : Bool} {co_BadNumber : Option Bool} {dd_BadNumber od_BadNumber an_BadNumber : Option Addr} {m0_BadNumber m1_BadNumber m2_BadNumber m3_BadNumber m5_BadNumber : Option Value} {oc_BadNumber kV_BadNumber dc_BadNumber pm_BadNumber cd_BadNumber ct_BadNumber : Value} {sl_BadNumber : Array (Option Value)}
    (xl_BadNumber : K.lookup A_BadNumber = some (excClassObj nm_BadNumber q_BadNumber A_BadNumber N_BadNumber bs_BadNumber bm_BadNumber true sn_BadNumber su_BadNumber ab_BadNumber co_BadNumber dd_BadNumber m0_BadNumber m1_BadNumber m2_BadNumber m3_BadNumber m5_BadNumber "ValueError.__new__")) (xr_BadNumber : PySem.HandSPX.refsVE bm_BadNumber = true) (xs_BadNumber : PySem.W.findIn K (.ref A_BadNumber) "__setattr__" = some (some (.builtin "object.__setattr__"))) (xb_BadNumber : PySem.W.subIn K (.ref A_BadNumber) (.type "BaseException") = some true) (xt_BadNumber : PySem.W.typeIn K (.ref A_BadNumber) = some (.type "type")) (xk_BadNumber : PySem.W.keepIn K (.ref A_BadNumber) = true) (xn_BadNumber : PySem.W.findIn K (.ref A_BadNumber) "value" = some none)
    (xi_BadNumber : PySem.W.findIn K (.ref A_BadNumber) "__init__" = some (some (.ref F_BadNumber))) (xf_BadNumber : PySem.W.typeIn K (.ref F_BadNumber) = some (.type "function")) (xm_BadNumber : K.lookup F_BadNumber = some ⟨oc_BadNumber, od_BadNumber, .func (PySem.W.fnOf "__init__" "BadNumber.__init__" (defArgs (memb (top 15) 0)) (defBody (memb (top 15) 0)) (defScope (memb (top 15) 0)) .none kV_BadNumber dc_BadNumber pm_BadNumber an_BadNumber cd_BadNumber ct_BadNumber), sl_BadNumber⟩) (xo_BadNumber : PySem.W.codeIn K cd_BadNumber "BadNumber.__init__" = true) (xp_BadNumber : PySem.W.keepIn K (.ref F_BadNumber) = true)
    {nm_NoVersion q_NoVersion : Str} {N_NoVersion F_NoVersion : Addr} {bs_NoVersion bm_NoVersion su_NoVersion : List Value} {sn_NoVersion : List Str} {ab_NoVersion : Bool} {co_NoVersion : Option Bool} {dd_NoVersion od_NoVersion an_NoVersion : Option Addr} {m0_NoVersion m1_NoVersion m2_NoVersion m3_NoVersion m5_NoVersion : Option Value} {oc_NoVersion kV_NoVersion dc_NoVersion pm_NoVersion cd_NoVersion ct_NoVersion : Value} {sl_NoVersion : Array (Option Value)}
    (xl_NoVersion : K.lookup A_NoVersion = some (excClassObj nm_NoVersion q_NoVersion A_NoVersion N_NoVersion bs_NoVersion bm_NoVersion true sn_NoVersion su_NoVersion ab_NoVersion co_NoVersion dd_NoVersion m0_NoVersion m1_NoVersion m2_NoVersion m3_NoVersion m5_NoVersion "LookupError.__new__")) (xr_NoVersion : refsLE bm_NoVersion = true) (xs_NoVersion : PySem.W.findIn K (.ref A_NoVersion) "__setattr__" = some (some (.builtin "object.__setattr__"))) (xb_NoVersion : PySem.W.subIn K (.ref A_NoVersion) (.type "BaseException") = some true) (xt_NoVersion : PySem.W.typeIn K (.ref A_NoVersion) = some (.type "type")) (xk_NoVersion : PySem.W.keepIn K (.ref A_NoVersion) = true) (xn_NoVersion : PySem.W.findIn K (.ref A_NoVersion) "value" = some none)
    (xi_NoVersion : PySem.W.findIn K (.ref A_NoVersion) "__init__" = some (some (.ref F_NoVersion))) (xf_NoVersion : PySem.W.typeIn K (.ref F_NoVersion) = some (.type "function")) (xm_NoVersion : K.lookup F_NoVersion = some ⟨oc_NoVersion, od_NoVersion, .func (PySem.W.fnOf "__init__" "NoVersion.__init__" (defArgs (memb (top 19) 0)) (defBody (memb (top 19) 0)) (defScope (memb (top 19) 0)) .none kV_NoVersion dc_NoVersion pm_NoVersion an_NoVersion cd_NoVersion ct_NoVersion), sl_NoVersion⟩) (xo_NoVersion : PySem.W.codeIn K cd_NoVersion "NoVersion.__init__" = true) (xp_NoVersion : PySem.W.keepIn K (.ref F_NoVersion) = true)
    {nm_TooLow q_TooLow : Str} {N_TooLow F_TooLow : Addr} {bs_TooLow bm_TooLow su_TooLow : List Value} {sn_TooLow : List Str} {ab_TooLow : Bool} {co_TooLow : Option Bool} {dd_TooLow od_TooLow an_TooLow : Option Addr} {m0_TooLow m1_TooLow m2_TooLow m3_TooLow m5_TooLow : Option Value} {oc_TooLow kV_TooLow dc_TooLow pm_TooLow cd_TooLow ct_TooLow : Value} {sl_TooLow : Array (Option Value)}
    (xl_TooLow : K.lookup A_TooLow = some (excClassObj nm_TooLow q_TooLow A_TooLow N_TooLow bs_TooLow bm_TooLow true sn_TooLow su_TooLow ab_TooLow co_TooLow dd_TooLow m0_TooLow m1_TooLow m2_TooLow m3_TooLow m5_TooLow "ValueError.__new__")) (xr_TooLow : PySem.HandSPX.refsVE bm_TooLow = true) (xs_TooLow : PySem.W.findIn K (.ref A_TooLow) "__setattr__" = some (some (.builtin "object.__setattr__"))) (xb_TooLow : PySem.W.subIn K (.ref A_TooLow) (.type "BaseException") = some true) (xt_TooLow : PySem.W.typeIn K (.ref A_TooLow) = some (.type "type")) (xk_TooLow : PySem.W.keepIn K (.ref A_TooLow) = true) (xn_TooLow : PySem.W.findIn K (.ref A_TooLow) "number" = some none)
    (xi_TooLow : PySem.W.findIn K (.ref A_TooLow) "__init__" = some (some (.ref F_TooLow))) (xf_TooLow : PySem.W.typeIn K (.ref F_TooLow) = some (.type "function")) (xm_TooLow : K.lookup F_TooLow = some ⟨oc_TooLow, od_TooLow, .func (PySem.W.fnOf "__init__" "TooLow.__init__" (defArgs (memb (top 16) 0)) (defBody (memb (top 16) 0)) (defScope (memb (top 16) 0)) .none kV_TooLow dc_TooLow pm_TooLow an_TooLow cd_TooLow ct_TooLow), sl_TooLow⟩) (xo_TooLow : PySem.W.codeIn K cd_TooLow "TooLow.__init__" = true) (xp_TooLow : PySem.W.keepIn K (.ref F_TooLow) = true)
    (e1_TooLow : PySem.W.isClsIn K A_TooLow = true) (e2_TooLow : PySem.W.findIn K (.ref A_TooLow) "__getattribute__" = some (some (.builtin "BaseException.__getattribute__"))) (e3_TooLow : PySem.W.findIn K (.ref A_TooLow) "__getattr__" = some none) (e4_TooLow : PySem.W.subIn K (.ref A_TooLow) (.type "BaseException") = some true) (e5_TooLow : PySem.W.hasDictIn K A_TooLow = true) (e6_TooLow : PySem.W.findIn K (.ref A_TooLow) "__class__" = some (some (.builtin "object.__class__"))) (e7_TooLow : PySem.W.specialIn K (.builtin "object.__class__") "__get__" = some (some (.builtin "getset_descriptor.__get__"))) (e8_TooLow : PySem.W.takesIn K (.builtin "object.__class__") = some true) (e9_TooLow : PySem.W.mroIn K A_TooLow (.type "object") = some true)
    (nnumber_TooLow : PySem.W.findIn K (.ref A_TooLow) "number" = some none)
    (y1_TooLow : PySem.W.subIn K (.ref A_TooLow) (.type "BaseException") = some true) (y2_TooLow : PySem.W.isClsIn K A_TooLow = true) (y3_TooLow : PySem.W.typeIn K (.ref A_TooLow) = some (.type "type"))
    (sf_TooLow : PySem.W.subIn K (.ref A_TooLow) (.ref A_TooLow) = some true)
    (px0 : PySem.W.subIn K (.ref A_TooLow) (.ref A_TooLow) = some true)
    (u1_PromisedHoist : PySem.W.plainGet K A_PromisedHoist Str.empty = true)
    (u2_PromisedHoist : PySem.W.hasDictIn K A_PromisedHoist = true)
    (u3_PromisedHoist : PySem.W.plainOver K A_PromisedHoist = true)
    (u4_PromisedHoist : PySem.W.findIn K (.ref A_PromisedHoist) "__setattr__" = some (some (.builtin "object.__setattr__")))
    (u1_Hoist : PySem.W.plainGet K A_Hoist Str.empty = true)
    (u2_Hoist : PySem.W.hasDictIn K A_Hoist = true)
    (u3_Hoist : PySem.W.plainOver K A_Hoist = true)
    (u4_Hoist : PySem.W.findIn K (.ref A_Hoist) "__setattr__" = some (some (.builtin "object.__setattr__")))
    {cf_Hoist___init__ : Addr}
    (cr1_Hoist : PySem.W.readsIn K A_Hoist (.type "type") = true)
    (cr2_Hoist : PySem.W.specialIn K (.ref A_Hoist) "__getattribute__" = some (some (.builtin "type.__getattribute__")))
    (cfi_Hoist___init__ : PySem.W.findIn K (.ref A_Hoist) "__init__" = some (some (.ref cf_Hoist___init__)))
    (cfv_Hoist___init__ : PySem.W.findCls K (.ref A_Hoist) (.type "type") "__init__" = some (.val (.ref cf_Hoist___init__)))
    {cf_Promise___init__ : Addr}
    (cr1_Promise : PySem.W.readsIn K A_Promise (.type "type") = true)
    (cr2_Promise : PySem.W.specialIn K (.ref A_Promise) "__getattribute__" = some (some (.builtin "type.__getattribute__")))
    (cfi_Promise___init__ : PySem.W.findIn K (.ref A_Promise) "__init__" = some (some (.ref cf_Promise___init__)))
    (cfv_Promise___init__ : PySem.W.findCls K (.ref A_Promise) (.type "type") "__init__" = some (.val (.ref cf_Promise___init__)))
    {eqf_ : Addr}
    (eq1_Hoist : PySem.W.findIn K (.ref A_Hoist) "__eq__" = some (some (.ref eqf_)))
    (eq1_PromisedHoist : PySem.W.findIn K (.ref A_PromisedHoist) "__eq__" = some (some (.ref eqf_)))
    (kp_PromisedHoist_Hoist : PySem.W.subIn K (.ref A_PromisedHoist) (.ref A_Hoist) = some true)
    (kp_Hoist_PromisedHoist : PySem.W.subIn K (.ref A_Hoist) (.ref A_PromisedHoist) = some false)
    {pa_Promise_least pg_Promise_least : Addr} {pr_Promise_least : List Value} {pod_Promise_least pan_Promise_least : Option Addr} {psl_Promise_least : Array (Option Value)} {poc_Promise_least pkV_Promise_least pdc_Promise_least ppm_Promise_least pcd_Promise_least pct_Promise_least : Value}
    (q1_Promise_least_PromisedHoist : PySem.W.findIn K (.ref A_PromisedHoist) "least" = some (some (.ref pa_Promise_least)))
    (q2_Promise_least : PySem.W.specialIn K (.ref pa_Promise_least) "__get__" = some (some (.builtin "property.__get__")))
    (q3_Promise_least : PySem.W.takesIn K (.ref pa_Promise_least) = some true)
    (q4_Promise_least : PySem.W.recIn K pa_Promise_least "property" = some (.ref pg_Promise_least :: pr_Promise_least))
    (q5_Promise_least : K.lookup pg_Promise_least = some ⟨poc_Promise_least, pod_Promise_least, .func (PySem.W.fnOf "least" "Promise.least" (defArgs (memb (top 28) 1)) (defBody (memb (top 28) 1)) (defScope (memb (top 28) 1)) .none pkV_Promise_least pdc_Promise_least ppm_Promise_least pan_Promise_least pcd_Promise_least pct_Promise_least), psl_Promise_least⟩)
    (q6_Promise_least : PySem.W.codeIn K pcd_Promise_least "Promise.least" = true)
    (un_PromisedHoist__least : PySem.W.findIn K (.ref A_PromisedHoist) "_least" = some none)
    (u5_Hoist : PySem.W.findIn K (.ref A_Hoist) "__class__" = some (some (.builtin "object.__class__")))
    (u6_ : PySem.W.specialIn K (.builtin "object.__class__") "__get__" = some (some (.builtin "getset_descriptor.__get__")))
    (u7_ : PySem.W.takesIn K (.builtin "object.__class__") = some true)
    (u8_Hoist : PySem.W.mroIn K A_Hoist (.type "object") = some true)
    (u9_Hoist : PySem.W.isClsIn K A_Hoist = true)
    (u10_Hoist : PySem.W.typeIn K (.ref A_Hoist) = some (.type "type"))
    (u5_PromisedHoist : PySem.W.findIn K (.ref A_PromisedHoist) "__class__" = some (some (.builtin "object.__class__")))
    (u8_PromisedHoist : PySem.W.mroIn K A_PromisedHoist (.type "object") = some true)
    (u9_PromisedHoist : PySem.W.isClsIn K A_PromisedHoist = true)
    (u10_PromisedHoist : PySem.W.typeIn K (.ref A_PromisedHoist) = some (.type "type"))
    (ks_PromisedHoist : PySem.W.subIn K (.ref A_PromisedHoist) (.ref A_PromisedHoist) = some true)
    (ks_Hoist : PySem.W.subIn K (.ref A_Hoist) (.ref A_Hoist) = some true)
    (um_Hoist : PySem.W.makesIn K A_Hoist = true)
    (uk_Hoist : PySem.W.keepIn K (.ref A_Hoist) = true)
    (um_PromisedHoist : PySem.W.makesIn K A_PromisedHoist = true)
    (uk_PromisedHoist : PySem.W.keepIn K (.ref A_PromisedHoist) = true)
    (un_Hoist__edits : PySem.W.findIn K (.ref A_Hoist) "_edits" = some none)
    (un_PromisedHoist__edits : PySem.W.findIn K (.ref A_PromisedHoist) "_edits" = some none)
    (un_Hoist__towers : PySem.W.findIn K (.ref A_Hoist) "_towers" = some none)
    (un_PromisedHoist__towers : PySem.W.findIn K (.ref A_PromisedHoist) "_towers" = some none)
    (un_Hoist__watched : PySem.W.findIn K (.ref A_Hoist) "_watched" = some none)
    (un_PromisedHoist__watched : PySem.W.findIn K (.ref A_PromisedHoist) "_watched" = some none)
    (a22_Hoist : PySem.W.findIn K (.ref A_Hoist) "__init__" = some (some (.ref f22)))
    (a23_Hoist : PySem.W.findIn K (.ref A_Hoist) "come" = some (some (.ref f23))) (a23_PromisedHoist : PySem.W.findIn K (.ref A_PromisedHoist) "come" = some (some (.ref f23)))
    (a24_Hoist : PySem.W.findIn K (.ref A_Hoist) "leave" = some (some (.ref f24))) (a24_PromisedHoist : PySem.W.findIn K (.ref A_PromisedHoist) "leave" = some (some (.ref f24)))
    (a25_Hoist : PySem.W.findIn K (.ref A_Hoist) "weigh" = some (some (.ref f25))) (a25_PromisedHoist : PySem.W.findIn K (.ref A_PromisedHoist) "weigh" = some (some (.ref f25)))
    (a26_Hoist : PySem.W.findIn K (.ref A_Hoist) "loosen" = some (some (.ref f26))) (a26_PromisedHoist : PySem.W.findIn K (.ref A_PromisedHoist) "loosen" = some (some (.ref f26)))
    (a27_Hoist : PySem.W.findIn K (.ref A_Hoist) "_check_idle" = some (some (.ref f27))) (a27_PromisedHoist : PySem.W.findIn K (.ref A_PromisedHoist) "_check_idle" = some (some (.ref f27)))
    (a28_Hoist : PySem.W.findIn K (.ref A_Hoist) "_check_edit" = some (some (.ref f28))) (a28_PromisedHoist : PySem.W.findIn K (.ref A_PromisedHoist) "_check_edit" = some (some (.ref f28)))
    (a29_Hoist : PySem.W.findIn K (.ref A_Hoist) "_check_person" = some (some (.ref f29))) (a29_PromisedHoist : PySem.W.findIn K (.ref A_PromisedHoist) "_check_person" = some (some (.ref f29)))
    (a30_Hoist : PySem.W.findIn K (.ref A_Hoist) "_check_tower" = some (some (.ref f30)))
    (a31_Hoist : PySem.W.findIn K (.ref A_Hoist) "_keep" = some (some (.ref f31))) (a31_PromisedHoist : PySem.W.findIn K (.ref A_PromisedHoist) "_keep" = some (some (.ref f31)))
    (a32_Promise : PySem.W.findIn K (.ref A_Promise) "__init__" = some (some (.ref f32)))
    (a33_PromisedHoist : PySem.W.findIn K (.ref A_PromisedHoist) "beyond" = some (some (.ref f33)))
    (a34_PromisedHoist : PySem.W.findIn K (.ref A_PromisedHoist) "__init__" = some (some (.ref f34)))
    (a35_PromisedHoist : PySem.W.findIn K (.ref A_PromisedHoist) "_check_tower" = some (some (.ref f35)))
    (a36_Hoist : PySem.W.findIn K (.ref A_Hoist) "undo" = some (some (.ref f36))) (a36_PromisedHoist : PySem.W.findIn K (.ref A_PromisedHoist) "undo" = some (some (.ref f36)))
    (a37_Hoist : PySem.W.findIn K (.ref A_Hoist) "edits" = some (some (.ref f37))) (a37_PromisedHoist : PySem.W.findIn K (.ref A_PromisedHoist) "edits" = some (some (.ref f37)))
    (a38_Hoist : PySem.W.findIn K (.ref A_Hoist) "__len__" = some (some (.ref f38))) (a38_PromisedHoist : PySem.W.findIn K (.ref A_PromisedHoist) "__len__" = some (some (.ref f38)))
    (a39_Hoist : PySem.W.findIn K (.ref A_Hoist) "__str__" = some (some (.ref f39))) (a39_PromisedHoist : PySem.W.findIn K (.ref A_PromisedHoist) "__str__" = some (some (.ref f39)))
    (a40_Hoist : PySem.W.findIn K (.ref A_Hoist) "__eq__" = some (some (.ref f40))) (a40_PromisedHoist : PySem.W.findIn K (.ref A_PromisedHoist) "__eq__" = some (some (.ref f40)))
    (a41_Hoist : PySem.W.findIn K (.ref A_Hoist) "tower" = some (some (.ref pa41))) (a41_PromisedHoist : PySem.W.findIn K (.ref A_PromisedHoist) "tower" = some (some (.ref pa41))) (p141 : PySem.W.specialIn K (.ref pa41) "__get__" = some (some (.builtin "property.__get__"))) (p241 : PySem.W.takesIn K (.ref pa41) = some true) (p341 : PySem.W.recIn K pa41 "property" = some (.ref f41 :: pr41)) (l41 : K.lookup f41 = some ⟨oc41, od41, .func (PySem.W.fnOf "tower" "Hoist.tower" (defArgs (memb (top 42) 2)) (defBody (memb (top 42) 2)) (defScope (memb (top 42) 2)) .none kV41 dc41 pm41 an41 cd41 ct41), sl41⟩) (c41 : PySem.W.codeIn K cd41 "Hoist.tower" = true) (k41 : PySem.W.keepIn K (.ref f41) = true)
    (a42_Hoist : PySem.W.findIn K (.ref A_Hoist) "reach" = some (some (.ref pa42))) (a42_PromisedHoist : PySem.W.findIn K (.ref A_PromisedHoist) "reach" = some (some (.ref pa42))) (p142 : PySem.W.specialIn K (.ref pa42) "__get__" = some (some (.builtin "property.__get__"))) (p242 : PySem.W.takesIn K (.ref pa42) = some true) (p342 : PySem.W.recIn K pa42 "property" = some (.ref f42 :: pr42)) (l42 : K.lookup f42 = some ⟨oc42, od42, .func (PySem.W.fnOf "reach" "Hoist.reach" (defArgs (memb (top 42) 3)) (defBody (memb (top 42) 3)) (defScope (memb (top 42) 3)) .none kV42 dc42 pm42 an42 cd42 ct42), sl42⟩) (c42 : PySem.W.codeIn K cd42 "Hoist.reach" = true) (k42 : PySem.W.keepIn K (.ref f42) = true)
    (a43_Hoist : PySem.W.findIn K (.ref A_Hoist) "is_free" = some (some (.ref pa43))) (a43_PromisedHoist : PySem.W.findIn K (.ref A_PromisedHoist) "is_free" = some (some (.ref pa43))) (p143 : PySem.W.specialIn K (.ref pa43) "__get__" = some (some (.builtin "property.__get__"))) (p243 : PySem.W.takesIn K (.ref pa43) = some true) (p343 : PySem.W.recIn K pa43 "property" = some (.ref f43 :: pr43)) (l43 : K.lookup f43 = some ⟨oc43, od43, .func (PySem.W.fnOf "is_free" "Hoist.is_free" (defArgs (memb (top 42) 4)) (defBody (memb (top 42) 4)) (defScope (memb (top 42) 4)) .none kV43 dc43 pm43 an43 cd43 ct43), sl43⟩) (c43 : PySem.W.codeIn K cd43 "Hoist.is_free" = true) (k43 : PySem.W.keepIn K (.ref f43) = true)
    (a44_Hoist : PySem.W.findIn K (.ref A_Hoist) "state" = some (some (.ref f44))) (a44_PromisedHoist : PySem.W.findIn K (.ref A_PromisedHoist) "state" = some (some (.ref f44)))
    (a45_Hoist : PySem.W.findIn K (.ref A_Hoist) "walk" = some (some (.ref f45))) (a45_PromisedHoist : PySem.W.findIn K (.ref A_PromisedHoist) "walk" = some (some (.ref f45)))
    : ∃ fd : FuncData, (∀ (s : Shared) (u : Value), BindsTo s fd ⟨[u], []⟩ [("script", u)]) ∧ ∀ base : Heap, K.In base → base.Ns mainGlobals mg → (∀ p ∈ ([(cc7, Tbl.P "people_by_weight")] : List (Addr × Addr)), LamX.TabB base mg p.1 p.2) → FnG P w K mg base CX0 14 fa fd ["script"] (spU K S_law) := by
  have e := hfa.symm.trans (PySem.W.mg_of KX G a21)
  cases e
  letI I0 : Ers := ⟨fun x => match mg x with | some (.ref a) => a | _ => 0⟩
  have g_BadNumber := PySem.W.mg_of KX G kc_BadNumber
  have ad_BadNumber : Ers.ad "BadNumber" = A_BadNumber := by
    show (match mg "BadNumber" with | some (.ref a) => a | _ => 0) = _
    rw [g_BadNumber]
  have g_Hoist := PySem.W.mg_of KX G kc_Hoist
  have ad_Hoist : Ers.ad "Hoist" = A_Hoist := by
    show (match mg "Hoist" with | some (.ref a) => a | _ => 0) = _
    rw [g_Hoist]
  have g_NoVersion := PySem.W.mg_of KX G kc_NoVersion
  have ad_NoVersion : Ers.ad "NoVersion" = A_NoVersion := by
    show (match mg "NoVersion" with | some (.ref a) => a | _ => 0) = _
    rw [g_NoVersion]
  have g_Promise := PySem.W.mg_of KX G kc_Promise
  have ad_Promise : Ers.ad "Promise" = A_Promise := by
    show (match mg "Promise" with | some (.ref a) => a | _ => 0) = _
    rw [g_Promise]
  have g_PromisedHoist := PySem.W.mg_of KX G kc_PromisedHoist
  have ad_PromisedHoist : Ers.ad "PromisedHoist" = A_PromisedHoist := by
    show (match mg "PromisedHoist" with | some (.ref a) => a | _ => 0) = _
    rw [g_PromisedHoist]
  have g_TooLow := PySem.W.mg_of KX G kc_TooLow
  have ad_TooLow : Ers.ad "TooLow" = A_TooLow := by
    show (match mg "TooLow" with | some (.ref a) => a | _ => 0) = _
    rw [g_TooLow]
  have X_BadNumber : ∀ base, ErrD P w K mg base 1 "BadNumber" "value" := fun base => errD_of ad_BadNumber ⟨⟨_, _, _, _, _, _, _, _, _, _, _, _, _, _, _, xl_BadNumber, xr_BadNumber⟩, xs_BadNumber, xb_BadNumber, xt_BadNumber, xk_BadNumber⟩ g_BadNumber xn_BadNumber xi_BadNumber xf_BadNumber xm_BadNumber xo_BadNumber xp_BadNumber sx_BadNumber rfl (Or.inl rfl) (Or.inl rfl) (by decide) (by decide) (fun _ => rfl) (fun _ _ _ _ _ _ us hl => match us, hl with | [_, _], _ => rfl)
  have X_NoVersion : ∀ base, ErrL P w K mg base 1 "NoVersion" "value" := fun base => errL_of ad_NoVersion ⟨⟨_, _, _, _, _, _, _, _, _, _, _, _, _, _, _, xl_NoVersion, xr_NoVersion⟩, xs_NoVersion, xb_NoVersion, xt_NoVersion, xk_NoVersion⟩ g_NoVersion xn_NoVersion xi_NoVersion xf_NoVersion xm_NoVersion xo_NoVersion xp_NoVersion sx_NoVersion rfl (Or.inl rfl) (Or.inl rfl) (by decide) (by decide) (fun _ => rfl) (fun _ _ _ _ _ _ us hl => match us, hl with | [_, _], _ => rfl)
  have X_TooLow : ∀ base, ErrD P w K mg base 1 "TooLow" "number" := fun base => errD_of ad_TooLow ⟨⟨_, _, _, _, _, _, _, _, _, _, _, _, _, _, _, xl_TooLow, xr_TooLow⟩, xs_TooLow, xb_TooLow, xt_TooLow, xk_TooLow⟩ g_TooLow xn_TooLow xi_TooLow xf_TooLow xm_TooLow xo_TooLow xp_TooLow sx_TooLow rfl (Or.inl rfl) (Or.inl rfl) (by decide) (by decide) (fun _ => rfl) (fun _ _ _ _ _ _ us hl => match us, hl with | [_, _], _ => rfl)
  have c_TooLow : ErrC K A_TooLow := ⟨e1_TooLow, e2_TooLow, e3_TooLow, e4_TooLow, e5_TooLow, e6_TooLow, e7_TooLow, e8_TooLow, e9_TooLow⟩
  have n_TooLow : ∀ f ∈ flsK, PySem.W.findIn K (.ref A_TooLow) f = some none := (no_cons nnumber_TooLow no_nil)
  have ek : ErsK K prsK flsK := ersK_of (pk_cons (pairK ad_TooLow (clsU_ref ad_TooLow) (by decide) (exm_cls y1_TooLow y2_TooLow y3_TooLow px0) (kit_clsR sf_TooLow y2_TooLow y3_TooLow px0) c_TooLow n_TooLow) pk_nil)
  have OT : ∀ base, ObjT P w K mg base := fun base => ⟨(by rw [ad_PromisedHoist]; exact ⟨u1_PromisedHoist, u2_PromisedHoist, u3_PromisedHoist, u4_PromisedHoist⟩), (all2 (by rw [ad_Hoist]; exact ⟨u1_Hoist, u2_Hoist, u3_Hoist, u4_Hoist⟩) (by rw [ad_PromisedHoist]; exact ⟨u1_PromisedHoist, u2_PromisedHoist, u3_PromisedHoist, u4_PromisedHoist⟩)), (all1 (by rw [ad_PromisedHoist]; exact ⟨u1_PromisedHoist, u2_PromisedHoist, u3_PromisedHoist, u4_PromisedHoist⟩)), ⟨.type "type", cf_Hoist___init__, ⟨by rw [ad_Hoist]; exact cr1_Hoist, by rw [ad_Hoist]; exact cr2_Hoist⟩, by rw [ad_Hoist]; exact cfi_Hoist___init__, by rw [ad_Hoist]; exact cfv_Hoist___init__⟩, ⟨.type "type", cf_Promise___init__, ⟨by rw [ad_Promise]; exact cr1_Promise, by rw [ad_Promise]; exact cr2_Promise⟩, by rw [ad_Promise]; exact cfi_Promise___init__, by rw [ad_Promise]; exact cfv_Promise___init__⟩, (eqF_of ad_Hoist ad_PromisedHoist eq1_Hoist eq1_PromisedHoist kp_PromisedHoist_Hoist kp_Hoist_PromisedHoist), (all1 ⟨pa_Promise_least, pg_Promise_least, _, ⟨by rw [ad_PromisedHoist]; exact q1_Promise_least_PromisedHoist, q2_Promise_least, q3_Promise_least, ⟨_, q4_Promise_least⟩⟩, fn_getter q5_Promise_least q6_Promise_least (N := ["self"]) ⟨rfl, rfl, rfl, by decide +kernel, rfl, by decide +kernel, by decide +kernel⟩ rfl rfl (by rw [ad_PromisedHoist]; exact ⟨u1_PromisedHoist, u2_PromisedHoist, u3_PromisedHoist, u4_PromisedHoist⟩) (by rw [ad_PromisedHoist]; exact un_PromisedHoist__least), Binds.all fun us hl => match us, hl with | [_], _ => rfl⟩), (all2 ⟨(by rw [ad_Hoist]; exact ⟨u1_Hoist, u2_Hoist, u3_Hoist, u4_Hoist⟩), (by rw [ad_Hoist]; exact u5_Hoist), u6_, u7_, (by rw [ad_Hoist]; exact u8_Hoist), (by rw [ad_Hoist]; exact u9_Hoist), (by rw [ad_Hoist]; exact u10_Hoist)⟩ ⟨(by rw [ad_PromisedHoist]; exact ⟨u1_PromisedHoist, u2_PromisedHoist, u3_PromisedHoist, u4_PromisedHoist⟩), (by rw [ad_PromisedHoist]; exact u5_PromisedHoist), u6_, u7_, (by rw [ad_PromisedHoist]; exact u8_PromisedHoist), (by rw [ad_PromisedHoist]; exact u9_PromisedHoist), (by rw [ad_PromisedHoist]; exact u10_PromisedHoist)⟩), (all2 (by rw [ad_Hoist]; exact kit_same) (by rw [ad_PromisedHoist, ad_Hoist]; exact kit_clsR ks_PromisedHoist u9_Hoist u10_Hoist kp_PromisedHoist_Hoist)), (all2 (by rw [ad_Hoist, ad_PromisedHoist]; exact kit_clsR ks_Hoist u9_PromisedHoist u10_PromisedHoist kp_Hoist_PromisedHoist) (by rw [ad_PromisedHoist]; exact kit_same)), ⟨by rw [ad_Hoist]; exact g_Hoist, by rw [ad_Hoist]; exact um_Hoist, by rw [ad_Hoist]; exact uk_Hoist⟩, ⟨by rw [ad_PromisedHoist]; exact g_PromisedHoist, by rw [ad_PromisedHoist]; exact um_PromisedHoist, by rw [ad_PromisedHoist]; exact uk_PromisedHoist⟩, (all2 (by rw [ad_Hoist]; exact un_Hoist__edits) (by rw [ad_PromisedHoist]; exact un_PromisedHoist__edits)), (all2 (by rw [ad_Hoist]; exact un_Hoist__towers) (by rw [ad_PromisedHoist]; exact un_PromisedHoist__towers)), (all2 (by rw [ad_Hoist]; exact un_Hoist__watched) (by rw [ad_PromisedHoist]; exact un_PromisedHoist__watched)), (all1 (by rw [ad_PromisedHoist]; exact un_PromisedHoist__least))⟩
  have T : Txt mg := ⟨⟨_, PySem.W.mg_of KX G m0⟩, ⟨_, PySem.W.mg_of KX G m1⟩, ⟨_, PySem.W.mg_of KX G m2⟩, ⟨_, PySem.W.mg_of KX G m3⟩, ⟨_, PySem.W.mg_of KX G m4⟩, PySem.W.mg_none_of KX G z0, PySem.W.mg_none_of KX G z1, PySem.W.mg_none_of KX G z2, PySem.W.mg_none_of KX G z3, PySem.W.mg_none_of KX G z4, PySem.W.mg_none_of KX G z5, PySem.W.mg_none_of KX G z6, PySem.W.mg_none_of KX G z7, PySem.W.mg_none_of KX G z8, PySem.W.mg_none_of KX G z9, PySem.W.mg_none_of KX G z10, PySem.W.mg_none_of KX G z11, PySem.W.mg_none_of KX G z12, PySem.W.mg_none_of KX G z13, PySem.W.mg_none_of KX G z14, (by rw [ad_BadNumber]; exact g_BadNumber), (by rw [ad_Hoist]; exact g_Hoist), (by rw [ad_NoVersion]; exact g_NoVersion), (by rw [ad_Promise]; exact g_Promise), (by rw [ad_PromisedHoist]; exact g_PromisedHoist), (by rw [ad_TooLow]; exact g_TooLow)⟩
  refine ⟨_, fun s u => .of_eq rfl, fun base _ _ hB => law_fdT (I := fun b => b = base) l21 hfa (fun b e => by
    subst e
    exact all_ok (base := b) T ek (X_BadNumber b) (X_NoVersion b) (X_TooLow b) (OT b) (DefAt.mk KX G a0 l0 c0 k0) (DefAt.mk KX G a1 l1 c1 k1) (DefAt.mk KX G a2 l2 c2 k2) (DefAt.mk KX G a3 l3 c3 k3) (DefAt.mk KX G a4 l4 c4 k4) (DefAt.mk KX G a5 l5 c5 k5) (DefAt.mk KX G a6 l6 c6 k6) (hB _ (.head _)) (DefAtC.mk KX G a7 l7 c7 k7) (DefAt.mk KX G a8 l8 c8 k8) (DefAt.mk KX G a9 l9 c9 k9) (DefAt.mk KX G a10 l10 c10 k10) (DefAt.mk KX G a11 l11 c11 k11) (DefAt.mk KX G a12 l12 c12 k12) (DefAt.mk KX G a13 l13 c13 k13) (DefAt.mk KX G a14 l14 c14 k14) (DefAt.mk KX G a15 l15 c15 k15) (DefAt.mk KX G a16 l16 c16 k16) (DefAt.mk KX G a17 l17 c17 k17) (DefAt.mk KX G a18 l18 c18 k18) (DefAt.mk KX G a19 l19 c19 k19) (DefAt.mk KX G a20 l20 c20 k20) (DefAt.mk KX G a21 l21 c21 k21) ⟨_, _, by rw [ad_Hoist]; exact a22_Hoist, v22, w22, fun_mk l22 c22 k22⟩ (all2 ⟨_, _, by rw [ad_Hoist]; exact a23_Hoist, v23, w23, fun_mk l23 c23 k23⟩ ⟨_, _, by rw [ad_PromisedHoist]; exact a23_PromisedHoist, v23, w23, fun_mk l23 c23 k23⟩) (all2 ⟨_, _, by rw [ad_Hoist]; exact a24_Hoist, v24, w24, fun_mk l24 c24 k24⟩ ⟨_, _, by rw [ad_PromisedHoist]; exact a24_PromisedHoist, v24, w24, fun_mk l24 c24 k24⟩) (all2 ⟨_, _, by rw [ad_Hoist]; exact a25_Hoist, v25, w25, fun_mk l25 c25 k25⟩ ⟨_, _, by rw [ad_PromisedHoist]; exact a25_PromisedHoist, v25, w25, fun_mk l25 c25 k25⟩) (all2 ⟨_, _, by rw [ad_Hoist]; exact a26_Hoist, v26, w26, fun_mk l26 c26 k26⟩ ⟨_, _, by rw [ad_PromisedHoist]; exact a26_PromisedHoist, v26, w26, fun_mk l26 c26 k26⟩) (all2 ⟨_, _, by rw [ad_Hoist]; exact a27_Hoist, v27, w27, fun_mk l27 c27 k27⟩ ⟨_, _, by rw [ad_PromisedHoist]; exact a27_PromisedHoist, v27, w27, fun_mk l27 c27 k27⟩) (all2 ⟨_, _, by rw [ad_Hoist]; exact a28_Hoist, v28, w28, fun_mk l28 c28 k28⟩ ⟨_, _, by rw [ad_PromisedHoist]; exact a28_PromisedHoist, v28, w28, fun_mk l28 c28 k28⟩) (all2 ⟨_, _, by rw [ad_Hoist]; exact a29_Hoist, v29, w29, fun_mk l29 c29 k29⟩ ⟨_, _, by rw [ad_PromisedHoist]; exact a29_PromisedHoist, v29, w29, fun_mk l29 c29 k29⟩) ⟨_, _, by rw [ad_Hoist]; exact a30_Hoist, v30, w30, fun_mk l30 c30 k30⟩ (all2 ⟨_, _, by rw [ad_Hoist]; exact a31_Hoist, v31, w31, fun_mk l31 c31 k31⟩ ⟨_, _, by rw [ad_PromisedHoist]; exact a31_PromisedHoist, v31, w31, fun_mk l31 c31 k31⟩) ⟨_, _, by rw [ad_Promise]; exact a32_Promise, v32, w32, fun_mk l32 c32 k32⟩ (all1 ⟨_, _, by rw [ad_PromisedHoist]; exact a33_PromisedHoist, v33, w33, fun_mk l33 c33 k33⟩) ⟨_, _, by rw [ad_PromisedHoist]; exact a34_PromisedHoist, v34, w34, fun_mk l34 c34 k34⟩ ⟨_, _, by rw [ad_PromisedHoist]; exact a35_PromisedHoist, v35, w35, fun_mk l35 c35 k35⟩ (all2 ⟨_, _, by rw [ad_Hoist]; exact a36_Hoist, v36, w36, fun_mk l36 c36 k36⟩ ⟨_, _, by rw [ad_PromisedHoist]; exact a36_PromisedHoist, v36, w36, fun_mk l36 c36 k36⟩) (all2 ⟨_, _, by rw [ad_Hoist]; exact a37_Hoist, v37, w37, fun_mk l37 c37 k37⟩ ⟨_, _, by rw [ad_PromisedHoist]; exact a37_PromisedHoist, v37, w37, fun_mk l37 c37 k37⟩) (all2 ⟨_, _, by rw [ad_Hoist]; exact a38_Hoist, v38, w38, fun_mk l38 c38 k38⟩ ⟨_, _, by rw [ad_PromisedHoist]; exact a38_PromisedHoist, v38, w38, fun_mk l38 c38 k38⟩) (all2 ⟨_, _, by rw [ad_Hoist]; exact a39_Hoist, v39, w39, fun_mk l39 c39 k39⟩ ⟨_, _, by rw [ad_PromisedHoist]; exact a39_PromisedHoist, v39, w39, fun_mk l39 c39 k39⟩) (all2 ⟨_, _, by rw [ad_Hoist]; exact a40_Hoist, v40, w40, fun_mk l40 c40 k40⟩ ⟨_, _, by rw [ad_PromisedHoist]; exact a40_PromisedHoist, v40, w40, fun_mk l40 c40 k40⟩) (all2 ⟨_, _, _, ⟨by rw [ad_Hoist]; exact a41_Hoist, p141, p241, ⟨_, p341⟩⟩, fun_mk l41 c41 k41⟩ ⟨_, _, _, ⟨by rw [ad_PromisedHoist]; exact a41_PromisedHoist, p141, p241, ⟨_, p341⟩⟩, fun_mk l41 c41 k41⟩) (all2 ⟨_, _, _, ⟨by rw [ad_Hoist]; exact a42_Hoist, p142, p242, ⟨_, p342⟩⟩, fun_mk l42 c42 k42⟩ ⟨_, _, _, ⟨by rw [ad_PromisedHoist]; exact a42_PromisedHoist, p142, p242, ⟨_, p342⟩⟩, fun_mk l42 c42 k42⟩) (all2 ⟨_, _, _, ⟨by rw [ad_Hoist]; exact a43_Hoist, p143, p243, ⟨_, p343⟩⟩, fun_mk l43 c43 k43⟩ ⟨_, _, _, ⟨by rw [ad_PromisedHoist]; exact a43_PromisedHoist, p143, p243, ⟨_, p343⟩⟩, fun_mk l43 c43 k43⟩) (all2 (methN_of ad_Hoist a44_Hoist v44 l44 n44 c44 k44) (methN_of ad_PromisedHoist a44_PromisedHoist v44 l44 n44 c44 k44)) (all2 (methN_of ad_Hoist a45_Hoist v45 l45 n45 c45 k45) (methN_of ad_PromisedHoist a45_PromisedHoist v45 l45 n45 c45 k45))) base rfl⟩
end K52
open PySem PySem.W PyProof.Rows
theorem PySem.Challenge.cw_basketrope_k52_whole_promised_and_plain_holds : PySem.Challenge.rw_basketrope_k52_whole_promised_and_plain.Holds := by
  letI I0 : DL.Tbl := ⟨fun _ => 321⟩
  refine K52.head (fun K => DL.spU K (@K52.S_law I0)) (fun {P w K h mg fa} => K52.fin) (fun CC => ?_)
  refine fun K hp a ns hl hz na sq => DL.law_spT (Z := @DL.TabOn I0 "people_by_weight") (l := [(321, DL.lamQ "people_by_weight")]) hp a ns hl (fun p m => ?_) (fun p m => ?_) rfl sq
  · cases m with
    | head => exact na _ (.head _)
    | tail _ z => cases z
  · cases m with
    | head => exact hz _ (.head _)
    | tail _ z => cases z

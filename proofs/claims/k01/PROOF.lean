import PyProof.Rows.All
import Wide.All
import OpenK.AllK
import Wide.FinOn
import HandS.ForMost
import HandS.ForExc
import HandS.ExcInit
import HandS.ExcValue
import HandS.ExcIs
import HandS.IsInst
import HandS.Wide
import HandS.Defaults
import HandS.MakeKw
import KE.KExcIs
import HandS.Star
import HandS.Gcd
import HandS.CallLocal
import HandS.CallSlots
import HandS.WordsExc
import PyProof.NeKinds
import HandS.Walk
import PySem.Challenge.RW_pawlhall_k01_fractions
set_option Elab.async false
set_option linter.all false
set_option maxRecDepth 100000
set_option maxHeartbeats 2000000
namespace Paw
open PySem PySem.Spec PyProof.Rows L2

/-! ### defs that want to know that no repr is under way around them -/
/-- the table of modules is where it was booted, and nobody tracks it -/
def Sys (h : Heap) (H : Hp) : Prop := H sysModules = none ∧ ∃ (o : Obj) (es : Array DictEntry) (ep : Nat), h.get? sysModules = some o ∧ o.data = .dict es ep
structure FnG (P : Program) (w : World) (K : PySem.W.Frag) (mg : Str → Option Value) (base : Heap) (CX : CXT) (k : Nat) (f : Addr) (fd : FuncData) (ps : List Str) (sp : Sp) : Prop where
  arity : ∀ vs H Q E, sp vs H Q E → vs.length = ps.length
  goes : ∀ (A : Around), A.guards = some [] → ∀ (outer : List Env) (s : Shared) (H : Hp) (args : Args) (us : List Value) (vs : List V) (Q : VK) (E : XK),
    Sys s.heap H → Room k A → Env0 P w K mg base A outer s H → BindsTo s fd args (ps.zip us) → Vals vs us → sp vs H Q E →
      codeAny (model P w) A (.call (.ref f) args) (CR CX outer P w H s Q E) s

section
variable {P : Program} {w : World} {K : PySem.W.Frag} {mg : Str → Option Value} {base : Heap} {CX : CXT} {k j : Nat} {f : Addr} {fd : FuncData} {ps : List Str} {sp : Sp}
theorem FnG.of (F : FnOk P w K mg base CX k f fd ps sp) : FnG P w K mg base CX k f fd ps sp := ⟨F.len, fun A _ o s H args us vs Q E _ => F.run A o s H args us vs Q E⟩
theorem FnG.up (F : FnG P w K mg base CX j f fd ps sp) (h : j ≤ k) : FnG P w K mg base CX k f fd ps sp :=
  ⟨F.arity, fun A g o s H args us vs Q E hS hr => F.goes A g o s H args us vs Q E hS (hr.mono h)⟩
end

theorem fnG_of {CX : CXT} {P : Program} {w : World} {K : PySem.W.Frag} {mg : Str → Option Value} {base : Heap} {k : Nat} {f : Addr} {name qual : Str} {params : Arguments} {body : List Stmt} {scope : Scope}
    {dV kV doc pm cdv ct oc : Value} {an od : Option Addr} {osl : Array (Option Value)} {N ps : List Str} {sp : Sp}
    (here : K.lookup f = some ⟨oc, od, .func (PySem.W.fnOf name qual params body scope dV kV doc pm an cdv ct), osl⟩) (code : PySem.W.codeIn K cdv qual = true) (S : FnScope N ps scope)
    (arity : ∀ vs H Q E, sp vs H Q E → vs.length = ps.length)
    (inner : ∀ (A : Around), A.guards = some [] → ∀ (outer : List Env) (s : Shared) (H : Hp) (vs : List V) (Q : VK) (E : XK), Sys s.heap H → Room k (A.deeper (envOfC qual scope s.heap.objs.size f cdv)) → sp vs H Q E →
      ∃ t, PSs (cxOf CX P w K mg base N qual scope f cdv A outer s H E) body t ∧ t { nx := fun _ H' => Q .non H', rt := Q } (start N vs) H) :
    FnG P w K mg base CX (k + 1) f (PySem.W.fnOf name qual params body scope dV kV doc pm an cdv ct) ps sp := by
  constructor
  · exact arity
  intro A hG outer s H args us vs Q E hS room e0 bound rel want
  have KIn : K.In s.heap := e0.mod.kin.keeps fun b o e => (e0.bs b o e).1
  have free : s.heap.NoLimit := e0.mod.nolimit.keeps fun b o e => (e0.bs b o e).1
  have places : ∀ y ∈ ps.zip us, scope.names.lookup y.1 = some .local ∨ (scope.names.lookup y.1 = some .cell ∧ ((cellsFrom (s.heap.objs.size + 1) scope.names []).lookup y.1).isSome = true) := by
    rintro ⟨n, v⟩ hy
    have hn := (List.of_mem_zip hy).1
    rcases S.par n hn with q | q
    · exact Or.inl q
    · exact Or.inr ⟨q, PySem.W.cellsFrom_some _ _ _ (Or.inl q)⟩
  apply codeAny_call_function room.depth (KIn _ _ here) rfl S.co S.gen rfl (PySem.W.codeRec_of KIn code) (bound _ _ _ _ _)
  apply wpAny_newFunctionEnv_cells S.kind places
  intro env he s1 x
  cases he
  refine ⟨free.keeps x.toInCall.keep, codeAny_func ?_⟩
  have ⟨t, ht, hq⟩ := inner A hG outer s H vs Q E hS (room.deeper _) want
  have I := inv_start (CX := CX) (E := E) S room.hd e0 (arity _ _ _ _ want) rel x
  apply wpAny_mono (ht.run [] s1 (start N vs) H _ I hq)
  · intro fl s' hs
    cases fl with
    | ret u =>
      have ⟨v, σ', H', J, rv, q⟩ := hs
      exact ⟨v, H', J.os, J.bare, J.base, J.hok, rv, q⟩
    | next =>
      have ⟨σ', H', J, q⟩ := hs
      exact ⟨V.non, H', J.os, J.bare, J.base, J.hok, rfl, q⟩
    | brk => exact hs.elim fun _ ⟨_, _, q⟩ => q.elim
    | cont => exact hs.elim fun _ ⟨_, _, q⟩ => q.elim
  · exact fun e s' hs => hs
section
variable {P : Program} {w : World} {K : PySem.W.Frag} {mg : Str → Option Value} {base : Heap}
/-- a def of the text that may look at repr -/
theorem funG {CX : CXT} {x qual : Str} {st : Stmt} {f : Addr} {fd : FuncData} {N ps : List Str} {k : Nat} {sp : Sp} (F : Fun K x qual st f fd) (S : FnScope N ps (defScope st)) (arity : ∀ vs H Q E, sp vs H Q E → vs.length = ps.length)
    (body : ∀ (cdv : Value) (A : Around), A.guards = some [] → ∀ (outer : List Env) (s : Shared) (H : Hp) (vs : List V) (Q : VK) (E : XK), Sys s.heap H → Room k (A.deeper (envOfC qual (defScope st) s.heap.objs.size f cdv)) → sp vs H Q E →
      ∃ t, PSs (cxOf CX P w K mg base N qual (defScope st) f cdv A outer s H E) (defBody st) t ∧ t { nx := fun _ H' => Q .non H', rt := Q } (start N vs) H) : FnG P w K mg base CX (k + 1) f fd ps sp := by
  have ⟨oc, od, kV, doc, pm, an, cdv, ct, osl, e, here, code⟩ := F.ex
  cases e
  exact fnG_of here code S arity (body cdv)
/-- .. out of which nothing is raised -/
theorem funG0 {x qual : Str} {st : Stmt} {f : Addr} {fd : FuncData} {N ps : List Str} {k : Nat} {sp : Sp} (F : Fun K x qual st f fd) (S : FnScope N ps (defScope st)) (arity : ∀ vs H Q E, sp vs H Q E → vs.length = ps.length)
    (body : ∀ (cdv : Value) (A : Around), A.guards = some [] → ∀ (outer : List Env) (s : Shared) (H : Hp) (vs : List V) (Q : VK) (E : XK), Sys s.heap H → Room k (A.deeper (envOfC qual (defScope st) s.heap.objs.size f cdv)) → sp vs H Q E →
      ∃ t, PSs (cxOf CX0 P w K mg base N qual (defScope st) f cdv A outer s H E).nox (defBody st) t ∧ t { nx := fun _ H' => Q .non H', rt := Q } (start N vs) H) : FnG P w K mg base CX0 (k + 1) f fd ps sp := by
  refine funG F S arity fun cdv A hG outer s H vs Q E hS room want => ?_
  obtain ⟨t, h, q⟩ := body cdv A hG outer s H vs Q E hS room want
  exact ⟨t, h.nox, q⟩
end
section
variable {X : Cx} {pins : List (Addr × Obj)} {σ : L2.St} {H : Hp} {s : Shared}
theorem sys_inv (I : Inv X pins σ H s) (S : Sys X.s_0.heap X.H_0) (hx : X.ex = []) : Sys s.heap H := by
  obtain ⟨h1, o, es, ep, h2, h3⟩ := S
  have nx : sysModules ∉ X.ex := by rw [hx]; exact List.not_mem_nil
  obtain ⟨sl, h4⟩ := I.base.any h2 h1 nx
  exact ⟨I.base.free _ o h2 h1 nx, _, es, ep, h4, h3⟩
/-- what a def that looks at repr must find around it -/
structure Gd (X : Cx) : Prop where
  g : X.A.guards = some []
  s : Sys X.s_0.heap X.H_0
  x : X.ex = []
variable {CX : CXT} {k : Nat} {f : Addr} {fd : FuncData} {ps : List Str} {sp : Sp} {dvs : List V} {ds : List Value} {E : XK} {x : Str} {p pos : Pos} {e : Expr} {es : List Expr} {t : TA}
theorem callee_goes {Q : VK} {us : List Value} {vs : List V} (F : FnG X.prog X.w X.K X.mg X.base CX k f fd ps sp) (g : Gd X) (hr : Room k X.A) (hb : Binds X.K fd ps ds) (hd : Vals dvs ds) (hx : Passes CX X E)
    (I : Inv X pins σ H s) (r : Vals vs us) (h : sp (vs ++ dvs) H Q E) : wpAny (model X.prog X.w) X.A (call (.ref f) us) (EP X pins σ Q) X.xe s := by
  have rel : Vals (vs ++ dvs) (us ++ ds) := r.append hd
  have many : (us ++ ds).length = ps.length := rel.length.symm.trans (F.arity _ _ _ _ h)
  apply wpAny_call
  apply codeAny_mono (F.goes X.A g.g X.stack s H ⟨us, []⟩ (us ++ ds) (vs ++ dvs) Q E (sys_inv I g.s g.x) hr I.env0 (hb s us I.kIn many) rel h)
  intro r s' q
  match r, q with
  | .error e, q => exact hx pins σ H s e s' I q
  | .ok (.ret u), q => exact I.after q
/-- f(e, ..), f a def that looks at repr -/
theorem pe_callG (F : FnG X.prog X.w X.K X.mg X.base CX k f fd ps sp) (g : Gd X) (hr : Room k X.A) (hg : Gl X x) (hm : X.mg x = some (.ref f)) (hk : PySem.W.keepIn X.K (.ref f) = true) (hb : Binds X.K fd ps ds) (hd : Vals dvs ds) (hx : Passes CX X E)
    (ha : PA X (e :: es) t) (hdb : (x == ("__debug__" : Str)) = false := by decide) (he : starEach (e :: es) X.env = (false, eval e X.env) :: starEach es X.env := by rfl) (hpl : (backTo pos (starEach es X.env)).any (·.1) = false := by rfl) :
    PE X (.Call (.Name x p) (e :: es) [] pos) (tCall sp dvs E t) := by
  constructor
  intro pins s σ H Q I h
  apply wpAny_Call_Name_kw
  apply ld_glob I hg hm _ hdb
  apply PySem.W.callWith_K (h₀ := X.base) I.ok.mod.kin hk _ he hpl
  apply thn (ha.run pos pins s σ H _ I h)
  rintro us s1 ⟨vs, H1, I1, r, q⟩
  exact ⟨I1.kIn, callee_goes F g hr hb hd hx I1 r q⟩
/-- f(), f a def that looks at repr -/
theorem pe_callG0 (F : FnG X.prog X.w X.K X.mg X.base CX k f fd ps sp) (g : Gd X) (hr : Room k X.A) (hg : Gl X x) (hm : X.mg x = some (.ref f)) (hk : PySem.W.keepIn X.K (.ref f) = true) (hb : Binds X.K fd ps ds) (hd : Vals dvs ds) (hx : Passes CX X E)
    (hdb : (x == ("__debug__" : Str)) = false := by decide) : PE X (.Call (.Name x p) [] [] pos) (tCall sp dvs E tNil) := by
  constructor
  intro pins s σ H Q I h
  apply wpAny_Call_Name_kw
  apply ld_glob I hg hm _ hdb
  exact PySem.W.callWith_K0 I.kIn hk (callee_goes (us := []) F g hr hb hd hx I .nil h)
end
end Paw

set_option maxRecDepth 100000
set_option maxHeartbeats 2000000
namespace Paw
open PySem PySem.Spec PyProof.Rows L2

/-! ### data on the heap, dicts too, and its repr -/
def dKey : Key → PyData
  | .inl i => .int i
  | .inr x => .str x
mutual
inductive RD (K : PySem.W.Frag) (H : Hp) : V → PyData → Prop
  | non : RD K H .non .none
  | bl (b : Bool) : RD K H (.bl b) (.bool b)
  | int (i : Int) : RD K H (.int i) (.int i)
  | str (x : Str) : RD K H (.str x) (.str x)
  | lst {a : Addr} {xs : List V} {ds : List PyData} (h : SqL K H a xs) (hs : RDs K H xs ds) : RD K H (.ref a) (.list ds)
  | tup {a : Addr} {xs : List V} {ds : List PyData} (h : SqT K H a xs) (hs : RDs K H xs ds) : RD K H (.ref a) (.tuple ds)
  | dic {a : Addr} {kvs : List (Key × V)} {ds : List (PyData × PyData)} (h : H a = some (.dK kvs)) (hs : RDk K H kvs ds) : RD K H (.ref a) (.dict ds)
inductive RDs (K : PySem.W.Frag) (H : Hp) : List V → List PyData → Prop
  | nil : RDs K H [] []
  | cons {v : V} {vs : List V} {d : PyData} {ds : List PyData} (h : RD K H v d) (hs : RDs K H vs ds) : RDs K H (v :: vs) (d :: ds)
inductive RDk (K : PySem.W.Frag) (H : Hp) : List (Key × V) → List (PyData × PyData) → Prop
  | nil : RDk K H [] []
  | cons {k : Key} {v : V} {vs : List (Key × V)} {d : PyData} {ds : List (PyData × PyData)} (h : RD K H v d) (hs : RDk K H vs ds) : RDk K H ((k, v) :: vs) ((dKey k, d) :: ds)
end
section
variable {X : Cx} {pins : List (Addr × Obj)} {σ : L2.St} {H : Hp} {s : Shared}
theorem key_reads {h : Heap} {P : Program} {w : World} {k : Key} {v : Value} (e : (mixKind P w).is k v = true) : Reads h v (dKey k) [] := by
  rcases keyIs_shape (show keyIs k v = true from e) with ⟨i, t, rfl, rfl⟩ | ⟨x, t, rfl, rfl⟩
  · exact Reads.int i t
  · exact Reads.str x t
theorem app_no {as bs : List Addr} {a : Addr} (h1 : a ∉ as) (h2 : a ∉ bs) : a ∉ as ++ bs := fun z => (List.mem_append.mp z).elim h1 h2
theorem cons_no {bs : List Addr} {a b : Addr} (h1 : a ≠ b) (h2 : a ∉ bs) : a ∉ b :: bs := fun z => (List.mem_cons.mp z).elim h1 h2
mutual
theorem RD.reads (I : Inv X pins σ H s) (S : Sys s.heap H) : ∀ (d : PyData) (v : V) (u : Value), RD X.K H v d → RelV v u → ∃ as, Reads s.heap u d as ∧ sysModules ∉ as
  | .none, _, _, h, r => by
    cases h
    cases r
    exact ⟨[], Reads.none, List.not_mem_nil⟩
  | .bool b, _, _, h, r => by
    cases h
    cases r
    exact ⟨[], Reads.bool b, List.not_mem_nil⟩
  | .int i, _, _, h, r => by
    cases h
    obtain ⟨t, rfl⟩ := r
    exact ⟨[], Reads.int i t, List.not_mem_nil⟩
  | .str x, _, _, h, r => by
    cases h
    obtain ⟨t, rfl⟩ := r
    exact ⟨[], Reads.str x t, List.not_mem_nil⟩
  | .list ds, _, _, h, r => by
    cases h with
    | @lst a xs _ hs ha =>
      cases r
      obtain ⟨its, rv, ⟨o, n, ho, hc, _, hd⟩, _⟩ := I.list hs
      obtain ⟨as, hr, hn⟩ := RDs.reads I S ds _ its ha rv
      refine ⟨_, Reads.list ho hc hd hr, cons_no (fun z => ?_) hn⟩
      obtain ⟨_, o', es, ep, e1, e2⟩ := S
      rw [z, ho] at e1
      have e3 := Option.some.inj e1
      rw [← e3, hd] at e2
      cases e2
  | .tuple ds, _, _, h, r => by
    cases h with
    | tup hs ha =>
      cases r
      obtain ⟨its, rv, ⟨o, ho, hc, n, hd⟩, _⟩ := I.tuple hs
      obtain ⟨as, hr, hn⟩ := RDs.reads I S ds _ its ha rv
      exact ⟨_, Reads.tuple ho hc hd hr, hn⟩
  | .dict ds, _, _, h, r => by
    cases h with
    | @dic a kvs _ hs ha =>
      cases r
      obtain ⟨_, hz, vs, rel, o, es, ep, ho, hx, hd, _, hp, _⟩ := dk_of I.hok hs
      obtain ⟨bs, h1, h2, hn⟩ := RDk.reads I S ds kvs vs es.toList ha rel hp
      exact ⟨_, Reads.dict ho hx.1 hd h1 h2, app_no (cons_no (fun z => by rw [z] at hz; exact absurd hz (by simp)) List.not_mem_nil) hn⟩
theorem RDs.reads (I : Inv X pins σ H s) (S : Sys s.heap H) : ∀ (ds : List PyData) (vs : List V) (us : List Value), RDs X.K H vs ds → Vals vs us → ∃ as, ReadsAll s.heap us ds as ∧ sysModules ∉ as
  | [], _, _, h, r => by
    cases h
    cases r
    exact ⟨[], ReadsAll.nil, List.not_mem_nil⟩
  | d :: ds, _, _, h, r => by
    cases h with
    | cons h1 h2 =>
      cases r with
      | cons r1 r2 =>
        obtain ⟨as, q1, n1⟩ := RD.reads I S d _ _ h1 r1
        obtain ⟨bs, q2, n2⟩ := RDs.reads I S ds _ _ h2 r2
        exact ⟨_, ReadsAll.cons q1 q2, app_no n1 n2⟩
theorem RDk.reads (I : Inv X pins σ H s) (S : Sys s.heap H) : ∀ (ds : List (PyData × PyData)) (kvs : List (Key × V)) (vs : List (Key × Value)) (es : List DictEntry), RDk X.K H kvs ds → KV kvs vs → Pairs (mixKind X.prog X.w) es vs →
    ∃ bs, ReadsAll s.heap (es.map (·.key)) (ds.map (·.1)) [] ∧ ReadsAll s.heap (es.map (·.val)) (ds.map (·.2)) bs ∧ sysModules ∉ bs
  | [], _, _, _, h, r, p => by
    cases h
    cases r
    cases p
    exact ⟨[], ReadsAll.nil, ReadsAll.nil, List.not_mem_nil⟩
  | (kd, d) :: ds, _, _, _, h, r, p => by
    cases h with
    | cons h1 h2 =>
      cases r with
      | @cons _ q _ _ r1 r2 =>
        cases p with
        | @cons e _ es _ p1 p2 p3 =>
          obtain ⟨k1, r1⟩ := r1
          obtain ⟨as, q1, n1⟩ := RD.reads I S d _ e.val h1 (by rw [p2]; exact r1)
          obtain ⟨bs, q2, q3, n2⟩ := RDk.reads I S ds _ _ es h2 r2 p3
          have kr : Reads s.heap e.key (dKey q.1) [] := key_reads p1
          refine ⟨as ++ bs, ?_, ReadsAll.cons q1 q3, app_no n1 n2⟩
          have z := ReadsAll.cons kr q2
          rw [← k1] at z
          exact z
end
end
def rReprD (K : PySem.W.Frag) : List V → Hp → VK → Prop := fun xs H Q => ∃ (x : V) (d : PyData), xs = [x] ∧ RD K H x d ∧ d.showable = true ∧ d.shown.length ≤ sizeLine ∧ d.depth ≤ 50 ∧ Q (.str d.shown) H
theorem call_reprD {X : Cx} {k : Nat} (g : Gd X) (hr : Room k X.A) : CallR X (.builtin "repr") (rReprD X.K) := by
  intro pins s σ H xs us Q I r h
  obtain ⟨x, d, rfl, hd, sh, sz, dp, q⟩ := h
  obtain ⟨u, rfl, ru⟩ := vals1 r
  have S := sys_inv I g.s g.x
  obtain ⟨as, rd, hn⟩ := RD.reads I S d x u hd ru
  have hu : X.A.units + (d.depth + 1) < cLine := by have := hr.units; omega
  cases rd with
  | none => exact P.repr_of_none ⟨.str _, H, I.tok _, ⟨_, rfl⟩, q⟩
  | bool b => exact P.repr_of_bool ⟨.str _, H, I.tok _, ⟨_, rfl⟩, q⟩
  | int i t => exact P.repr_of_int (by simpa [PyData.showable] using sh) ⟨.str _, H, I.tok _, ⟨_, rfl⟩, q⟩
  | str y t => exact P.repr_of_str ⟨.str _, H, I.tok _, ⟨_, rfl⟩, q⟩ sz
  | list e1 e2 e3 e4 => exact repr_of_reads' (Reads.list e1 e2 e3 e4) sh (fun _ => hn) g.g hu (fun _ _ e => e) (fun h' u tk hk => ⟨.str _, H, I.kept (t' := tk) hk, ⟨u, rfl⟩, q⟩) sz
  | tuple e1 e2 e3 e4 => exact repr_of_reads' (Reads.tuple e1 e2 e3 e4) sh (fun _ => hn) g.g hu (fun _ _ e => e) (fun h' u tk hk => ⟨.str _, H, I.kept (t' := tk) hk, ⟨u, rfl⟩, q⟩) sz
  | dict e1 e2 e3 e4 e5 => exact repr_of_reads' (Reads.dict e1 e2 e3 e4 e5) sh (fun _ => hn) g.g hu (fun _ _ e => e) (fun h' u tk hk => ⟨.str _, H, I.kept (t' := tk) hk, ⟨u, rfl⟩, q⟩) sz
end Paw

set_option maxRecDepth 100000
set_option maxHeartbeats 2000000
namespace Paw
open PySem PySem.Spec PyProof.Rows L2

/-! ### a law's end, from the promise of a def that may look at repr -/
def GoesWell (s1 : Shared) (r : Result) (s' : Shared) : Prop := r = .ok (.ret (.bool true)) ∧ OldK s1.heap s'.heap ∧ s'.os = s1.os ∧ AllBare s'.gens
/-- the call of the law from an abstract heap in which at most the script stands -/
theorem law_coreG {P : Program} {w : World} {K : PySem.W.Frag} {mg mb : Str → Option Value} {CX : CXT} {k : Nat} {fa a : Addr} {fd : FuncData} {x : Str} {sp : Sp} {s1 : Shared} {oa : Obj} {H : Hp}
    (KIn : K.In s1.heap) (nsG : s1.heap.Ns mainGlobals mg) (nsB : s1.heap.Ns builtinsNs mb) (boot : ∀ x : Str, x ≠ "__name__" → mb x = bootBuiltins x) (lim : s1.heap.NoLimit) (mods : ∃ mm, s1.heap.Ns sysModules mm) (gens : s1.gens = #[])
    (ha : s1.heap.get? a = some oa) (hna : ∀ es ep, oa.data ≠ .dict es ep) (room : Room k callerA)
    (F : ∀ base : Heap, K.In base → base.Ns mainGlobals mg → FnG P w K mg base CX k fa fd [x] sp) (bind : ∀ (s : Shared) (u : Value), BindsTo s fd ⟨[u], []⟩ [(x, u)])
    (only : Only H) (alone : ∀ b, H b ≠ none → b = a) (apart : H a ≠ none → K.lookup a = none) (ok : HOk P w H s1.heap)
    (want : sp [.ref a] H (fun v _ => v = .bl true) fun _ _ _ => False) (calm : ∀ e s', CX [] H s1 (fun _ _ _ => False) e s' → False) :
    codeAny (model P w) callerA (.call (.ref fa) ⟨[.ref a], []⟩) (GoesWell s1) s1 := by
  have free_of : ∀ {b : Addr} {o : Obj} {es : Array DictEntry} {ep : Nat}, s1.heap.get? b = some o → o.data = .dict es ep → H b = none := by
    intro b o es ep e d
    cases q : H b with
    | none => rfl
    | some u =>
      have eb := alone b (by rw [q]; exact Option.some_ne_none u)
      rw [eb, ha] at e
      cases e
      exact absurd d (hna es ep)
  have hid : ∀ {b : Addr} {m : Str → Option Value}, s1.heap.Ns b m → (hidT s1.heap H).Ns b m := by
    rintro b m ⟨o, es, ep, e, d, rest⟩
    exact ⟨o, es, ep, hidT_get e (free_of e d), d, rest⟩
  have KBase : K.In (hidT s1.heap H) := by
    intro b o e
    refine hidT_get (KIn b o e) ?_
    cases q : H b with
    | none => rfl
    | some u =>
      have nn : H b ≠ none := by rw [q]; exact Option.some_ne_none u
      have eb := alone b nn
      rw [eb] at nn e
      rw [apart nn] at e
      cases e
  have M : Mod K mg (hidT s1.heap H) := by
    refine ⟨KBase, hid nsG, ⟨mb, hid nsB, boot⟩, ?_⟩
    obtain ⟨mc, q1, q2⟩ := lim
    exact ⟨mc, hid q1, q2⟩
  have e0 : Env0 P w K mg (hidT s1.heap H) callerA [] s1 H := by
    refine ⟨rfl, M, fun b o e => of_hidT e, Nat.le_of_eq (hidT_size _ _), trivial, fun b hb => ?_, ok, .of_eq gens⟩
    exact absurd (show b ∈ ([] : List Addr) from hb) List.not_mem_nil
  have S : Sys s1.heap H := by
    obtain ⟨mm, o, es, ep, e, d, _⟩ := mods
    exact ⟨free_of e d, o, es, ep, e, d⟩
  apply codeAny_mono ((F _ KBase (hid nsG)).goes callerA rfl [] s1 H ⟨[.ref a], []⟩ [.ref a] [.ref a] _ _ S room e0 (bind s1 (.ref a)) (.cons rfl .nil) want)
  intro r s' h
  match r, h with
  | .error e, h => exact (calm e s' h).elim
  | .ok (.ret u), ⟨v, H', os, bare, un, ok', rel, q⟩ =>
    cases (show v = .bl true from q)
    cases (show u = Value.bool true from rel)
    refine ⟨rfl, OldK.of_keep fun b o e => ?_, os, bare⟩
    cases q2 : H b with
    | none => exact un.keep b o e q2 List.not_mem_nil List.not_mem_nil
    | some u =>
      rcases only b with z | ⟨ob, xs, z⟩
      · rw [q2] at z
        cases z
      · have z1 := (ok b _ z).1
        have z2 := (ok' b _ (un.frzs b ob _ z)).1
        rw [e] at z1
        cases z1
        exact z2
theorem law_callG {P : Program} {w : World} {K : PySem.W.Frag} {mg mb : Str → Option Value} {CX : CXT} {k : Nat} {fa a : Addr} {fd : FuncData} {x : Str} {sp : Sp} {s1 : Shared} {vs : List Value} {ns : List Int}
    (KIn : K.In s1.heap) (nsG : s1.heap.Ns mainGlobals mg) (nsB : s1.heap.Ns builtinsNs mb) (boot : ∀ x : Str, x ≠ "__name__" → mb x = bootBuiltins x) (lim : s1.heap.NoLimit) (mods : ∃ mm, s1.heap.Ns sysModules mm) (gens : s1.gens = #[])
    (ha : s1.heap.get? a = some { cls := .type "list", data := .seq vs.toArray }) (isInts : IntsAre vs ns) (short : ns.length ≤ sizeLine) (room : Room k callerA)
    (F : ∀ base : Heap, K.In base → base.Ns mainGlobals mg → FnG P w K mg base CX k fa fd [x] sp) (bind : ∀ (s : Shared) (u : Value), BindsTo s fd ⟨[u], []⟩ [(x, u)])
    (want : ∀ H : Hp, Only H → SqL K H a (ns.map V.int) → sp [.ref a] H (fun v _ => v = .bl true) fun _ _ _ => False) (calm : ∀ H e s', CX [] H s1 (fun _ _ _ => False) e s' → False) :
    codeAny (model P w) callerA (.call (.ref fa) ⟨[.ref a], []⟩) (GoesWell s1) s1 := by
  have rel := vals_ints isInts
  have hna : ∀ es ep, (Data.seq vs.toArray 0 : Data) ≠ .dict es ep := fun es ep q => by cases q
  cases here : K.lookup a with
  | some o =>
    have e := KIn a o here
    rw [ha] at e
    cases e
    have sq : SqL K (fun _ => none) a (ns.map V.int) := by
      refine Or.inr ⟨_, vs.toArray, _, here, rfl, rfl, rfl, ?_, ?_⟩
      · rw [List.size_toArray, isInts.length]
        exact short
      · rw [List.toList_toArray]
        exact rel
    exact law_coreG KIn nsG nsB boot lim mods gens ha hna room F bind (fun _ => Or.inl rfl) (fun b z => absurd rfl z) (fun z => absurd rfl z) (fun b u z => by cases z) (want _ (fun _ => Or.inl rfl) sq) (calm _)
  | none =>
    let o : HO := .frz { cls := .type "list", data := .seq vs.toArray } (.lst (ns.map V.int))
    have at_a : (upd (fun _ => none) a o) a = some o := upd_same
    have off : ∀ {b : Addr}, b ≠ a → (upd (fun _ => none) a o) b = none := fun {b} h => upd_ne h
    have only : Only (upd (fun _ => none) a o) := by
      intro b
      by_cases h : b = a
      · rw [h]
        exact Or.inr ⟨_, _, at_a⟩
      · exact Or.inl (off h)
    refine law_coreG KIn nsG nsB boot lim mods gens ha hna room F bind only (fun b z => ?_) (fun _ => here) (fun b u z => ?_) (want _ only (Or.inl (Or.inr ⟨_, at_a⟩))) (calm _)
    · by_cases h : b = a
      · exact h
      · exact absurd (off h) z
    · by_cases h : b = a
      · rw [h] at z ⊢
        rw [at_a] at z
        cases z
        refine ⟨ha, ?_, vs, _, rel, ha⟩
        rw [List.length_map]
        exact short
      · rw [off h] at z
        cases z
theorem walkG {l : PySem.W.OpenLaw} {n k : Nat} {q : Program} {loose : List Str} {XP : (Str → Option Value) → Heap → Prop} {YP : World → Heap → Prop} {d : DefRec} {K : Params → PySem.W.Frag} {CX : World → CXT} {sp : PySem.W.Frag → Sp} {x : Str}
    (hn : l.most = some n) (hn2 : n ≤ sizeLine) (hdf : d.params.defaults = []) (hr : Room k callerA) (him : importsNone q = true)
    (hY : ∀ (w : World) (h : Heap), YP w h → (K w.params).In h)
    (F : ∀ (w : World) (mg : Str → Option Value) (fa : Addr) (h : Heap), (K w.params).In h → h.Ns mainGlobals mg → mg d.name = some (.ref fa) →
      ∃ fd : FuncData, (∀ (s : Shared) (u : Value), BindsTo s fd ⟨[u], []⟩ [(x, u)]) ∧
        ∀ base : Heap, (K w.params).In base → base.Ns mainGlobals mg → FnG l.prog w (K w.params) mg base (CX w) k fa fd [x] (sp (K w.params)))
    (want : ∀ (K : PySem.W.Frag) (H : Hp) (a : Addr) (ns : List Int), ns.length ≤ n → Only H → SqL K H a (ns.map V.int) → sp K [.ref a] H (fun v _ => v = .bl true) fun _ _ _ => False)
    (calm : ∀ (w : World) (H : Hp) (s : Shared) (e : Value) (s' : Shared), CX w [] H s (fun _ _ _ => False) e s' → False) :
    PySem.W.WalkO q loose XP YP l.row.toRowW d [] (fun f vs => PySem.call f vs) := by
  apply Att.attach_call hn hdf
  intro w s0 s1 mg mb fa o pm cd doc a vs ns G Y ho hd hcd hmg hobj hints hlen hg
  obtain ⟨fd, hb, hF⟩ := F w mg fa _ (hY w _ Y) G.T.g hmg
  exact law_callG (hY w _ Y) G.T.g G.T.b G.T.builtins G.T.nolimit (let ⟨mm, z, _⟩ := (G.T.seer him).mods; ⟨mm, z⟩) hg hobj hints (Nat.le_trans hlen hn2) hr hF hb (fun H hO hS => want _ H a ns hlen hO hS) fun H e s' => calm w H s1 e s'
end Paw

set_option maxRecDepth 100000
set_option maxHeartbeats 4000000
/-! ### an own exception class called with keywords -/
namespace PySem
namespace PawX
open PySem.W PySem.Calls PyProof.Rows PySem.HandSPX
section
variable {M : Model} {prog : Program} {w : World} {A : Around} {E : Value → Shared → Prop} {R : Result → Shared → Prop} {hp : Heap} {gs : Array GenState} {dr : Drawn} {tk : Nat} {os : OsState}
variable {nm q : Str} {C N : Addr} {bs bm bmB : List Value} {hdct : Bool} {sn : List Str} {sub : List Value} {ab : Bool} {col : Option Bool} {dd : Option Addr} {k0 k1 k2 k3 k5 : Option Value} {B newId initId : String}
variable {pos : List Value} {kw : List (Str × Value)}
theorem kw_check (F : ExcBaseFacts B newId initId bmB) (hT : ∀ X : String, bm.contains (.type X) = bmB.contains (.type X)) {Q : Unit → Shared → Prop}
    (hC : hp.get? C = some (excClassObj nm q C N bs bm hdct sn sub ab col dd k0 k1 k2 k3 k5 newId)) (then_ : Q () ⟨hp, gs, dr, tk, os⟩) :
    wpAny M A (checkBuiltinCall newId ⟨.ref C :: pos, kw⟩) Q E ⟨hp, gs, dr, tk, os⟩ := by
  have cont : (Value.ref C :: bm).contains (.type B) = true := by
    rw [List.contains_cons, hT, F.hasB, Bool.or_true]
  have star := F.noStar
  simp only [checkBuiltinCall, F.newKind, F.newSplit, F.newRow]
  repeat (first
    | refine wpAny_loadPart_at hC ?_
    | (refine wpAny_isSubtype_exc hC ?_; rw [cont])
    | refine wpAny_staticBase_exc hC ?_
    | refine wpAny_madeBy_exc hC ?_
    | simp only [bne_self_eq_false, Bool.false_eq_true, if_false]
    | wp_step)
  exact then_
theorem kw_new (F : ExcBaseFacts B newId initId bmB) (hT : ∀ X : String, bm.contains (.type X) = bmB.contains (.type X))
    (hC : hp.get? C = some (excClassObj nm q C N bs bm hdct sn sub ab col dd k0 k1 k2 k3 k5 newId))
    (then_ : R (.ok (.ret (.ref (hp.objs.size + 1)))) ⟨(hp.push (W.kdv_tup pos)).push (excO C hp.objs.size), gs, dr, tk, os⟩) (short : pos.length ≤ sizeLine) :
    codeAny (model prog w) A (.builtin newId ⟨.ref C :: pos, kw⟩) R ⟨hp, gs, dr, tk, os⟩ := by
  have fin := F.ends
  have cB : (Value.ref C :: bm).contains (.type B) = true := by
    rw [List.contains_cons, hT, F.hasB, Bool.or_true]
  have cA : (Value.ref C :: bm).contains (.type "AttributeError") = false := by
    rw [List.contains_cons, hT, F.noAttr]
    rfl
  have cN : (Value.ref C :: bm).contains (.type "NameError") = false := by
    rw [List.contains_cons, hT, F.noName]
    rfl
  refine codeAny_builtinAt F.entry ?_
  unfold Builtin.«BaseException.__new__»
  refine wpAt_bind ?_
  show wpAt _ _ _ (stack >>= _) _ _ _
  refine wpAt_bind (wpAt_stack fun p below => wpAt_of_wpAny ?_)
  wp_walk
  refine wpAt_of_wpAny ?_
  rw [F.owner]
  repeat (first
    | with_reducible refine wpAny_madeHere_exc F.canon hC ?_
    | with_reducible refine wpAny_loadPart_at hC ?_
    | (with_reducible refine wpAny_isSubtype_exc hC ?_; first | rw [cB] | rw [cA] | rw [cN])
    | wp_step)
  show R _ _
  rw [Heap.size_push]
  exact then_
theorem kw_type_call (F : ExcBaseFacts B newId initId bmB) (hT : ∀ X : String, bm.contains (.type X) = bmB.contains (.type X)) {fI : Addr} {Q : Fin → Shared → Prop}
    (hC : hp.get? C = some (excClassObj nm q C N bs bm hdct sn sub ab col dd k0 k1 k2 k3 k5 newId))
    (found : W.Looks (model prog w) hp (typeLookup (.ref C) "__init__") (some (.ref fI))) (bound : ∀ self, W.Looks (model prog w) hp (bindSpecial (.ref fI) self) (.ref fI, [self])) (short : pos.length ≤ sizeLine)
    (runs : codeAny (model prog w) A (.call (.ref fI) ⟨.ref (hp.objs.size + 1) :: pos, kw⟩)
      (fun r s' => match r with | .ok (.ret v) => v = .none ∧ Q (.done (.ret (.ref (hp.objs.size + 1)))) s' | .ok _ => False | .error e => E e s')
      ⟨(hp.push (W.kdv_tup pos)).push (excO C hp.objs.size), gs, dr, tk, os⟩) :
    wpAny (model prog w) A (Builtin.«type.__call__» ⟨.ref C :: pos, kw⟩) Q E ⟨hp, gs, dr, tk, os⟩ := by
  repeat (first
    | with_reducible refine wpAny_loadPart_at hC ?_
    | with_reducible refine wpAny_madeBy_exc hC ?_
    | wp_step)
  refine codeAny_call_builtin_code (Code.quiet_builtin _ F.quiet) (kw_check F hT hC ?_)
  refine kw_new F hT hC ?_ short
  show wpAny _ _ _ _ _ _
  have old : ∀ b o, hp.get? b = some o → ((hp.push (W.kdv_tup pos)).push (excO C hp.objs.size)).get? b = some o :=
    fun b o e => Heap.get?_push_of_some _ (Heap.get?_push_of_some _ e)
  have hC2 := old _ _ hC
  have made : ((hp.push (W.kdv_tup pos)).push (excO C hp.objs.size)).get? (hp.objs.size + 1) = some (excO C hp.objs.size) := by heap_get
  have cC : (Value.ref C :: bm).contains (.ref C) = true := by simp
  have look2 := found.keeps old
  have bind2 := (bound (.ref (hp.objs.size + 1))).keeps old
  unfold isInstance
  repeat (first
    | with_reducible refine wpAny_loadPart_at made ?_
    | (with_reducible refine wpAny_isSubtype_exc hC2 ?_; rw [cC])
    | wp_step)
  show wpAny _ _ (typeLookup (.ref C) _) _ _ _
  refine look2.at ?_
  refine wpAny_holding (wpAny_bind (bind2.at ?_))
  refine wpAny_bind (wpAny_call (codeAny_mono runs fun r s' z => ?_))
  rcases r with e | (v | _ | _ | _) <;> first | exact z | exact z.elim | skip
  obtain ⟨rfl, z⟩ := z
  first
    | exact wpAny_pure (wpAny_pure z)
    | (wp_walk; exact z)
theorem kw_call (F : ExcBaseFacts B newId initId bmB) (hT : ∀ X : String, bm.contains (.type X) = bmB.contains (.type X)) {fI : Addr}
    (hC : hp.get? C = some (excClassObj nm q C N bs bm hdct sn sub ab col dd k0 k1 k2 k3 k5 newId))
    (found : W.Looks (model prog w) hp (typeLookup (.ref C) "__init__") (some (.ref fI))) (bound : ∀ self, W.Looks (model prog w) hp (bindSpecial (.ref fI) self) (.ref fI, [self])) (short : pos.length ≤ sizeLine)
    (runs : codeAny (model prog w) (A.under (.builtin "type.__call__" ⟨.ref C :: pos, kw⟩)) (.call (.ref fI) ⟨.ref (hp.objs.size + 1) :: pos, kw⟩) (W.InitBack (hp.objs.size + 1) R)
      ⟨(hp.push (W.kdv_tup pos)).push (excO C hp.objs.size), gs, dr, tk, os⟩) :
    codeAny (model prog w) A (.call (.ref C) ⟨pos, kw⟩) R ⟨hp, gs, dr, tk, os⟩ := by
  have f1 := tc_lookup
  have f2 := tc_bind (.ref C)
  have ty : (⟨hp, gs, dr, tk, os⟩ : Shared).TypeIs (.ref C) "type" := ⟨_, hC, rfl⟩
  refine codeAny_of_tree ?_
  show wpAny _ _ (callAny (.ref C) _) _ _ _
  repeat (any_goals (first | assumption | with_reducible refine wpAny_loadPart_at hC ?_ | wp_step))
  refine ⟨rfl, ?_⟩
  refine codeAny_call_builtin_at (Code.quiet_builtin _ (by decide +kernel)) entry_typeCall (wpAny_check_type_call_sub hC (kw_type_call F hT hC found bound short ?_))
  refine codeAny_mono runs fun r s' z => ?_
  rcases r with e | (v | _ | _ | _) <;> exact z
end
end PawX
end PySem

set_option maxRecDepth 100000
set_option maxHeartbeats 2000000
namespace Paw
open PySem PySem.Spec PyProof.Rows L2

/-! ### exceptions of the program's own classes as values -/
/-- what the written part says of such a class -/
structure ExV (K : PySem.W.Frag) (C : Addr) : Prop where
  oex : OexC K C
  ga : PySem.W.findIn K (.ref C) "__getattribute__" = some (some (.builtin "BaseException.__getattribute__"))
  gg : PySem.W.findIn K (.ref C) "__getattr__" = some none
  hd : PySem.W.hasDictIn K C = true
  ca : PySem.W.findIn K (.ref C) "__class__" = some (some (.builtin "object.__class__"))
  cg : PySem.W.specialIn K (.builtin "object.__class__") "__get__" = some (some (.builtin "getset_descriptor.__get__"))
  ct : PySem.W.takesIn K (.builtin "object.__class__") = some true
  ob : PySem.W.mroIn K C (.type "object") = some true
/-- an error stands at a: of the class at C, with the fields fs -/
def Err (H : Hp) (a C : Addr) (fs : List (Str × V)) : Prop := ∃ d, H a = some (exo a C (some d)) ∧ H d = some (exd d fs)
/-- an error stands at a, with fields or without -/
def ErrAny (H : Hp) (a C : Addr) : Prop := ∃ d, H a = some (exo a C d) ∧ ∀ dx, d = some dx → ∃ fs, H dx = some (exd dx fs)
theorem Err.any {H : Hp} {a C : Addr} {fs : List (Str × V)} (h : Err H a C fs) : ErrAny H a C := by
  obtain ⟨d, h1, h2⟩ := h
  exact ⟨some d, h1, fun dx e => ⟨fs, by cases e; exact h2⟩⟩
theorem Err.mono {H H' : Hp} {a C : Addr} {fs : List (Str × V)} (h : Err H a C fs) (s : Same H H') : Err H' a C fs := by
  obtain ⟨d, h1, h2⟩ := h
  exact ⟨d, s _ _ h1, s _ _ h2⟩
theorem ErrAny.mono {H H' : Hp} {a C : Addr} (h : ErrAny H a C) (s : Same H H') : ErrAny H' a C := by
  obtain ⟨d, h1, h2⟩ := h
  exact ⟨d, s _ _ h1, fun dx e => (h2 dx e).elim fun fs q => ⟨fs, s _ _ q⟩⟩
/-- C(e, .., k = v, ..) as a value: n values behind one another, m by name -/
def tErr (C : Addr) (n m : Nat) (sp : Sp) (gV : List V → List V → List V) (t tk : TA) : TE := fun σ H Q => t σ H fun vs H1 => tk σ H1 fun zs H2 => vs.length = n ∧ n ≤ 1000 ∧ zs.length = m ∧
  ∀ a, H2 a = none → sp (gV (.ref a :: vs) zs) (upd H2 a (exo a C none)) (fun v H3 => v = .non ∧ Q (.ref a) H3) fun _ _ _ => False
section
variable {X : Cx} {CX : CXT} {k n : Nat} {f C : Addr} {fd : FuncData} {ps ks : List Str} {sp : Sp} {x : Str} {p pos : Pos} {e : Expr} {es : List Expr} {kws : List Keyword} {t tk : TA} {te : TE} {g : List Value → List Value → List Value} {gV : List V → List V → List V}
theorem err_runs {pins : List (Addr × Obj)} {σ : L2.St} {H : Hp} {s : Shared} {Q : VK} {us ws : List Value} {vs zs : List V} (T : OexC X.K C) (iC : PySem.W.findIn X.K (.ref C) "__init__" = some (some (.ref f))) (tI : PySem.W.typeIn X.K (.ref f) = some (.type "function"))
    (F : FnOk X.prog X.w X.K X.mg X.base CX k f fd ps sp) (hr : Room (k + 1) X.A) (hb : KBn X.K fd ps (n + 1) ks g gV) (hx : Passes CX X fun _ _ _ => False) (I : Inv X pins σ H s) (r : Vals vs us) (rz : Vals zs ws) (l1 : vs.length = n) (l0 : n ≤ 1000) (l2 : zs.length = ks.length)
    (h : ∀ a, H a = none → sp (gV (.ref a :: vs) zs) (upd H a (exo a C none)) (fun v H3 => v = .non ∧ Q (.ref a) H3) fun _ _ _ => False) :
    wpAny (model X.prog X.w) X.A (call (.ref C) us (ks.zip ws)) (EP X pins σ Q) X.xe s := by
  obtain ⟨nm, q, N, bs, bm, sn, sub, ab, col, dd, k0, k1, k2, k3, k5, hC, hbm⟩ := T.cls
  obtain ⟨hp, gs, dr, tk, os⟩ := s
  have new : hp.objs.size ≤ hp.objs.size + 1 := Nat.le_succ _
  have hq := h (hp.objs.size + 1) (I.hok.fresh new)
  have old : ∀ b o, hp.get? b = some o → ((hp.push (PySem.W.kdv_tup us)).push (PySem.HandSPX.excO C hp.objs.size)).get? b = some o := fun b o z => Heap.get?_push_of_some _ (Heap.get?_push_of_some _ z)
  have made : ((hp.push (PySem.W.kdv_tup us)).push (PySem.HandSPX.excO C hp.objs.size)).get? (hp.objs.size + 1) = some (PySem.HandSPX.excO C hp.objs.size) := by heap_get
  have J : Inv X pins σ (upd H (hp.objs.size + 1) (exo (hp.objs.size + 1) C none)) ⟨(hp.push (PySem.W.kdv_tup us)).push (PySem.HandSPX.excO C hp.objs.size), gs, dr, tk, os⟩ :=
    I.laid (t' := tk) old new (exo_ok made)
  have r1 : Vals (V.ref (hp.objs.size + 1) :: vs) (Value.ref (hp.objs.size + 1) :: us) := .cons rfl r
  have n1 : (Value.ref (hp.objs.size + 1) :: us).length = n + 1 := by
    rw [List.length_cons, ← r.length, l1]
  have short : us.length ≤ sizeLine := by
    rw [← r.length, l1, sizeLine_eq]
    omega
  apply wpAny_call
  apply PySem.PawX.kw_call PySem.F.excBase_ValueError (fun Y => PySem.HandSPX.refsVE_contains Y bm hbm) (I.kIn _ _ hC) (PySem.W.looks_findIn I.kIn iC) (fun self => PySem.W.bind_fn I.kIn self tI) short
  apply codeAny_mono (F.run _ X.stack _ _ ⟨Value.ref (hp.objs.size + 1) :: us, ks.zip ws⟩ (g (Value.ref (hp.objs.size + 1) :: us) ws) _ _ _ (hr.make C us (ks.zip ws)) (J.env0.make C us (ks.zip ws)) (hb.to _ (Value.ref (hp.objs.size + 1) :: us) ws J.kIn n1 (rz.length.symm.trans l2)) (hb.rel r1 rz) hq)
  intro r s' q
  match r, q with
  | .error er, q => exact hx pins σ _ _ er s' J q
  | .ok (.ret u), q =>
    obtain ⟨v, H', I3, rv, ev, q3⟩ := J.after q
    subst ev
    exact ⟨rv, .ref (hp.objs.size + 1), H', I3, rfl, q3⟩
theorem pe_err (T : OexC X.K C) (iC : PySem.W.findIn X.K (.ref C) "__init__" = some (some (.ref f))) (tI : PySem.W.typeIn X.K (.ref f) = some (.type "function")) (F : FnOk X.prog X.w X.K X.mg X.base CX k f fd ps sp) (hr : Room (k + 1) X.A) (hg : Gl X x) (hm : X.mg x = some (.ref C))
    (hb : KBn X.K fd ps (n + 1) [] g gV) (hx : Passes CX X fun _ _ _ => False) (ha : PA X (e :: es) t) (hdb : (x == ("__debug__" : Str)) = false := by decide) (he : starEach (e :: es) X.env = (false, eval e X.env) :: starEach es X.env := by rfl)
    (hpl : (backTo pos (starEach es X.env)).any (·.1) = false := by rfl) : PE X (.Call (.Name x p) (e :: es) [] pos) (tErr C n 0 sp gV t tNil) := by
  constructor
  intro pins s σ H Q I h
  apply wpAny_Call_Name_kw
  apply ld_glob I hg hm _ hdb
  apply PySem.W.callWith_K (h₀ := X.base) I.ok.mod.kin T.kC _ he hpl
  apply thn (ha.run pos pins s σ H _ I h)
  rintro us s1 ⟨vs, H1, I1, r, l1, l0, _, q⟩
  have z := err_runs (ks := []) (ws := []) (zs := []) T iC tI F hr hb hx I1 r .nil l1 l0 rfl q
  exact ⟨I1.kIn, z⟩
theorem pe_errK0 (T : OexC X.K C) (iC : PySem.W.findIn X.K (.ref C) "__init__" = some (some (.ref f))) (tI : PySem.W.typeIn X.K (.ref f) = some (.type "function")) (F : FnOk X.prog X.w X.K X.mg X.base CX k f fd ps sp) (hr : Room (k + 1) X.A) (hg : Gl X x) (hm : X.mg x = some (.ref C))
    (hb : KBn X.K fd ps 1 ks g gV) (hx : Passes CX X fun _ _ _ => False) (hkw : PK X kws tk) (hall : (backToKw pos (keywordEach kws X.env)).all (·.1.isSome) = true := by rfl) (hks : (backToKw pos (keywordEach kws X.env)).filterMap (·.1) = ks := by rfl)
    (hdb : (x == ("__debug__" : Str)) = false := by decide) (hpl : ((backTo pos (starEach [] X.env)).any (·.1) || (backToKw pos (keywordEach kws X.env)).any (·.1.isNone)) = false := by rfl) :
    PE X (.Call (.Name x p) [] kws pos) (tErr C 0 ks.length sp gV tNil tk) := by
  constructor
  intro pins s σ H Q I h
  apply wpAny_Call_Name_kw
  apply ld_glob I hg hm _ hdb
  apply PySem.W.callWith_KW0 (h₀ := X.base) I.ok.mod.kin T.kC hall _ hpl
  apply thn (hkw.run pos pins s σ H _ I h)
  rintro ws s2 ⟨zs, H2, I2, rz, l1, l0, l2, q⟩
  refine ⟨I2.kIn, ?_⟩
  rw [hks]
  exact err_runs (us := []) (vs := []) T iC tI F hr hb hx I2 .nil rz l1 l0 l2 q
theorem pe_errK (T : OexC X.K C) (iC : PySem.W.findIn X.K (.ref C) "__init__" = some (some (.ref f))) (tI : PySem.W.typeIn X.K (.ref f) = some (.type "function")) (F : FnOk X.prog X.w X.K X.mg X.base CX k f fd ps sp) (hr : Room (k + 1) X.A) (hg : Gl X x) (hm : X.mg x = some (.ref C))
    (hb : KBn X.K fd ps (n + 1) ks g gV) (hx : Passes CX X fun _ _ _ => False) (ha : PA X (e :: es) t) (hkw : PK X kws tk) (hall : (backToKw pos (keywordEach kws X.env)).all (·.1.isSome) = true := by rfl) (hks : (backToKw pos (keywordEach kws X.env)).filterMap (·.1) = ks := by rfl)
    (hdb : (x == ("__debug__" : Str)) = false := by decide) (he : starEach (e :: es) X.env = (false, eval e X.env) :: starEach es X.env := by rfl) (hpl : ((backTo pos (starEach (e :: es) X.env)).any (·.1) || (backToKw pos (keywordEach kws X.env)).any (·.1.isNone)) = false := by rfl) :
    PE X (.Call (.Name x p) (e :: es) kws pos) (tErr C n ks.length sp gV t tk) := by
  constructor
  intro pins s σ H Q I h
  apply wpAny_Call_Name_kw
  apply ld_glob I hg hm _ hdb
  apply PySem.W.callWith_KW (h₀ := X.base) I.ok.mod.kin T.kC hall _ hpl he
  apply thn (ha.run pos pins s σ H _ I h)
  rintro us s1 ⟨vs, H1, I1, r, q⟩
  apply thn (hkw.run pos pins s1 σ H1 _ I1 q)
  rintro ws s2 ⟨zs, H2, I2, rz, l1, l0, l2, q2⟩
  refine ⟨I2.kIn, ?_⟩
  rw [hks]
  exact err_runs T iC tI F hr hb hx I2 r rz l1 l0 l2 q2
/-- C(), C an own class of errors without __init__ -/
theorem pe_err0 {bmB : List Value} {B newId initId : String} (F : ExcBaseFacts B newId initId bmB) (q : PySem.W.excIn X.K C bmB newId = true) (gC : X.mg x = some (.ref C)) (kC : PySem.W.keepIn X.K (.ref C) = true) (hg : Gl X x)
    (hdb : (x == ("__debug__" : Str)) = false := by decide) : PE X (.Call (.Name x p) [] [] pos) (fun σ H Q => ∀ a, H a = none → Q (.ref a) (upd H a (exo a C none))) := by
  constructor
  intro pins s σ H Q I h
  apply wpAny_Call_Name_kw
  apply ld_glob I hg gC _ hdb
  apply PySem.W.callWith_K0 I.kIn kC
  obtain ⟨bm, N, nm, qn, bs, hdct, sn, sub, ab, col, dd, k0, k1, k2, k3, k5, mN, hC, hN, hni, T⟩ := exc_obj I.kIn q
  refine wpAny_call_exc_subT F T hC hN hni (fun h' a hm => ?_) (by show 0 ≤ sizeLine; omega)
  have new : H a = none := I.hok.gone hm.new
  obtain ⟨t, ht, _, _⟩ := hm.there
  exact ⟨.ref a, upd H a (exo a C none), I.laidN hm.keeps hm.new new (exo_ok ht), rfl, h a new⟩
/-- e.f, e an error with the field f -/
def tErrFld (K : PySem.W.Frag) (nm : Str) (te : TE) : TE := fun σ H Q => te σ H fun x H1 => ∃ (a C : Addr) (fs : List (Str × V)) (v : V), x = .ref a ∧ ExV K C ∧ PySem.W.findIn K (.ref C) nm = some none ∧ Err H1 a C fs ∧ fs.lookup nm = some v ∧ Q v H1
theorem pe_errFld {nm : Str} (he : PE X e te) (hb : attributeBase e nm X.env (eval e X.env) = eval e X.env := by rfl) : PE X (.Attribute e nm pos) (tErrFld X.K nm te) := by
  constructor
  intro pins s σ H Q I h
  apply attr_of hb
  apply thn (he.run pins s σ H _ I h)
  rintro u s1 ⟨x, H1, I1, rx, a, C, fs, v, rfl, T, no, ⟨d, ea, ed⟩, l, q⟩
  cases (show u = Value.ref a from rx)
  obtain ⟨t1, ho⟩ := exo_at I1.hok ea
  obtain ⟨mA, hn, rel⟩ := exd_at I1.hok ed
  obtain ⟨od, hod, hl⟩ := lookIn_ns hn
  obtain ⟨u, hu, ru⟩ := RelO.some_of (v := v) (o := mA nm) (by rw [← l]; exact rel nm)
  have J : PySem.W.InstAt s1.heap a _ C (some od) := ⟨ho, rfl, rfl, hod⟩
  exact HandSPX.exc_get I1.kIn J T.ga T.gg T.oex.exC (PySem.W.findObj_own T.hd no rfl (by rw [hl, hu])) (handed_of ru) ⟨v, H1, I1.tok _, ru, q⟩
/-- isinstance(e, c), e an error -/
def rErrIs (K : PySem.W.Frag) : List V → Hp → VK → Prop := fun xs H Q => ∃ (a C : Addr) (c : V) (cv : Value) (b : Bool), xs = [.ref a, c] ∧ ClsV c cv ∧ ExV K C ∧ ErrAny H a C ∧ PySem.W.kitOne K (.ref C) cv = some b ∧ Q (.bl b) H
theorem call_errIs : CallR X (.builtin "isinstance") (rErrIs X.K) := by
  intro pins s σ H xs us Q I r h
  obtain ⟨a, C, c, cv, b, rfl, hc, T, ⟨d, ea, ed⟩, ek, q⟩ := h
  obtain ⟨u1, u2, rfl, r1, r2⟩ := vals2 r
  cases (show u1 = Value.ref a from r1)
  have e2 := hc.eq r2
  subst e2
  obtain ⟨t1, ho⟩ := exo_at I.hok ea
  have hcl : (PySem.W.clsIn X.K C).isSome = true := by
    obtain ⟨cd, hcd, _⟩ := PySem.W.any_some T.hd
    rw [hcd]
    rfl
  have fin : ∀ tk, EP X pins σ Q (.bool b) { s with toks := tk } := fun tk => ⟨.bl b, H, I.tok tk, rfl, q⟩
  cases d with
  | none =>
    have J : PySem.W.InstAt s.heap a _ C none := ⟨ho, rfl, rfl, trivial⟩
    exact PySem.W.kia_one (PySem.W.kitx_exc hcl T.ga T.gg T.oex.exC T.ca T.cg T.ct T.ob) I.kIn J ek (fun z => nomatch z) fin
  | some dx =>
    obtain ⟨fs, ed⟩ := ed dx rfl
    obtain ⟨mA, hn, rel⟩ := exd_at I.hok ed
    obtain ⟨od, hod, hl⟩ := lookIn_ns hn
    have J : PySem.W.InstAt s.heap a _ C (some od) := ⟨ho, rfl, rfl, hod⟩
    exact PySem.W.kia_one (PySem.W.kitx_exc hcl T.ga T.gg T.oex.exC T.ca T.cg T.ct T.ob) I.kIn J ek (fun z => nomatch z) fin
end
end Paw

set_option maxRecDepth 100000
set_option maxHeartbeats 2000000
namespace Paw
open PySem PySem.Spec PyProof.Rows L2

/-! ### how long a repr is -/
mutual
def siz : PyData → Nat
  | .none => 4
  | .bool _ => 5
  | .int i => i.natAbs.log2 + 2
  | .str x => 10 * x.length + 2
  | .list xs => 2 + sizs xs
  | .tuple xs => 4 + sizs xs
  | .dict kvs => 2 + sizk kvs
def sizs : List PyData → Nat
  | [] => 0
  | x :: xs => siz x + 2 + sizs xs
def sizk : List (PyData × PyData) → Nat
  | [] => 0
  | (k, v) :: r => siz k + siz v + 4 + sizk r
end
mutual
/-- every text in it has signs below 2^32 -/
def plainD : PyData → Bool
  | .none | .bool _ | .int _ => true
  | .str x => x.cps.toList.all fun c => decide (c < 16 ^ 8)
  | .list xs => plainDs xs
  | .tuple xs => plainDs xs
  | .dict kvs => plainDk kvs
def plainDs : List PyData → Bool
  | [] => true
  | x :: xs => plainD x && plainDs xs
def plainDk : List (PyData × PyData) → Bool
  | [] => true
  | (k, v) :: r => plainD k && plainD v && plainDk r
end
theorem text_from_le : ∀ (ts : List Str) (k : Nat) (acc : Str), (textFrom k acc ts).length ≤ acc.length + piled ts
  | [], k, acc => by
    rw [piled_nil]
    exact Nat.le_refl _
  | t :: ts, k, acc => by
    rw [piled_cons]
    have c2 : ((", " : Str)).length = 2 := by decide +kernel
    have e : textFrom k acc (t :: ts) = textFrom (k + 1) (acc ++ Str.ofString (if k > 0 then ", " else "") ++ t) ts := rfl
    have l : (Str.ofString (if k > 0 then ", " else "")).length ≤ 2 := by
      split <;> decide +kernel
    have ih := text_from_le ts (k + 1) (acc ++ Str.ofString (if k > 0 then ", " else "") ++ t)
    rw [strLen_append, strLen_append] at ih
    rw [e]
    omega
theorem join_le (ts : List Str) : (Str.join ", " ts).length ≤ piled ts := by
  by_cases h : ts = []
  · subst h
    decide +kernel
  · have := join_length_add ts h
    omega
theorem one_sign : (("[" : Str)).length = 1 ∧ (("]" : Str)).length = 1 ∧ (("(" : Str)).length = 1 ∧ (("{" : Str)).length = 1 ∧ (("}" : Str)).length = 1 ∧ ((": " : Str)).length = 2 := by decide +kernel
theorem list_text_le (ts : List Str) : (listText ts).length ≤ piled ts + 2 := by
  unfold listText
  have h := text_from_le ts 0 "["
  rw [strLen_append]
  have e := one_sign
  omega
theorem tuple_text_le (ts : List Str) : (tupleText ts).length ≤ piled ts + 3 := by
  have e3 : (((if ts.length == 1 then ",)" else ")" : String) : Str)).length ≤ 2 := by split <;> decide +kernel
  have h := join_le ts
  unfold tupleText
  rw [strLen_append, strLen_append]
  have e := one_sign
  omega
theorem dict_text_le (ts : List Str) : (dictText ts).length ≤ piled ts + 2 := by
  have h := join_le ts
  unfold dictText
  rw [strLen_append, strLen_append]
  have e := one_sign
  omega
mutual
theorem shown_le : ∀ d : PyData, plainD d = true → d.shown.length ≤ siz d
  | .none, _ => by
    show (("None" : Str)).length ≤ 4
    decide +kernel
  | .bool b, _ => by
    cases b <;> decide +kernel
  | .int i, _ => by
    have h := int_text_length_le (a := i) (k := i.natAbs.log2 + 1) (Nat.succ_pos _) (Nat.lt_succ_self _)
    show (Str.ofString (toString i)).length ≤ i.natAbs.log2 + 2
    rw [PySem.ofString_length]
    exact h
  | .str x, h => by
    show (reprText x).length ≤ 10 * x.length + 2
    refine StrLaws.reprText_len x fun c hc => ?_
    have z : (x.cps.toList.all fun c => decide (c < 16 ^ 8)) = true := h
    exact of_decide_eq_true (List.all_eq_true.mp z c hc)
  | .list xs, h => by
    have ih := shown_les xs h
    have e := list_text_le (PyData.shownAll xs)
    show (listText (PyData.shownAll xs)).length ≤ 2 + sizs xs
    omega
  | .tuple xs, h => by
    have ih := shown_les xs h
    have e := tuple_text_le (PyData.shownAll xs)
    show (tupleText (PyData.shownAll xs)).length ≤ 4 + sizs xs
    omega
  | .dict kvs, h => by
    have ih := shown_lek kvs h
    have e := dict_text_le (PyData.shownKv kvs)
    show (dictText (PyData.shownKv kvs)).length ≤ 2 + sizk kvs
    omega
theorem shown_les : ∀ ds : List PyData, plainDs ds = true → piled (PyData.shownAll ds) ≤ sizs ds
  | [], _ => by
    show piled [] ≤ 0
    rw [piled_nil]
    omega
  | d :: ds, h => by
    have z : (plainD d && plainDs ds) = true := h
    rw [Bool.and_eq_true] at z
    have h1 := shown_le d z.1
    have h2 := shown_les ds z.2
    show piled (d.shown :: PyData.shownAll ds) ≤ siz d + 2 + sizs ds
    rw [piled_cons]
    omega
theorem shown_lek : ∀ ds : List (PyData × PyData), plainDk ds = true → piled (PyData.shownKv ds) ≤ sizk ds
  | [], _ => by
    show piled [] ≤ 0
    rw [piled_nil]
    omega
  | (k, d) :: ds, h => by
    have z : (plainD k && plainD d && plainDk ds) = true := h
    rw [Bool.and_eq_true, Bool.and_eq_true] at z
    have h0 := shown_le k z.1.1
    have h1 := shown_le d z.1.2
    have h2 := shown_lek ds z.2
    show piled ((k.shown ++ ": " ++ d.shown) :: PyData.shownKv ds) ≤ siz k + siz d + 4 + sizk ds
    rw [piled_cons, strLen_append, strLen_append]
    have e := one_sign
    omega
end
/-- all that repr asks of data -/
structure Fit (d : PyData) : Prop where
  plain : plainD d = true
  show_ : d.showable = true
  small : siz d ≤ 1000000
  depth : d.depth ≤ 40
theorem Fit.size {d : PyData} (h : Fit d) : d.shown.length ≤ sizeLine := by
  have := shown_le d h.plain
  have := h.small
  rw [sizeLine_eq]
  omega
/-! ### built-ins by their names -/
theorem bt_int : bootBuiltins "int" = some (.type "int") := by decide +kernel
theorem bt_list : bootBuiltins "list" = some (.type "list") := by decide +kernel
theorem bt_range : bootBuiltins "range" = some (.type "range") := by decide +kernel
theorem bt_enumerate : bootBuiltins "enumerate" = some (.type "enumerate") := by decide +kernel
theorem bt_str : bootBuiltins "str" = some (.type "str") := by decide +kernel
theorem bt_dict : bootBuiltins "dict" = some (.type "dict") := by decide +kernel
theorem bt_tuple : bootBuiltins "tuple" = some (.type "tuple") := by decide +kernel
theorem bt_zip : bootBuiltins "zip" = some (.type "zip") := by decide +kernel
theorem bt_bool : bootBuiltins "bool" = some (.type "bool") := by decide +kernel
theorem bt_len : bootBuiltins "len" = some (.builtin "len") := by decide +kernel
theorem bt_abs : bootBuiltins "abs" = some (.builtin "abs") := by decide +kernel
theorem bt_repr : bootBuiltins "repr" = some (.builtin "repr") := by decide +kernel
theorem bt_isinstance : bootBuiltins "isinstance" = some (.builtin "isinstance") := by decide +kernel
theorem bt_sorted : bootBuiltins "sorted" = some (.builtin "sorted") := by decide +kernel
theorem bt_max : bootBuiltins "max" = some (.builtin "max") := by decide +kernel
theorem bt_min : bootBuiltins "min" = some (.builtin "min") := by decide +kernel
theorem bt_ord : bootBuiltins "ord" = some (.builtin "ord") := by decide +kernel
theorem bt_sum : bootBuiltins "sum" = some (.builtin "sum") := by decide +kernel
theorem bt_all : bootBuiltins "all" = some (.builtin "all") := by decide +kernel
theorem bt_any : bootBuiltins "any" = some (.builtin "any") := by decide +kernel
end Paw

set_option maxRecDepth 100000
set_option maxHeartbeats 4000000
namespace Paw
open PySem PySem.Spec PyProof.Rows L2

/-! ### a caught error that is kept -/
/-- at a: an error that has been raised and caught, of the class cls, its own dict at d -/
def exr (a : Addr) (cls : Value) (d : Option Addr) : HO := .ext fun h => ∃ (oe : Obj) (vs : Array Value), h.get? a = some oe ∧ Zc cls d oe ∧ oe.data = .fields vs
theorem exr_ok {P : Program} {w : World} {H : Hp} {h : Heap} {a : Addr} {cls : Value} {d : Option Addr} {oe : Obj} {vs : Array Value} (e : h.get? a = some oe) (z : Zc cls d oe) (q : oe.data = .fields vs) : ObjOk P w H h a (exr a cls d) :=
  ⟨⟨oe, vs, e, z, q⟩, ⟨oe, e⟩, fun _ _ ⟨o, v, k, r⟩ m => ⟨o, v, m o k, r⟩⟩
theorem exr_at {P : Program} {w : World} {H : Hp} {h : Heap} {a : Addr} {cls : Value} {d : Option Addr} (ok : HOk P w H h) (e : H a = some (exr a cls d)) : ∃ (oe : Obj) (vs : Array Value), h.get? a = some oe ∧ Zc cls d oe ∧ oe.data = .fields vs := by
  have x : ObjOk P w H h a (.ext fun h => ∃ (oe : Obj) (vs : Array Value), h.get? a = some oe ∧ Zc cls d oe ∧ oe.data = .fields vs) := ok a _ e
  exact x.1
section
variable {X : Cx} {pins : List (Addr × Obj)} {σ : L2.St} {H : Hp} {s : Shared}
/-- an object that is not tracked yet, and that was not there at the entry, is tracked from here on -/
theorem inv_track {a : Addr} {O : HO} (I : Inv X pins σ H s) (n0 : X.s_0.heap.get? a = none) (nH : H a = none) (nL : a ≠ X.env.locals) (nC : ∀ x c, X.env.cells.lookup x = some c → c ≠ a) (nP : ∀ p ∈ X.pn ++ pins, p.1 ≠ a)
    (ok : ObjOk X.prog X.w (upd H a O) s.heap a O) : Inv X pins σ (upd H a O) s := by
  have off : ∀ {b : Addr} {o : HO}, H b = some o → upd H a O b = some o := fun {b o} e => (upd_ne (ne_of_none e nH)).trans e
  have old : ∀ {b : Addr} {o : Obj}, X.s_0.heap.get? b = some o → b ≠ a := fun {b o} e z => by
    rw [z, n0] at e
    cases e
  constructor
  · exact I.ok
  · exact I.os
  · exact I.bare
  · constructor
    · exact I.base.keep
    · exact I.base.slot
    · intro b o e n x
      rw [upd_ne (old e)]
      exact I.base.free b o e n x
    · exact I.base.there
    · exact fun b xs e => off (I.base.tups b xs e)
    · exact fun b o u e => off (I.base.frzs b o u e)
    · intro b ps e
      obtain ⟨m, q⟩ := I.base.tbls b ps e
      exact ⟨m, off q⟩
  · exact I.loc
  · exact I.cell
  · rw [upd_ne nL.symm]
    exact I.free
  · intro x c e
    rw [upd_ne (nC x c e)]
    exact I.freeC x c e
  · intro p hp
    obtain ⟨q1, q2, q3⟩ := I.pin p hp
    refine ⟨q1, ?_, q3⟩
    rw [upd_ne (nP p hp)]
    exact q2
  · intro b o e
    by_cases hb : b = a
    · subst hb
      rw [upd_same] at e
      cases e
      exact ok
    · rw [upd_ne hb] at e
      exact (I.hok b o e).stay (fun c u _ q => q) (fun c q => off q) fun c xs q => off q
  · exact I.len
/-- into a suite, nothing pinned -/
theorem inv_into (I : Inv X pins σ H s) (a : Addr) : Inv (X.suite a (X.pn ++ pins)) [] σ H s := by
  refine ⟨I.ok.suite _ _, I.os, I.bare, I.base, I.loc, I.cell, I.free, I.freeC, fun p hp => I.pin p ?_, I.hok, I.len⟩
  have e : p ∈ (X.pn ++ pins) ++ [] := hp
  rw [List.append_nil] at e
  exact e
theorem inv_out {a : Addr} (I : Inv (X.suite a (X.pn ++ pins)) [] σ H s) (ok : X.Ok) : Inv X pins σ H s :=
  ⟨ok, I.os, I.bare, I.base, I.loc, I.cell, I.free, I.freeC, fun p hp => I.pin p (List.mem_append_left _ hp), I.hok, I.len⟩
end
/-- what «except x as n» wishes: slot i is n's; the error is tracked at a -/
def wKeep (K : PySem.W.Frag) (c : Value) (i : Nat) (ts : Addr → TS) (Wout : WX) (D : Ends) : WX := fun cls d σ H =>
  ∃ b, PySem.W.exmOne K cls c = some b ∧
    (b = true → ∀ a, H a = none → ts a { nx := fun σ' H' => D.nx (σ'.set i none) H', rt := D.rt, bk := fun σ' H' => D.bk (σ'.set i none) H', ct := fun σ' H' => D.ct (σ'.set i none) H' } (σ.set i (some (.ref a))) (upd H a (exr a cls d))) ∧
    (b = false → Wout cls d σ H)
section
variable {X : Cx} {x n : Str} {c : Value} {i : Nat} {body suite : List Stmt} {b0 : Stmt} {np pos pos' : Pos} {tb : WX → TS} {ts : Addr → TS} {Wout : WX}
theorem ps_try_keep (hs : X.stack = X.env :: X.outer) (hf : X.env.frame = some X.env.locals) (hex : X.ex = []) (hN : X.N.Nodup) (hi : X.N[i]? = some n) (hln : X.env.kindOf n = some .local) (hc : Names X x c) (tk : Takes X Wout)
    (inner : ∀ (W : WX) (pn : List (Addr × Obj)) (xe : Value → Shared → Prop), Takes (X.tr pn xe) W → PassesOwn (model X.prog X.w) X.A X.env xe → PSs (X.tr pn xe) body (tb W))
    (hsu : ∀ (a : Addr) (pn : List (Addr × Obj)), PSs (X.suite a pn) (b0 :: suite) (ts a)) :
    PS X (.Try body [.ExceptHandler (some (.Name x np)) (some n) (b0 :: suite) pos'] [] [] pos) (fun D σ H => tb (wKeep X.K c i ts Wout D) D σ H) := by
  constructor
  intro pins s σ H D I h
  have ok := I.ok
  have frames : X.A.frames = some (X.env :: X.outer) := by
    rw [ok.frames, hs]
  have away : ∀ b, b ∉ X.ex := by
    intro b z
    rw [hex] at z
    cases z
  apply wpAny_Try_except
  let air : Value → Shared → Prop := fun e s₁ => wpAny (model X.prog X.w) X.A (noteFrame e X.env) (fun _ s₂ => wpAny (model X.prog X.w) X.A (setFlight e none)
    (fun _ s₃ => wpAny (model X.prog X.w) X.A (handleBy e X.env [.ExceptHandler (some (.Name x np)) (some n) (b0 :: suite) pos']) (SP X pins D) X.xe s₃) X.xe s₂) X.xe s₁
  have caught : Takes (X.tr (X.pn ++ pins) air) (wKeep X.K c i ts Wout D) := by
    rintro u s' ⟨a, B, sI, pins', σ', H', cls, d, rfl, J0, nb, up, sky, na, os, ag, b, hb1, yes, no⟩
    have J : Inv X pins σ' H' sI := J0.ofTry ok
    have sky2 : Sky B (X.env :: X.outer) a (Zc cls d) X.env.locals s'.heap := hs ▸ sky
    show wpAny (model X.prog X.w) X.A (noteFrame (.ref a) X.env) _ _ _
    apply Sky.land Zc.steady frames hf sky2
    intro h3 fl3 up3
    have J3 : Inv X pins σ' H' { s' with heap := h3 } := J.landed nb fl3.1 (up.trans up3) os ag
    obtain ⟨oe3, vs3, he3, hz3, hd3⟩ := fl3.there
    have offFrames : a ∉ frs (X.env :: X.outer) := by
      intro hm
      obtain ⟨_, o', e', hnf⟩ := fl3.2.2.1.mem hm
      rw [he3] at e'
      cases e'
      exact hnf _ hd3
    have nL : a ≠ X.env.locals := fun z => offFrames (List.mem_filterMap.mpr ⟨X.env, List.mem_cons_self, by rw [hf, z]⟩)
    have nI : sI.heap.get? a = none := by
      cases q : sI.heap.get? a with
      | none => rfl
      | some o =>
        have z := nb a o q (by rw [hs]; exact offFrames)
        rw [fl3.2.1] at z
        cases z
    have n0 : X.s_0.heap.get? a = none := by
      cases q : X.s_0.heap.get? a with
      | none => rfl
      | some o =>
        obtain ⟨o', z⟩ := J.base.there a o q (away a)
        rw [nI] at z
        cases z
    have nC : ∀ y k, X.env.cells.lookup y = some k → k ≠ a := by
      intro y k e z
      obtain ⟨v, o, ho, _⟩ := J.cell y k e
      rw [z, nI] at ho
      cases ho
    have nP : ∀ p ∈ X.pn ++ pins, p.1 ≠ a := by
      intro p hp z
      have q := (J.pin p hp).1
      rw [z, nI] at q
      cases q
    have J3t := inv_into (inv_track (O := exr a cls d) J3 n0 na nL nC nP (exr_ok he3 hz3 hd3)) a
    apply wpAny_handleBy_cons _ (by intro q; cases q)
    apply codeAny_handlers_test
    have typ : PySem.W.Looks (model X.prog X.w) h3 (typeOf (.ref a)) cls := by
      intro A Q E s k q
      exact wpAny_typeOf_ref (k _ _ he3) (by rw [hz3.1]; exact q)
    have fits := PySem.W.exm_one (M := model X.prog X.w) J3.kIn typ hb1
    have clause : ∀ {Q : Value → Shared → Prop} {E : Value → Shared → Prop}, Q c { s' with heap := h3 } → wpAny (model X.prog X.w) (X.A.mark (some (.ref a))) (eval (.Name x np) X.env) Q E { s' with heap := h3 } := by
      intro Q E q
      obtain ⟨hg, hdbg, hm | ⟨hm, hv, hnn⟩⟩ := hc
      · exact ld_glob (X := X.suite a (X.pn ++ pins)) J3t hg hm q hdbg
      · exact ld_blt (X := X.suite a (X.pn ++ pins)) J3t hg hm hv q hnn hdbg
    refine clause (fits.here ?_)
    cases b with
    | false =>
      show wpAny _ X.A (handleBy (.ref a) X.env []) _ _ _
      apply wpAny_handleBy_nil
      obtain ⟨_, _, _, oe, vs, T, oT, ts2, he, hz, hd, h1, _⟩ := id fl3
      unfold PySem.passOn
      apply wpAny_bind
      apply wpAny_field he hd h1
      rw [if_neg (show ¬ ((Value.ref T == Value.none) = true) from by simp)]
      have last : wpAny (model X.prog X.w) X.A (setFlight (.ref a) X.env.frame) (fun _ s4 => wpAny (model X.prog X.w) X.A (throw (.ref a) : Sem Flow) (SP X pins D) X.xe s4) X.xe { s' with heap := h3 } := by
        rw [hf]
        apply HandSPX.setFlight_upZ fl3
        intro h4 hh4 up4
        apply wpAny_throw
        apply tk
        refine ⟨a, B, sI, pins, σ', H', cls, d, rfl, J, nb, (up.trans up3).trans up4, .inr (.inr ?_), na, os, ag, no rfl⟩
        rw [hs]
        exact hh4
      first
        | exact wpAny_bind (wpAny_pure (wpAny_bind last))
        | exact wpAny_bind last
    | true =>
      apply codeAny_handlers_suite_as
      apply HandSPX.lands_againZ fl3
      intro h4 fl4 up4
      have J4 : Inv X pins σ' H' { s' with heap := h4 } := J.landed nb fl4.1 ((up.trans up3).trans up4) os ag
      obtain ⟨oe4, vs4, he4, hz4, hd4⟩ := fl4.there
      have J4t := inv_into (inv_track (O := exr a cls d) J4 n0 na nL nC nP (exr_ok he4 hz4 hd4)) a
      apply store_ok (X := X.suite a (X.pn ++ pins)) (v := .ref a) J4t hN hi (.inl hln) rfl _ (.inr hln)
      intro s5 S5
      have done : ∀ {σ6 : L2.St} {H6 : Hp} {s6 : Shared} {Q : Shared → Prop}, Inv (X.suite a (X.pn ++ pins)) [] σ6 H6 s6 → (∀ s7, Inv X pins (σ6.set i none) H6 s7 → Q s7) →
          wpAny (model X.prog X.w) X.A (do bindName X.env n .none; unbindBehindTheSuite X.env n pos') (fun _ s7 => Q s7) X.xe s6 := fun {σ6 H6 s6 Q} S6 hq => gone_ok (inv_out S6 ok) hN hi hln hq
      apply wpAny_mono ((hsu a (X.pn ++ pins)).run [] s5 _ _ _ S5 (yes rfl a na))
      · intro f s6 hsp
        match f, hsp with
        | .next, ⟨σ6, H6, S6, q6⟩ => exact done S6 fun s7 J7 => ⟨_, _, J7, q6⟩
        | .brk, ⟨σ6, H6, S6, q6⟩ => exact done S6 fun s7 J7 => ⟨_, _, J7, q6⟩
        | .cont, ⟨σ6, H6, S6, q6⟩ => exact done S6 fun s7 J7 => ⟨_, _, J7, q6⟩
        | .ret u, ⟨v6, σ6, H6, S6, r6, q6⟩ => exact done S6 fun s7 J7 => ⟨_, _, _, J7, r6, q6⟩
      · exact fun _ _ z => False.elim z
  apply wpAny_mono ((inner (wKeep X.K c i ts Wout D) (X.pn ++ pins) air caught PassesOwn.looking).run [] s σ H D (I.toTry _) h)
  · intro f s1 hsp
    match f, hsp with
    | .next, ⟨σ', H', J', q⟩ => exact wpAny_execs_nil ⟨σ', H', J'.ofTry ok, q⟩
    | .brk, ⟨σ', H', J', q⟩ => exact ⟨σ', H', J'.ofTry ok, q⟩
    | .cont, ⟨σ', H', J', q⟩ => exact ⟨σ', H', J'.ofTry ok, q⟩
    | .ret u, ⟨v, σ', H', J', r, q⟩ => exact ⟨v, σ', H', J'.ofTry ok, r, q⟩
  · exact fun e s1 he => he
end
end Paw

set_option maxRecDepth 100000
set_option maxHeartbeats 4000000
namespace Paw
open PySem PySem.Spec PyProof.Rows L2

/-! ### // by any whole number but 0 -/
def CDivZ (_ j : Int) : Prop := j ≠ 0 ∧ j.natAbs.log2 < 9000
theorem op_fdivZ {X : Cx} : OpR X (binaryOp .FloorDiv) (rI CDivZ fun i j => .int (i.fdiv j)) := opI fun i j _ _ _ _ _ hc q => floordiv_int hc.1 q (.inl (PyProof.noPylong_of_log2 hc.2))
theorem div_any {i j : Int} {b : Nat} (h : j ≠ 0) (hb : j.natAbs < 2 ^ b) (h0 : 0 < b) (h9 : b ≤ 9000) : CDivZ i j := ⟨h, Nat.lt_of_lt_of_le (PySem.Flt.log2_lt_of h0 hb) h9⟩
/-! ### the type of data -/
def kindOf : PyData → String
  | .none => "NoneType"
  | .bool _ => "bool"
  | .int _ => "int"
  | .str _ => "str"
  | .list _ => "list"
  | .tuple _ => "tuple"
  | .dict _ => "dict"
theorem RD.ty {K : PySem.W.Frag} {H : Hp} {x : V} {d : PyData} (h : RD K H x d) : TyX K H x (.type (kindOf d)) := by
  cases h with
  | non => exact .base .non
  | bl b => exact .base (.bl b)
  | int i => exact .base (.int i)
  | str x => exact .base (.str x)
  | lst h hs =>
    rcases h with (h | ⟨o, h⟩) | ⟨o, its, n, hk, hc, _⟩
    · exact .base (.lst h)
    · exact .base (.frz h)
    · exact .kList hk hc
  | tup h hs =>
    rcases h with (h | ⟨o, h⟩) | ⟨o, its, n, hk, hc, _⟩
    · exact .base (.tup h)
    · exact .fTuple h
    · exact .kTuple hk hc
  | dic h hs => exact .base (.dK h)
def isI : PyData → Bool
  | .int _ => true
  | _ => false
def isB : PyData → Bool
  | .bool _ => true
  | _ => false
def isT : PyData → Bool
  | .tuple _ => true
  | _ => false
def isL : PyData → Bool
  | .list _ => true
  | _ => false
theorem kit_int {K : PySem.W.Frag} (d : PyData) : PySem.W.kitOne K (.type (kindOf d)) (.type "int") = some (isI d || isB d) := by
  cases d
  · exact kit_ty (a := "NoneType") (r := false) (by decide +kernel)
  · exact kit_ty (a := "bool") (r := true) (by decide +kernel)
  · exact kit_ty (a := "int") (r := true) (by decide +kernel)
  · exact kit_ty (a := "str") (r := false) (by decide +kernel)
  · exact kit_ty (a := "list") (r := false) (by decide +kernel)
  · exact kit_ty (a := "tuple") (r := false) (by decide +kernel)
  · exact kit_ty (a := "dict") (r := false) (by decide +kernel)
theorem kit_bool {K : PySem.W.Frag} (d : PyData) : PySem.W.kitOne K (.type (kindOf d)) (.type "bool") = some (isB d) := by
  cases d
  · exact kit_ty (a := "NoneType") (r := false) (by decide +kernel)
  · exact kit_ty (a := "bool") (r := true) (by decide +kernel)
  · exact kit_ty (a := "int") (r := false) (by decide +kernel)
  · exact kit_ty (a := "str") (r := false) (by decide +kernel)
  · exact kit_ty (a := "list") (r := false) (by decide +kernel)
  · exact kit_ty (a := "tuple") (r := false) (by decide +kernel)
  · exact kit_ty (a := "dict") (r := false) (by decide +kernel)
theorem kit_tuple {K : PySem.W.Frag} (d : PyData) : PySem.W.kitOne K (.type (kindOf d)) (.type "tuple") = some (isT d) := by
  cases d
  · exact kit_ty (a := "NoneType") (r := false) (by decide +kernel)
  · exact kit_ty (a := "bool") (r := false) (by decide +kernel)
  · exact kit_ty (a := "int") (r := false) (by decide +kernel)
  · exact kit_ty (a := "str") (r := false) (by decide +kernel)
  · exact kit_ty (a := "list") (r := false) (by decide +kernel)
  · exact kit_ty (a := "tuple") (r := true) (by decide +kernel)
  · exact kit_ty (a := "dict") (r := false) (by decide +kernel)
theorem kit_list {K : PySem.W.Frag} (d : PyData) : PySem.W.kitOne K (.type (kindOf d)) (.type "list") = some (isL d) := by
  cases d
  · exact kit_ty (a := "NoneType") (r := false) (by decide +kernel)
  · exact kit_ty (a := "bool") (r := false) (by decide +kernel)
  · exact kit_ty (a := "int") (r := false) (by decide +kernel)
  · exact kit_ty (a := "str") (r := false) (by decide +kernel)
  · exact kit_ty (a := "list") (r := true) (by decide +kernel)
  · exact kit_ty (a := "tuple") (r := false) (by decide +kernel)
  · exact kit_ty (a := "dict") (r := false) (by decide +kernel)
/-! ### a caught error's field -/
def tExcFld (K : PySem.W.Frag) (nm : Str) (te : TE) : TE := fun σ H Q => te σ H fun x H1 => ∃ (a C d : Addr) (fs : List (Str × V)) (v : V), x = .ref a ∧ ExV K C ∧ PySem.W.findIn K (.ref C) nm = some none ∧ H1 a = some (exr a (.ref C) (some d)) ∧ H1 d = some (.xd fs) ∧ fs.lookup nm = some v ∧ Q v H1
section
variable {X : Cx} {e : Expr} {te : TE} {pos : Pos}
theorem pe_excFld {nm : Str} (he : PE X e te) (hb : attributeBase e nm X.env (eval e X.env) = eval e X.env := by rfl) : PE X (.Attribute e nm pos) (tExcFld X.K nm te) := by
  constructor
  intro pins s σ H Q I h
  apply attr_of hb
  apply thn (he.run pins s σ H _ I h)
  rintro u s1 ⟨x, H1, I1, rx, a, C, d, fs, v, rfl, T, no, ea, ed, l, q⟩
  cases (show u = Value.ref a from rx)
  obtain ⟨oe, vs, ho, hz, hd⟩ := exr_at I1.hok ea
  obtain ⟨mA, hn, rel⟩ := (show ObjOk X.prog X.w H1 s1.heap d (.xd fs) from I1.hok d _ ed)
  obtain ⟨od, hod, hl⟩ := lookIn_ns hn
  obtain ⟨u, hu, ru⟩ := RelO.some_of (v := v) (o := mA nm) (by rw [← l]; exact rel nm)
  have J : PySem.W.InstAt s1.heap a oe C (some od) := by
    refine ⟨ho, hz.1, ?_, ?_⟩
    · unfold PySem.W.notCls
      rw [hd]
    · rw [hz.2]
      exact hod
  exact HandSPX.exc_get I1.kIn J T.ga T.gg T.oex.exC (PySem.W.findObj_own T.hd no rfl (by rw [hl, hu])) (handed_of ru) ⟨v, H1, I1.tok _, ru, q⟩
end
/-! ### an own error of one value, raised -/
def spI1 (K : PySem.W.Frag) (fl : Str) : Sp := fun vs H Q _ => ∃ (a C : Addr) (v : V), vs = [.ref a, v] ∧ OexC K C ∧ PySem.W.findIn K (.ref C) fl = some none ∧ H a = some (exo a C none) ∧ ∀ dx, H dx = none → dx ≠ a → Q .non (upd (upd H dx (exd dx [(fl, v)])) a (exo a C (some dx)))
theorem ok_init1 {P : Program} {w : World} {K : PySem.W.Frag} {mg : Str → Option Value} {base : Heap} {fl q : Str} {st : Stmt} {f : Addr} {fd : FuncData} (F : Fun K "__init__" q st f fd) (S : FnScope ["self", fl] ["self", fl] (defScope st)) (l0 : (defScope st).names.lookup ("self" : Str) = some NameKind.local) (l1 : (defScope st).names.lookup fl = some NameKind.local)
    (hb : ∃ p1 p2 p3 p4, defBody st = [.Assign [.Attribute (.Name "self" p1) fl p2] (.Name fl p3) p4]) (d1 : (fl == ("__debug__" : Str)) = false) (d2 : (fl == ("__classdict__" : Str)) = false) : FnOk P w K mg base CX0 1 f fd ["self", fl] (spI1 K fl) := by
  refine F.ok S (fun vs H Q E h => ?_) (fun cdv A outer s H vs Q E hr h => ?_)
  · obtain ⟨a, C, v, rfl, _⟩ := h
    rfl
  · obtain ⟨a, C, v, rfl, T, no, ha, k⟩ := h
    obtain ⟨p1, p2, p3, p4, hb⟩ := hb
    rw [hb]
    refine ⟨_, pss_one (ps_ost (pv 0 rfl (Or.inl l0)) (pv 1 rfl (Or.inl l1) d1 d2)), ?_⟩
    exact ⟨v, rfl, .ref a, rfl, a, C, rfl, T, no, .inl ⟨ha, k⟩⟩
/-- what the raising of such an error must serve -/
def Thrown (fl : Str) (C : Addr) (v : V) (H : Hp) (E : XK) : Prop := ∀ (d : Addr) (H' : Hp), H d = none → Same H H' → H' d = some (.xd [(fl, v)]) → E (.ref C) (some d) H'
theorem Thrown.mono {fl : Str} {C : Addr} {v : V} {H H1 : Hp} {E : XK} (h : Thrown fl C v H E) (s : Same H H1) : Thrown fl C v H1 E := fun d H' n s' e => h d H' (s.free n) (s.trans s') e
theorem thrown_mk {K : PySem.W.Frag} {C : Addr} {fl : Str} {v : V} {H1 : Hp} {E : XK} (T : OexC K C) (no : PySem.W.findIn K (.ref C) fl = some none) (h : Thrown fl C v H1 E) (a : Addr) (ha : H1 a = none) :
    spI1 K fl (.ref a :: ([v] ++ [])) (upd H1 a (exo a C none)) (fun u H2 => u = .non ∧ ∃ (d : Addr) (fs : List (Str × V)), H2 a = some (exo a C (some d)) ∧ H2 d = some (exd d fs) ∧ H1 d = none ∧ E (.ref C) (some d) (upd (del H2 a) d (.xd fs))) (fun _ _ _ => False) := by
  refine ⟨a, C, v, rfl, T, no, upd_same, fun d hd ne => ⟨rfl, d, [(fl, v)], upd_same, (upd_ne ne).trans upd_same, (upd_ne ne).symm.trans hd, ?_⟩⟩
  have hd1 : H1 d = none := (upd_ne ne).symm.trans hd
  refine h d _ hd1 (fun b o e => ?_) upd_same
  have n1 := ne_of_none e ha
  have n2 := ne_of_none e hd1
  rw [upd_ne n2, del_ne n1, upd_ne n1, upd_ne n2, upd_ne n1]
  exact e
/-- the class, where it stands -/
structure Kv (P : Program) (w : World) (K : PySem.W.Frag) (mg : Str → Option Value) (base : Heap) (x fl : Str) (C : Addr) : Prop where
  g : mg x = some (.ref C)
  v : ExV K C
  no : PySem.W.findIn K (.ref C) fl = some none
  ini : ∃ (f : Addr) (fd : FuncData), PySem.W.findIn K (.ref C) "__init__" = some (some (.ref f)) ∧ PySem.W.typeIn K (.ref f) = some (.type "function") ∧ FnOk P w K mg base CX0 1 f fd ["self", fl] (spI1 K fl) ∧ Binds K fd ["self", fl] []
def tThrow (K : PySem.W.Frag) (fl : Str) (C : Addr) (W : WX) (te : TE) : TS := fun _ σ H => tMkO C (spI1 K fl) [] (tCons te tNil) σ H fun cls d H' => W cls d σ H'
section
variable {X : Cx} {W : WX} {fl x : Str} {C : Addr} {p pos pos' : Pos} {e : Expr} {te : TE}
/-- raise x(e) -/
theorem ps_throw (T : Kv X.prog X.w X.K X.mg X.base x fl C) (hr : Room 2 X.A) (hc : X.calm = true) (tk : Takes X W) (hg : Gl X x) (he : PE X e te) (hdb : (x == ("__debug__" : Str)) = false := by decide)
    (hs : starEach [e] X.env = (false, eval e X.env) :: starEach [] X.env := by rfl) : PS X (.Raise (some (.Call (.Name x p) [e] [] pos)) none pos') (tThrow X.K fl C W te) := by
  obtain ⟨f, fd, i1, i2, F, b⟩ := T.ini
  have h := ps_raise (pos := pos') hc tk (pmk_oex (p := p) (pos := pos) T.v.oex i1 i2 F hr b .nil pass0 hg T.g (pa_cons he pa_nil hs) hdb hs)
  constructor
  intro pins s σ H D I q
  exact h.run pins s σ H D I q
end
/-! ### calls by a promise of its own -/
section
variable {X : Cx} {CX : CXT} {k i : Nat} {R : Addr → Sp → Prop} {E : L2.St → XK} {x : Str} {p pos : Pos} {e fe : Expr} {es : List Expr} {t : TA} {tf : TE}
theorem run_fnRS {pins : List (Addr × Obj)} {σ : L2.St} {H : Hp} {s : Shared} {f : Addr} {sp : Sp} {Q : VK} {us : List Value} {vs : List V} (F : FnR X.prog X.w X.K X.mg X.base CX k f sp) (hr : Room k X.A) (hx : PassesAt CX X σ (E σ)) (I : Inv X pins σ H s) (r : Vals vs us) (h : sp vs H Q (E σ)) :
    wpAny (model X.prog X.w) X.A (call (.ref f) us) (EP X pins σ Q) X.xe s := by
  apply wpAny_call
  apply codeAny_mono (F X.A X.stack s H us vs Q (E σ) hr I.env0 r h)
  intro r s' q
  match r, q with
  | .error e, q => exact hx pins H s e s' I q
  | .ok (.ret u), q => exact I.after q
/-- what a callee that may be one of several must be -/
def Callees (X : Cx) (CX : CXT) (k : Nat) (R : Addr → Sp → Prop) : Prop := ∀ f sp, R f sp → FnR X.prog X.w X.K X.mg X.base CX k f sp ∧ PySem.W.keepIn X.K (.ref f) = true
/-- x(e, ..), x a local name -/
def tCallV (i : Nat) (R : Addr → Sp → Prop) (E : L2.St → XK) (t : TA) : TE := fun σ H Q => ∃ f sp, σ[i]? = some (some (.ref f)) ∧ R f sp ∧ t σ H fun vs H1 => sp vs H1 Q (E σ)
theorem pe_callV (A : Callees X CX k R) (hr : Room k X.A) (hx : ∀ σ, PassesAt CX X σ (E σ)) (hN : X.N[i]? = some x) (hv : Vis X.env.scope x) (ha : PA X (e :: es) t)
    (hdb : (x == ("__debug__" : Str)) = false := by decide) (hcd : (x == ("__classdict__" : Str)) = false := by decide)
    (he : starEach (e :: es) X.env = (false, eval e X.env) :: starEach es X.env := by rfl) (hpl : (backTo pos (starEach es X.env)).any (·.1) = false := by rfl) : PE X (.Call (.Name x p) (e :: es) [] pos) (tCallV i R E t) := by
  constructor
  rintro pins s σ H Q I ⟨f, sp, hs, hR, ht⟩
  obtain ⟨F, hk⟩ := A f sp hR
  apply wpAny_Call_Name_kw
  apply thn ((pe_var (pos := p) hN hv hdb hcd).run pins s σ H (fun v H1 => v = .ref f ∧ H1 = H) I ⟨.ref f, hs, rfl, rfl⟩)
  rintro u s1 ⟨v, H1, I1, r1, rfl, rfl⟩
  cases r1
  apply PySem.W.callWith_K (h₀ := X.base) I.ok.mod.kin hk _ he hpl
  apply thn (ha.run pos pins s1 σ _ _ I1 ht)
  rintro us s2 ⟨vs, H2, I2, r, q⟩
  exact ⟨I2.kIn, run_fnRS F hr (hx σ) I2 r q⟩
theorem pe_callV0 (A : Callees X CX k R) (hr : Room k X.A) (hx : ∀ σ, PassesAt CX X σ (E σ)) (hN : X.N[i]? = some x) (hv : Vis X.env.scope x)
    (hdb : (x == ("__debug__" : Str)) = false := by decide) (hcd : (x == ("__classdict__" : Str)) = false := by decide) : PE X (.Call (.Name x p) [] [] pos) (tCallV i R E tNil) := by
  constructor
  rintro pins s σ H Q I ⟨f, sp, hs, hR, ht⟩
  obtain ⟨F, hk⟩ := A f sp hR
  apply wpAny_Call_Name_kw
  apply thn ((pe_var (pos := p) hN hv hdb hcd).run pins s σ H (fun v H1 => v = .ref f ∧ H1 = H) I ⟨.ref f, hs, rfl, rfl⟩)
  rintro u s1 ⟨v, H1, I1, r1, rfl, rfl⟩
  cases r1
  exact PySem.W.callWith_K0 I1.kIn hk (run_fnRS (us := []) F hr (hx σ) I1 .nil ht)
/-- g(e, ..), g any expression that gives a def -/
def tCallF (R : Addr → Sp → Prop) (E : L2.St → XK) (tf : TE) (t : TA) : TE := fun σ H Q => tf σ H fun y H1 => ∃ f sp, y = .ref f ∧ R f sp ∧ t σ H1 fun vs H2 => sp vs H2 Q (E σ)
theorem pe_callF (A : Callees X CX k R) (hr : Room k X.A) (hx : ∀ σ, PassesAt CX X σ (E σ)) (hf : PE X fe tf) (ha : PA X (e :: es) t)
    (ht : eval (.Call fe (e :: es) [] pos) X.env = (do callWith pos (← eval fe X.env) [] (backTo pos (starEach (e :: es) X.env)) (backToKw pos (keywordEach [] X.env))) := by rfl)
    (he : starEach (e :: es) X.env = (false, eval e X.env) :: starEach es X.env := by rfl) (hpl : (backTo pos (starEach es X.env)).any (·.1) = false := by rfl) : PE X (.Call fe (e :: es) [] pos) (tCallF R E tf t) := by
  constructor
  intro pins s σ H Q I h
  refine Call_ (thn (hf.run pins s σ H _ I h) ?_) ht
  rintro u s1 ⟨y, H1, I1, ry, f, sp, rfl, hR, q⟩
  obtain ⟨F, hk⟩ := A f sp hR
  obtain rfl : u = Value.ref f := ry
  apply PySem.W.callWith_K (h₀ := X.base) I.ok.mod.kin hk _ he hpl
  apply thn (ha.run pos pins s1 σ H1 _ I1 q)
  rintro us s2 ⟨vs, H2, I2, r, q2⟩
  exact ⟨I2.kIn, run_fnRS F hr (hx σ) I2 r q2⟩
/-- x(e, ..), x a def of the module, by such a promise -/
def tCallG (sp : Sp) (E : L2.St → XK) (t : TA) : TE := fun σ H Q => t σ H fun vs H1 => sp vs H1 Q (E σ)
theorem pe_callRS {f : Addr} {sp : Sp} (F : FnR X.prog X.w X.K X.mg X.base CX k f sp) (hr : Room k X.A) (hg : Gl X x) (hm : X.mg x = some (.ref f)) (hk : PySem.W.keepIn X.K (.ref f) = true) (hx : ∀ σ, PassesAt CX X σ (E σ)) (ha : PA X (e :: es) t)
    (hdb : (x == ("__debug__" : Str)) = false := by decide) (he : starEach (e :: es) X.env = (false, eval e X.env) :: starEach es X.env := by rfl) (hpl : (backTo pos (starEach es X.env)).any (·.1) = false := by rfl) :
    PE X (.Call (.Name x p) (e :: es) [] pos) (tCallG sp E t) := by
  constructor
  intro pins s σ H Q I h
  apply wpAny_Call_Name_kw
  apply ld_glob I hg hm _ hdb
  apply PySem.W.callWith_K (h₀ := X.base) I.ok.mod.kin hk _ he hpl
  apply thn (ha.run pos pins s σ H _ I h)
  rintro us s1 ⟨vs, H1, I1, r, q⟩
  exact ⟨I1.kIn, run_fnRS F hr (hx σ) I1 r q⟩
/-- a def's usual promise as such a one -/
theorem fnR_of {P : Program} {w : World} {K : PySem.W.Frag} {mg : Str → Option Value} {base : Heap} {f : Addr} {fd : FuncData} {ps : List Str} {sp : Sp} {dvs : List V} {ds : List Value} (F : FnOk P w K mg base CX k f fd ps sp) (hb : Binds K fd ps ds) (hd : Vals dvs ds) :
    FnR P w K mg base CX k f (fun vs H Q E => sp (vs ++ dvs) H Q E) := by
  intro A outer s H us vs Q E hr e0 r h
  have rel : Vals (vs ++ dvs) (us ++ ds) := r.append hd
  have many : (us ++ ds).length = ps.length := rel.length.symm.trans (F.len _ _ _ _ h)
  have KX : K.In s.heap := e0.mod.kin.keeps fun b o e => (e0.bs b o e).1
  exact F.run A outer s H ⟨us, []⟩ (us ++ ds) (vs ++ dvs) Q E hr e0 (hb s us KX many) rel h
/-- nothing is let out at all -/
theorem calmAt (σ : L2.St) : PassesAt (L2.CX X.prog X.w) X σ (fun _ _ _ => False) := fun pins H s e s' I c => by
  obtain ⟨_, _, _, _, _, _, _, _, _, _, _, _, z⟩ := c
  exact z.elim
end
end Paw

set_option maxRecDepth 100000
set_option maxHeartbeats 2000000
namespace Paw
open PySem PySem.Spec PyProof.Rows L2
def top (i : Nat) : Stmt := PySem.Challenge.pw_pawlhall_k01_fractions.main.body.getD i (.Pass ⟨0, 0, 0, 0⟩)
abbrev sMixed : Stmt := top 14
abbrev sPile : Stmt := top 15
abbrev sTake : Stmt := top 16

/-! ### the draws -/
def BIG : Int := 10 ^ 50 * 10 ^ 50 * 10 ^ 50
theorem big_pos : 0 < BIG := by decide +kernel
theorem big_log : BIG.natAbs < 2 ^ 500 := by decide +kernel
/-- what stands in a pile: digits, the cell's rest, a count, a flag -/
def Pile (b : Bool) (L : List V) : Prop := ∃ d m c : Int, L = [.int d, .int m, .int c, .bl b] ∧ 0 ≤ d ∧ d < BIG ∧ 0 ≤ m ∧ m < 2147483647
def spMixed : Sp := fun vs H Q _ => ∃ c k : Int, vs = [.int c, .int k] ∧ ∀ r : Int, 0 ≤ r → Q (.int r) H
def spPile (K : PySem.W.Frag) : Sp := fun vs H Q _ => ∃ (a : Addr) (ns : List Int) (k : Nat), vs = [.ref a, .int (k : Int)] ∧ SqL K H a (ns.map V.int) ∧
  ∀ (H' : Hp) (p : Addr) (L : List V), Same H H' → H p = none → H' p = some (.lst L) → Pile (decide ((k : Int) < 2)) L → Q (.ref p) H'
/-- all that was tracked but p is as it was -/
def But (p : Addr) (H H' : Hp) : Prop := ∀ b o, b ≠ p → H b = some o → H' b = some o
def spTake : Sp := fun vs H Q _ => ∃ (p : Addr) (n : Int) (b : Bool) (L : List V), vs = [.ref p, .int n] ∧ 0 < n ∧ n.natAbs < 2 ^ 2000 ∧ H p = some (.lst L) ∧ Pile b L ∧
  ∀ (r : Int) (L' : List V) (H' : Hp), 0 ≤ r → r < n → Pile b L' → But p H H' → H' p = some (.lst L') → Q (.int r) H'
section
variable {P : Program} {w : World} {K : PySem.W.Frag} {mg : Str → Option Value} {base : Heap}
theorem scMixed : FnScope ["cell", "k", "figure"] ["cell", "k"] (defScope sMixed) := ⟨rfl, rfl, rfl, by decide +kernel, rfl, by decide +kernel, by decide +kernel⟩
theorem ok_mixed {f : Addr} {fd : FuncData} (F : Fun K "_law_mixed" "_law_mixed" sMixed f fd) (zi : mg "int" = none) : FnOk P w K mg base CX0 1 f fd ["cell", "k"] spMixed := by
  refine F.ok scMixed (fun vs H Q E h => ?_) (fun cdv A outer s H vs Q E hr h => ?_)
  · obtain ⟨c, k, rfl, _⟩ := h
    rfl
  · obtain ⟨c, k, rfl, q⟩ := h
    refine ⟨_, pss_cons (ps_set (i := 2) scMixed.nd rfl (Or.inl rfl) (pe_op op_mod (pe_callTy call_int1 (by rfl) zi bt_int (pa_cons
        (pe_op op_add (pe_op op_add (pe_op op_mul (pe_op op_mod (pe_callTy call_int1 (by rfl) zi bt_int (pa_cons (pv 0) pa_nil)) pe_int) pe_int) (pe_op op_mul (pv 1) pe_int)) pe_int) pa_nil)) pe_int))
      (pss_cons (ps_set (i := 2) scMixed.nd rfl (Or.inl rfl) (pe_op op_mod (pe_callTy call_int1 (by rfl) zi bt_int (pa_cons (pe_op op_mul (pv 2) (pv 2)) pa_nil)) pe_int))
      (pss_one (ps_ret (pe_op op_fdiv (pe_op op_mod (pe_callTy call_int1 (by rfl) zi bt_int (pa_cons (pe_op op_mul (pv 2) (pv 2)) pa_nil)) pe_int) pe_int)))), ?_⟩
    refine ⟨_, rfl, .inl ⟨_, rfl, _, _, rfl, rfl, (by show (0 : Int) < 2147483647; decide), _, _, rfl, rfl, .inr ⟨by decide, by decide⟩, _, rfl, _, _, rfl, rfl, .inr ⟨by decide, by decide⟩, _, _, rfl, rfl, _, _, rfl, rfl, .inl ⟨_, rfl, _, _, rfl, rfl, (by show (0 : Int) < 2147483647; decide), ?_⟩⟩⟩
    have e1 := Int.emod_nonneg (c % 2147483647 * 48271 + k * 69621 + 11) (by decide : (2147483647 : Int) ≠ 0)
    have e2 := Int.emod_lt_of_pos (c % 2147483647 * 48271 + k * 69621 + 11) (by decide : (0 : Int) < 2147483647)
    refine ⟨_, rfl, _, rfl, _, _, rfl, rfl, .inl ⟨by omega, by omega⟩, .inl ⟨_, rfl, _, _, rfl, rfl, (by show (0 : Int) < 2147483629; decide), ?_⟩⟩
    generalize (c % 2147483647 * 48271 + k * 69621 + 11) % 2147483647 = y at e1 e2 ⊢
    have e3 := Int.emod_nonneg (y * y) (by decide : (2147483629 : Int) ≠ 0)
    have e4 := Int.emod_lt_of_pos (y * y) (by decide : (0 : Int) < 2147483629)
    refine ⟨_, rfl, _, rfl, _, _, rfl, rfl, .inl ⟨by omega, by omega⟩, .inl ⟨_, rfl, _, _, rfl, rfl, (by show (0 : Int) < 2147483587; decide), _, _, rfl, rfl, ⟨by decide, by decide⟩, q _ ?_⟩⟩
    have e5 := Int.emod_nonneg (y * y % 2147483629 * (y * y % 2147483629)) (by decide : (2147483587 : Int) ≠ 0)
    omega
theorem scPile : FnScope ["script", "k", "cell", "digits"] ["script", "k"] (defScope sPile) := ⟨rfl, rfl, rfl, by decide +kernel, rfl, by decide +kernel, by decide +kernel⟩
theorem pow_big : (10 : Int) ^ (50 : Int).toNat * 10 ^ (50 : Int).toNat * 10 ^ (50 : Int).toNat = BIG := by decide +kernel
theorem pow_one : ((10 : Int) ^ (50 : Int).toNat).natAbs < 2 ^ 200 ∧ ((10 : Int) ^ (50 : Int).toNat * 10 ^ (50 : Int).toNat).natAbs < 2 ^ 400 := by decide +kernel
theorem big_mod (c : Int) : 0 ≤ c.fmod BIG ∧ c.fmod BIG < BIG := by
  have h := big_pos
  rw [Int.fmod_eq_emod_of_nonneg c (by omega)]
  exact ⟨Int.emod_nonneg _ (by omega), Int.emod_lt_of_pos _ h⟩
/-- the two ends of digits' menu -/
theorem menu_at (b : Bool) (x : Int) : atI [V.int 0, V.int x] (if b then 1 else 0) = some (.int (if b then x else 0)) := by
  cases b
  · exact atI_nat (j := 0) rfl
  · exact atI_nat (j := 1) rfl
theorem pile_is {c k : Int} {b b2 : Bool} (e : b2 = decide (k < 2)) : Pile (decide (k < 2)) [.int (if b then c.fmod BIG else 0), .int (c % 2147483647), .int (97 * k), .bl b2] := by
  have h := big_mod c
  have h0 := big_pos
  refine ⟨_, _, _, by rw [e], ?_, ?_, Int.emod_nonneg _ (by decide), Int.emod_lt_of_pos _ (by decide)⟩
  · cases b
    · exact Int.le_refl 0
    · exact h.1
  · cases b
    · exact h0
    · exact h.2
theorem ok_pile {f : Addr} {fd : FuncData} (F : Fun K "_law_pile" "_law_pile" sPile f fd) (zi : mg "int" = none) (zl : mg "len" = none) (za : mg "abs" = none) : FnOk P w K mg base CX0 1 f fd ["script", "k"] (spPile K) := by
  refine F.ok scPile (fun vs H Q E h => ?_) (fun cdv A outer s H vs Q E hr h => ?_)
  · obtain ⟨a, ns, k, rfl, _⟩ := h
    rfl
  · obtain ⟨a, ns, k, rfl, hS, q⟩ := h
    refine ⟨_, pss_cons (ps_set (i := 2) scPile.nd rfl (Or.inl rfl) pe_int)
      (pss_cons (ps_if (pt_cmpR op_lt (pv 1) (pe_callB call_len_seq (by rfl) zl bt_len (pa_cons (pv 0) pa_nil)) (nomark _)) (pss_one (ps_set (i := 2) scPile.nd rfl (Or.inl rfl) (pe_ix ix_list (pv 0) (pv 1) (fun _ _ => rfl)))) pss_nil)
      (pss_cons (ps_set (i := 3) scPile.nd rfl (Or.inl rfl) (pe_ix ix_list (pe_lst (pa_cons pe_int (pa_cons (pe_op op_modN (pe_callTy call_int1 (by rfl) zi bt_int (pa_cons (pv 2) pa_nil)) (pe_op op_mulW (pe_op op_mulW (pe_op op_pow pe_int pe_int) (pe_op op_pow pe_int pe_int)) (pe_op op_pow pe_int pe_int))) pa_nil)))
          (pe_callTy call_int1 (by rfl) zi bt_int (pa_cons (pe_cmpR op_ge (pe_callB call_abs (by rfl) za bt_abs (pa_cons (pv 2) pa_nil)) (pe_op op_pow pe_int pe_int) (nomark _)) pa_nil)) (fun _ _ => rfl)))
      (pss_one (ps_ret (pe_lst (pa_cons (pv 3) (pa_cons (pe_op op_mod (pe_callTy call_int1 (by rfl) zi bt_int (pa_cons (pv 2) pa_nil)) pe_int) (pa_cons (pe_op op_mul pe_int (pv 1)) (pa_cons (pe_cmpR op_lt (pv 1) pe_int (nomark _)) pa_nil))))))))), ?_⟩
    refine ⟨_, rfl, _, rfl, a, _, rfl, .inl hS, _, _, rfl, rfl, _, rfl, ?_⟩
    have hk : decide ((k : Int) < ((ns.map V.int).length : Int)) = true → ∃ z : Int, (ns.map V.int)[k]? = some (.int z) := fun h => by
      have e := of_decide_eq_true h
      rw [List.length_map] at e
      have e2 : k < ns.length := by omega
      exact ⟨ns[k], by rw [List.getElem?_map, List.getElem?_eq_getElem e2]; rfl⟩
    refine ite2 (fun h => (hk h).elim fun z hz => ⟨_, rfl, _, rfl, a, _, _, .int z, rfl, rfl, hS, atI_nat hz, ?_⟩) (fun h => ?_)
    all_goals
      refine ⟨_, rfl, .inl ⟨_, rfl, _, _, rfl, rfl, ⟨by decide, by decide, by decide⟩, _, _, rfl, rfl, ⟨by decide, by decide, by decide⟩, _, _, rfl, rfl, wide_mul pow_one.1 pow_one.1 (by decide) (by decide) (by decide), _, _, rfl, rfl, ⟨by decide, by decide, by decide⟩, _, _, rfl, rfl, wide_mul pow_one.2 pow_one.1 (by decide) (by decide) (by decide), _, _, rfl, rfl, (by rw [pow_big]; have := big_pos; omega), (by show 2 ≤ sizeLine; decide), fun l hl => ?_⟩⟩
      rw [pow_big]
      refine ⟨_, rfl, _, rfl, _, _, rfl, rfl, ⟨by decide, by decide, by decide⟩, _, _, rfl, rfl, .inr ⟨_, rfl, l, _, _, _, rfl, rfl, SqL.of upd_same, menu_at _ _, ?_⟩⟩
      refine ⟨_, rfl, _, rfl, .inl ⟨_, rfl, _, _, rfl, rfl, (by show (0 : Int) < 2147483647; decide), _, rfl, _, _, rfl, rfl, .inl ⟨by decide, by decide⟩, _, rfl, _, _, rfl, rfl, (by show 4 ≤ sizeLine; decide), fun p hp => ?_⟩⟩
      have np : p ≠ l := fun z => by
        rw [z, upd_same] at hp
        cases hp
      rw [upd_ne np] at hp
      refine q _ p _ (fun b o e => ?_) hp upd_same (pile_is rfl)
      rw [upd_ne (ne_of_none e hp), upd_ne (ne_of_none e hl)]
      exact e
theorem scTake : FnScope ["pile", "many", "digit"] ["pile", "many"] (defScope sTake) := ⟨rfl, rfl, rfl, by decide +kernel, rfl, by decide +kernel, by decide +kernel⟩
theorem ok_take {f fM : Addr} {fd fdM : FuncData} (F : Fun K "_law_take" "_law_take" sTake f fd) (zi : mg "int" = none) (GM : FnOk P w K mg base CX0 1 fM fdM ["cell", "k"] spMixed) (gM : mg "_law_mixed" = some (.ref fM)) (kM : PySem.W.keepIn K (.ref fM) = true)
    (bM : Binds K fdM ["cell", "k"] []) : FnOk P w K mg base CX0 2 f fd ["pile", "many"] spTake := by
  refine F.ok scTake (fun vs H Q E h => ?_) (fun cdv A outer s H vs Q E hr h => ?_)
  · obtain ⟨p, n, b, L, rfl, _⟩ := h
    rfl
  · obtain ⟨p, n, b, L, rfl, n0, n1, hp, ⟨d, m, c, rfl, d0, d1, m0, m1⟩, q⟩ := h
    refine ⟨_, pss_cons (ps_if (pt_cmpR op_in_seq (pe_ix ix_list (pv 0) pe_int (fun _ _ => rfl)) (pe_lst (pa_cons pe_int (pa_cons (pe_un un_neg pe_int) pa_nil))) (by rfl))
        (pss_cons (ps_asg (pe_op op_add (pe_ix ix_list (pv 0) pe_int (fun _ _ => rfl)) pe_int) (pg_sub (pv 0) pe_int set_list))
        (pss_one (ps_ret (pe_op op_modN (pe_callTy call_int1 (by rfl) zi bt_int (pa_cons (pe_call GM hr rfl gM kM bM .nil pass0 (pa_cons (pe_ix ix_list (pv 0) pe_int (fun _ _ => rfl)) (pa_cons (pe_ix ix_list (pv 0) pe_int (fun _ _ => rfl)) pa_nil))) pa_nil)) (pv 1))))) pss_nil)
      (pss_cons (ps_set (i := 2) scTake.nd rfl (Or.inl rfl) (pe_op op_modN (pe_callTy call_int1 (by rfl) zi bt_int (pa_cons (pe_ix ix_list (pv 0) pe_int (fun _ _ => rfl)) pa_nil)) (pv 1)))
      (pss_cons (ps_asg (pe_op op_fdivW (pe_ix ix_list (pv 0) pe_int (fun _ _ => rfl)) (pv 1)) (pg_sub (pv 0) pe_int set_list))
      (pss_one (ps_ret (pv 2))))), ?_⟩
    refine ⟨_, rfl, p, _, _, _, rfl, rfl, SqL.of hp, atI_nat (j := 0) rfl, _, rfl, (by show 2 ≤ sizeLine; decide), fun l hl => ?_⟩
    have npl : p ≠ l := ne_of_none hp hl
    have keep : ∀ b o, b ≠ p → H b = some o → (upd H l (.lst [.int 0, .int (-1)])) b = some o := fun b o _ e => by
      rw [upd_ne (ne_of_none e hl)]
      exact e
    refine ⟨l, _, rfl, .inl (SqL.of upd_same), rfl, rfl, _, rfl, ?_⟩
    refine ite2 (fun h => ?_) (fun h => ?_)
    · refine ⟨_, rfl, p, _, _, _, rfl, rfl, SqL.of ((upd_ne npl).trans hp), atI_nat (j := 2) rfl, _, _, rfl, rfl, _, rfl, p, _, _, 2, rfl, rfl, (upd_ne npl).trans hp, rfl, ?_⟩
      refine ⟨_, rfl, p, _, _, _, rfl, rfl, SqL.of upd_same, atI_nat (j := 1) rfl, _, rfl, p, _, _, _, rfl, rfl, SqL.of upd_same, atI_nat (j := 2) rfl, _, _, rfl, fun r r0 => .inl ⟨_, rfl, _, rfl, _, _, rfl, rfl, (by omega), ?_⟩⟩
      refine q _ [.int d, .int m, .int (c + 1), .bl b] _ ?_ ?_ ⟨d, m, c + 1, rfl, d0, d1, m0, m1⟩ (fun b o nb e => ?_) upd_same
      · rw [Int.fmod_eq_emod_of_nonneg r (by omega)]
        exact Int.emod_nonneg _ (by omega)
      · rw [Int.fmod_eq_emod_of_nonneg r (by omega)]
        exact Int.emod_lt_of_pos _ n0
      · rw [upd_ne nb]
        exact keep b o nb e
    · refine ⟨_, rfl, p, _, _, _, rfl, rfl, SqL.of ((upd_ne npl).trans hp), atI_nat (j := 0) rfl, .inl ⟨_, rfl, _, rfl, _, _, rfl, rfl, (by omega), ?_⟩⟩
      refine ⟨_, rfl, p, _, _, _, rfl, rfl, SqL.of ((upd_ne npl).trans hp), atI_nat (j := 0) rfl, _, rfl, _, _, rfl, rfl, wide_div n0 n1 (by decide) (by decide), _, rfl, p, _, _, 0, rfl, rfl, (upd_ne npl).trans hp, rfl, _, rfl, ?_⟩
      have nn : (0 : Int) ≤ n := by omega
      refine q _ [.int (d / n), .int m, .int c, .bl b] _ ?_ ?_ ⟨d / n, m, c, rfl, Int.ediv_nonneg d0 nn, ?_, m0, m1⟩ (fun b o nb e => ?_) upd_same
      · rw [Int.fmod_eq_emod_of_nonneg d nn]
        exact Int.emod_nonneg _ (by omega)
      · rw [Int.fmod_eq_emod_of_nonneg d nn]
        exact Int.emod_lt_of_pos _ n0
      · exact Int.lt_of_le_of_lt (Int.ediv_le_self n d0) d1
      · rw [upd_ne nb]
        exact keep b o nb e
end
end Paw

set_option maxRecDepth 100000
set_option maxHeartbeats 2000000
namespace Paw
open PySem PySem.Spec PyProof.Rows L2
abbrev sOdd : Stmt := top 24
abbrev sAlike : Stmt := top 26

/-! ### heaps -/
theorem same_new {H : Hp} {p : Addr} {o : HO} (h : H p = none) : Same H (upd H p o) := fun b u e => (upd_ne (ne_of_none e h)).trans e
theorem fresh {H : Hp} {a b : Addr} {o : HO} (h : upd H a o b = none) : b ≠ a ∧ H b = none := by
  have n : b ≠ a := fun z => by
    rw [z, upd_same] at h
    cases h
  exact ⟨n, (upd_ne n).symm.trans h⟩
theorem But.refl {p : Addr} {H : Hp} : But p H H := fun _ _ _ e => e
theorem But.trans {p : Addr} {H1 H2 H3 : Hp} (a : But p H1 H2) (b : But p H2 H3) : But p H1 H3 := fun c o n e => b c o n (a c o n e)
theorem same_but {p : Addr} {H1 H2 : Hp} (a : Same H1 H2) : But p H1 H2 := fun c o _ e => a c o e

/-! ### odd things -/
def OddAt (H : Hp) (v : V) : Nat → Prop
  | 0 => v = .non
  | 1 => v = .bl true
  | 2 => v = .int 0
  | 3 => v = .str "A"
  | 4 => v = .str ""
  | 5 => ∃ t, v = .ref t ∧ H t = some (.tup [])
  | 6 => ∃ t, v = .ref t ∧ H t = some (.lst [])
  | 7 => ∃ t, v = .ref t ∧ H t = some (.dK [])
  | 8 => v = .str "a1"
  | 9 => v = .str "abcdefghi"
  | 10 => v = .int (-1)
  | 11 => ∃ t, v = .ref t ∧ H t = some (.tup [.str "a"])
  | 12 => ∃ t, v = .ref t ∧ H t = some (.lst [.str "a"])
  | 13 => ∃ t, v = .ref t ∧ H t = some (.tup [.int 1, .int 2])
  | 14 => v = .str "a b"
  | 15 => v = .str "1"
  | 16 => v = .str " a"
  | 17 => v = .str "a_"
  | 18 => v = .str "a\n"
  | 19 => v = .bl false
  | _ => False
def spOdd : Sp := fun vs H Q _ => ∃ (p : Addr) (b : Bool) (L : List V), vs = [.ref p] ∧ H p = some (.lst L) ∧ Pile b L ∧
  ∀ (j : Nat) (v : V) (L' : List V) (H' : Hp), OddAt H' v j → (∀ t, v = .ref t → H t = none) → But p H H' → H' p = some (.lst L') → Pile b L' → Q v H'
def oddItems (t5 t6 t7 t11 t12 t13 : Addr) : List V :=
  [.non, .bl true, .int 0, .str "A", .str "", .ref t5, .ref t6, .ref t7, .str "a1", .str "abcdefghi", .int (-1), .ref t11, .ref t12, .ref t13, .str "a b", .str "1"] ++ [.str " a", .str "a_", .str "a\n", .bl false]
theorem odd_of {H0 H : Hp} {t5 t6 t7 t11 t12 t13 : Addr} (n5 : H0 t5 = none) (n6 : H0 t6 = none) (n7 : H0 t7 = none) (n11 : H0 t11 = none) (n12 : H0 t12 = none) (n13 : H0 t13 = none)
    (h5 : H t5 = some (.tup [])) (h6 : H t6 = some (.lst [])) (h7 : H t7 = some (.dK [])) (h11 : H t11 = some (.tup [.str "a"])) (h12 : H t12 = some (.lst [.str "a"])) (h13 : H t13 = some (.tup [.int 1, .int 2])) :
    ∀ (j : Nat) (v : V), (oddItems t5 t6 t7 t11 t12 t13)[j]? = some v → OddAt H v j ∧ ∀ t, v = .ref t → H0 t = none
  | 0, _, e => by cases e; exact ⟨rfl, fun t z => nomatch z⟩
  | 1, _, e => by cases e; exact ⟨rfl, fun t z => nomatch z⟩
  | 2, _, e => by cases e; exact ⟨rfl, fun t z => nomatch z⟩
  | 3, _, e => by cases e; exact ⟨rfl, fun t z => nomatch z⟩
  | 4, _, e => by cases e; exact ⟨rfl, fun t z => nomatch z⟩
  | 5, _, e => by cases e; exact ⟨⟨_, rfl, h5⟩, fun t z => by cases z; exact n5⟩
  | 6, _, e => by cases e; exact ⟨⟨_, rfl, h6⟩, fun t z => by cases z; exact n6⟩
  | 7, _, e => by cases e; exact ⟨⟨_, rfl, h7⟩, fun t z => by cases z; exact n7⟩
  | 8, _, e => by cases e; exact ⟨rfl, fun t z => nomatch z⟩
  | 9, _, e => by cases e; exact ⟨rfl, fun t z => nomatch z⟩
  | 10, _, e => by cases e; exact ⟨rfl, fun t z => nomatch z⟩
  | 11, _, e => by cases e; exact ⟨⟨_, rfl, h11⟩, fun t z => by cases z; exact n11⟩
  | 12, _, e => by cases e; exact ⟨⟨_, rfl, h12⟩, fun t z => by cases z; exact n12⟩
  | 13, _, e => by cases e; exact ⟨⟨_, rfl, h13⟩, fun t z => by cases z; exact n13⟩
  | 14, _, e => by cases e; exact ⟨rfl, fun t z => nomatch z⟩
  | 15, _, e => by cases e; exact ⟨rfl, fun t z => nomatch z⟩
  | 16, _, e => by cases e; exact ⟨rfl, fun t z => nomatch z⟩
  | 17, _, e => by cases e; exact ⟨rfl, fun t z => nomatch z⟩
  | 18, _, e => by cases e; exact ⟨rfl, fun t z => nomatch z⟩
  | 19, _, e => by cases e; exact ⟨rfl, fun t z => nomatch z⟩
  | n + 20, _, e => by cases e
section
variable {P : Program} {w : World} {K : PySem.W.Frag} {mg : Str → Option Value} {base : Heap}
theorem scOdd : FnScope ["pile", "some"] ["pile"] (defScope sOdd) := ⟨rfl, rfl, rfl, by decide +kernel, rfl, by decide +kernel, by decide +kernel⟩
theorem ok_odd {f fT : Addr} {fd fdT : FuncData} (F : Fun K "_law_odd" "_law_odd" sOdd f fd) (GT : FnOk P w K mg base CX0 2 fT fdT ["pile", "many"] spTake) (gT : mg "_law_take" = some (.ref fT)) (kT : PySem.W.keepIn K (.ref fT) = true)
    (bT : Binds K fdT ["pile", "many"] []) : FnOk P w K mg base CX0 3 f fd ["pile"] spOdd := by
  refine F.ok scOdd (fun vs H Q E h => ?_) (fun cdv A outer s H vs Q E hr h => ?_)
  · obtain ⟨p, b, L, rfl, _⟩ := h
    rfl
  · obtain ⟨p, b, L, rfl, hp, hL, q⟩ := h
    refine ⟨_, pss_cons (ps_set (i := 1) scOdd.nd rfl (Or.inl rfl) (pe_lst (pa_cons pe_non (pa_cons pe_bl (pa_cons pe_int (pa_cons pe_str (pa_cons pe_str (pa_cons (pe_tup pa_nil) (pa_cons (pe_lst pa_nil) (pa_cons pe_dnewK (pa_cons pe_str (pa_cons pe_str (pa_cons (pe_un un_neg pe_int)
        (pa_cons (pe_tup (pa_cons pe_str pa_nil)) (pa_cons (pe_lst (pa_cons pe_str pa_nil)) (pa_cons (pe_tup (pa_cons pe_int (pa_cons pe_int pa_nil))) (pa_cons pe_str (pa_cons pe_str pa_nil))))))))))))))))))
      (pss_one (ps_ret (pe_ix ix_list (pe_op op_cat (pv 1) (pe_lst (pa_cons pe_str (pa_cons pe_str (pa_cons pe_str (pa_cons pe_bl pa_nil)))))) (pe_call GT hr rfl gT kT bT .nil pass0 (pa_cons (pv 0) (pa_cons pe_int pa_nil))) (fun _ _ => rfl)))), ?_⟩
    refine ⟨(by show 0 ≤ sizeLine; decide), fun t5 h5 => ⟨(by show 0 ≤ sizeLine; decide), fun t6 h6 => fun t7 h7 => ⟨_, rfl, (by show 1 ≤ sizeLine; decide), fun t11 h11 => ⟨(by show 1 ≤ sizeLine; decide), fun t12 h12 => ⟨(by show 2 ≤ sizeLine; decide), fun t13 h13 => ⟨(by show 16 ≤ sizeLine; decide), fun l hl => ?_⟩⟩⟩⟩⟩⟩
    refine ⟨_, rfl, (by show 4 ≤ sizeLine; decide), fun l2 hl2 => ⟨l, l2, _, _, rfl, rfl, (same_new hl2) _ _ upd_same, upd_same, (by show 20 ≤ sizeLine; decide), fun l3 hl3 => ?_⟩⟩
    have s5 := same_new (o := .tup []) h5
    have s6 := same_new (o := .lst []) h6
    have s7 := same_new (o := .dK []) h7
    have s11 := same_new (o := .tup [.str "a"]) h11
    have s12 := same_new (o := .lst [.str "a"]) h12
    have s13 := same_new (o := .tup [.int 1, .int 2]) h13
    have sl := same_new (o := .lst [.non, .bl true, .int 0, .str "A", .str "", .ref t5, .ref t6, .ref t7, .str "a1", .str "abcdefghi", .int (-1), .ref t11, .ref t12, .ref t13, .str "a b", .str "1"]) hl
    have sl2 := same_new (o := .lst [.str " a", .str "a_", .str "a\n", .bl false]) hl2
    have sl3 := same_new (o := .lst (oddItems t5 t6 t7 t11 t12 t13)) hl3
    have e13 := (sl.trans sl2).trans sl3
    have e12 := s13.trans e13
    have e11 := s12.trans e12
    have e7 := s11.trans e11
    have e6 := s7.trans e7
    have e5 := s6.trans e6
    have e0 := s5.trans e5
    have n6 := (fresh h6).2
    have n7 := (fresh (fresh h7).2).2
    have n11 := (fresh (fresh (fresh h11).2).2).2
    have n12 := (fresh (fresh (fresh (fresh h12).2).2).2).2
    have n13 := (fresh (fresh (fresh (fresh (fresh h13).2).2).2).2).2
    have n3 := (((((((s5.trans s6).trans s7).trans s11).trans s12).trans s13).trans sl).trans sl2).free hl3
    have ne : ∀ t, H t = none → t ≠ p := fun t z => (ne_of_none hp z).symm
    refine ⟨_, rfl, p, _, b, L, rfl, (by decide), (by decide +kernel), e0 _ _ hp, hL, fun r L' H' r0 r1 hL' hb hp' => ?_⟩
    obtain ⟨j, rfl⟩ : ∃ j : Nat, r = (j : Int) := ⟨r.toNat, by omega⟩
    have hj : j < (oddItems t5 t6 t7 t11 t12 t13).length := by
      show j < 20
      omega
    have hz : (oddItems t5 t6 t7 t11 t12 t13)[j]? = some (oddItems t5 t6 t7 t11 t12 t13)[j] := List.getElem?_eq_getElem hj
    have z := odd_of (H := H') h5 n6 n7 n11 n12 n13 (hb _ _ (ne _ h5) (e5 _ _ upd_same)) (hb _ _ (ne _ n6) (e6 _ _ upd_same)) (hb _ _ (ne _ n7) (e7 _ _ upd_same)) (hb _ _ (ne _ n11) (e11 _ _ upd_same)) (hb _ _ (ne _ n12) (e12 _ _ upd_same)) (hb _ _ (ne _ n13) (e13 _ _ upd_same)) j _ hz
    refine ⟨l3, _, _, _, rfl, rfl, SqL.of (hb _ _ (ne _ n3) upd_same), atI_nat hz, ?_⟩
    exact q j _ L' H' z.1 z.2 ((same_but e0).trans hb) hp' hL'
def spAlike (K : PySem.W.Frag) : Sp := fun vs H Q _ => ∃ (x y : V) (d e : PyData), vs = [x, y] ∧ RD K H x d ∧ RD K H y e ∧ Fit d ∧ Fit e ∧ Q (.bl (decide (V.str d.shown = V.str e.shown))) H
theorem scAlike : FnScope ["one", "other"] ["one", "other"] (defScope sAlike) := ⟨rfl, rfl, rfl, by decide +kernel, rfl, by decide +kernel, by decide +kernel⟩
theorem ok_alike {f : Addr} {fd : FuncData} (F : Fun K "_law_alike" "_law_alike" sAlike f fd) (zr : mg "repr" = none) : FnG P w K mg base CX0 1 f fd ["one", "other"] (spAlike K) := by
  refine funG F scAlike (fun vs H Q E h => ?_) (fun cdv A hG outer s H vs Q E hS hr h => ?_)
  · obtain ⟨x, y, d, e, rfl, _⟩ := h
    rfl
  · obtain ⟨x, y, d, e, rfl, hd, he, fd, fe, q⟩ := h
    have g : Gd (cxOf CX0 P w K mg base ["one", "other"] "_law_alike" (defScope sAlike) f cdv A outer s H E) := ⟨hG, hS, rfl⟩
    refine ⟨_, pss_one (ps_ret (pe_cmpR op_eq (pe_callB (call_reprD g hr) (by rfl) zr bt_repr (pa_cons (pv 0) pa_nil)) (pe_callB (call_reprD g hr) (by rfl) zr bt_repr (pa_cons (pv 1) pa_nil)) (nomark _))), ?_⟩
    exact ⟨_, rfl, x, d, rfl, hd, fd.show_, fd.size, Nat.le_trans fd.depth (by decide), _, rfl, y, e, rfl, he, fe.show_, fe.size, Nat.le_trans fe.depth (by decide), rfl, q⟩
end
end Paw

set_option maxRecDepth 100000
set_option maxHeartbeats 4000000
namespace Paw
open PySem PySem.Spec PyProof.Rows L2
theorem sqt_mono {K : PySem.W.Frag} {H H' : Hp} {a : Addr} {xs : List V} (e : Same H H') (h : SqT K H a xs) : SqT K H' a xs := by
  rcases h with (h | ⟨o, h⟩) | h
  · exact Or.inl (Or.inl (e _ _ h))
  · exact Or.inl (Or.inr ⟨o, e _ _ h⟩)
  · exact Or.inr h
mutual
theorem RD.mono {K : PySem.W.Frag} {H H' : Hp} (e : Same H H') : ∀ (d : PyData) (v : V), RD K H v d → RD K H' v d
  | .none, _, h => by cases h; exact .non
  | .bool b, _, h => by cases h; exact .bl b
  | .int i, _, h => by cases h; exact .int i
  | .str x, _, h => by cases h; exact .str x
  | .list ds, _, h => by
    cases h with
    | lst h hs => exact .lst (Same.seq e h) (RDs.mono e ds _ hs)
  | .tuple ds, _, h => by
    cases h with
    | tup h hs => exact .tup (sqt_mono e h) (RDs.mono e ds _ hs)
  | .dict ds, _, h => by
    cases h with
    | dic h hs => exact .dic (e _ _ h) (RDk.mono e ds _ hs)
theorem RDs.mono {K : PySem.W.Frag} {H H' : Hp} (e : Same H H') : ∀ (ds : List PyData) (vs : List V), RDs K H vs ds → RDs K H' vs ds
  | [], _, h => by cases h; exact .nil
  | d :: ds, _, h => by
    cases h with
    | cons h hs => exact .cons (RD.mono e d _ h) (RDs.mono e ds _ hs)
theorem RDk.mono {K : PySem.W.Frag} {H H' : Hp} (e : Same H H') : ∀ (ds : List (PyData × PyData)) (vs : List (Key × V)), RDk K H vs ds → RDk K H' vs ds
  | [], _, h => by cases h; exact .nil
  | (k, d) :: ds, _, h => by
    cases h with
    | cons h hs => exact .cons (RD.mono e d _ h) (RDk.mono e ds _ hs)
end
/-- the data of odd things -/
def oddD : Nat → PyData
  | 0 => .none
  | 1 => .bool true
  | 2 => .int 0
  | 3 => .str "A"
  | 4 => .str ""
  | 5 => .tuple []
  | 6 => .list []
  | 7 => .dict []
  | 8 => .str "a1"
  | 9 => .str "abcdefghi"
  | 10 => .int (-1)
  | 11 => .tuple [.str "a"]
  | 12 => .list [.str "a"]
  | 13 => .tuple [.int 1, .int 2]
  | 14 => .str "a b"
  | 15 => .str "1"
  | 16 => .str " a"
  | 17 => .str "a_"
  | 18 => .str "a\n"
  | _ => .bool false
theorem odd_lt {H : Hp} {v : V} : ∀ {j : Nat}, OddAt H v j → j < 20
  | 0, _ | 1, _ | 2, _ | 3, _ | 4, _ | 5, _ | 6, _ | 7, _ | 8, _ | 9, _ | 10, _ | 11, _ | 12, _ | 13, _ | 14, _ | 15, _ | 16, _ | 17, _ | 18, _ | 19, _ => by decide
  | _ + 20, h => h.elim
theorem odd_rd {K : PySem.W.Frag} {H : Hp} {v : V} : ∀ {j : Nat}, OddAt H v j → RD K H v (oddD j)
  | 0, h | 1, h | 2, h | 3, h | 4, h | 8, h | 9, h | 10, h | 14, h | 15, h | 16, h | 17, h | 18, h | 19, h => by
    cases h
    constructor
  | 5, h => by
    obtain ⟨t, rfl, h⟩ := h
    exact .tup (Or.inl (Or.inl h)) .nil
  | 6, h => by
    obtain ⟨t, rfl, h⟩ := h
    exact .lst (SqL.of h) .nil
  | 7, h => by
    obtain ⟨t, rfl, h⟩ := h
    exact .dic h .nil
  | 11, h => by
    obtain ⟨t, rfl, h⟩ := h
    exact .tup (Or.inl (Or.inl h)) (.cons (.str _) .nil)
  | 12, h => by
    obtain ⟨t, rfl, h⟩ := h
    exact .lst (SqL.of h) (.cons (.str _) .nil)
  | 13, h => by
    obtain ⟨t, rfl, h⟩ := h
    exact .tup (Or.inl (Or.inl h)) (.cons (.int _) (.cons (.int _) .nil))
  | _ + 20, h => h.elim
/-- small data: may stand in lists of data that are shown -/
def tinyD (d : PyData) : Bool := plainD d && d.showable && decide (siz d ≤ 200) && decide (d.depth ≤ 5)
theorem odd_small : ∀ j < 20, tinyD (oddD j) = true := by decide +kernel
/-- an odd thing stands in a part of the heap -/
theorem odd_part {G H : Hp} {v : V} {j : Nat} (h : OddAt H v j) (g : ∀ t o, v = .ref t → H t = some o → G t = some o) : OddAt G v j := by
  match j, h with
  | 0, h | 1, h | 2, h | 3, h | 4, h | 8, h | 9, h | 10, h | 14, h | 15, h | 16, h | 17, h | 18, h | 19, h => exact h
  | 5, ⟨t, e, h⟩ | 6, ⟨t, e, h⟩ | 7, ⟨t, e, h⟩ | 11, ⟨t, e, h⟩ | 12, ⟨t, e, h⟩ | 13, ⟨t, e, h⟩ => exact ⟨t, e, g _ _ e h⟩
  | _ + 20, h => exact h.elim
end Paw

set_option maxRecDepth 100000
set_option maxHeartbeats 4000000
namespace Paw
open PySem PySem.Spec PyProof.Rows L2
abbrev sIsInt : Stmt := top 5
abbrev sIsFrac : Stmt := top 6
abbrev sFraction : Stmt := top 8
abbrev sTotal : Stmt := top 9
abbrev sProduct : Stmt := top 10
abbrev sCheck : Stmt := top 11
abbrev sLowest : Stmt := top 12

theorem it_t {c : Bool} {A B : Prop} (hc : c = true) (h : A) : if c = true then A else B := by
  rw [if_pos hc]
  exact h
theorem it_f {c : Bool} {A B : Prop} (hc : c = false) (h : B) : if c = true then A else B := by
  rw [hc, if_neg Bool.false_ne_true]
  exact h
/-! ### arithmetic of fractions -/
def gz (t b : Int) : Int := ((Nat.gcd t.natAbs b.natAbs : Nat) : Int)
def sg (t b : Int) : Int := if decide (b < 0) then -(gz t b) else gz t b
def low (t b : Int) : Int × Int := (t.fdiv (sg t b), b.fdiv (sg t b))
theorem gz_pos {t b : Int} (h : b ≠ 0) : 0 < gz t b := by
  unfold gz
  have := Nat.gcd_pos_of_pos_right t.natAbs (Int.natAbs_pos.mpr h)
  omega
theorem sg_ne {t b : Int} (h : b ≠ 0) : sg t b ≠ 0 := by
  have := gz_pos (t := t) h
  unfold sg
  split <;> omega
theorem sg_abs {t b : Int} : (sg t b).natAbs = Nat.gcd t.natAbs b.natAbs := by
  unfold sg gz
  split <;> omega
theorem sg_dvd_t {t b : Int} : sg t b ∣ t := by
  rw [← Int.natAbs_dvd_natAbs, sg_abs]
  exact Nat.gcd_dvd_left _ _
theorem sg_dvd_b {t b : Int} : sg t b ∣ b := by
  rw [← Int.natAbs_dvd_natAbs, sg_abs]
  exact Nat.gcd_dvd_right _ _
theorem sg_le {t b : Int} (h : b ≠ 0) : (sg t b).natAbs ≤ b.natAbs := by
  rw [sg_abs]
  exact Nat.gcd_le_right _ (Int.natAbs_pos.mpr h)
theorem fdiv_abs {a g : Int} (h : g ∣ a) : (a.fdiv g).natAbs ≤ a.natAbs := by
  by_cases hg : g = 0
  · subst hg
    simp
  · have e : a.fdiv g * g = a := Int.fdiv_mul_cancel h
    have e2 : (a.fdiv g).natAbs * g.natAbs = a.natAbs := by rw [← Int.natAbs_mul, e]
    have e3 : 1 ≤ g.natAbs := Int.natAbs_pos.mpr hg
    calc (a.fdiv g).natAbs = (a.fdiv g).natAbs * 1 := (Nat.mul_one _).symm
      _ ≤ (a.fdiv g).natAbs * g.natAbs := Nat.mul_le_mul_left _ e3
      _ = a.natAbs := e2
theorem low_ne {t b : Int} (h : b ≠ 0) : (low t b).2 ≠ 0 := by
  intro z
  have e : b.fdiv (sg t b) * sg t b = b := Int.fdiv_mul_cancel sg_dvd_b
  have z' : b.fdiv (sg t b) = 0 := z
  rw [z', Int.zero_mul] at e
  exact h e.symm
theorem low_abs1 {t b : Int} : (low t b).1.natAbs ≤ t.natAbs := fdiv_abs sg_dvd_t
theorem low_abs2 {t b : Int} : (low t b).2.natAbs ≤ b.natAbs := fdiv_abs sg_dvd_b
/-! ### what data is a fraction -/
def fr2 : PyData → PyData → Bool
  | .int t, .int b => decide (1 ≤ b) && decide (gz t b = 1)
  | _, _ => false
def isF : PyData → Bool
  | .tuple [a, b] => fr2 a b
  | _ => false
def okB : PyData → Bool
  | .int b => !decide (b = 0)
  | _ => false
/-- the first one that is no fraction -/
def firstBad : List V → List PyData → Option V
  | v :: vs, d :: ds => if isF d then firstBad vs ds else some v
  | _, _ => none
def szD : PyData → Prop
  | .tuple [.int t, .int b] => t.natAbs < 2 ^ 1100 ∧ b.natAbs < 2 ^ 1100
  | _ => True
def stepT (t b m c : Int) : Int × Int := low (t * c + m * b) (b * c)
def stepP (t b m c : Int) : Int × Int := low (t * m) (b * c)
def foldS (f : Int → Int → Int → Int → Int × Int) : List PyData → Int → Int → Int × Int
  | .tuple [.int m, .int c] :: ds, t, b => foldS f ds (f t b m c).1 (f t b m c).2
  | _, t, b => (t, b)

/-! ### the program's defs: their promises -/
def spIsInt (K : PySem.W.Frag) : Sp := fun vs H Q _ => ∃ (x : V) (d : PyData), vs = [x] ∧ RD K H x d ∧ Q (.bl (isI d)) H
def spIsFrac (K : PySem.W.Frag) : Sp := fun vs H Q _ => ∃ (x : V) (d : PyData), vs = [x] ∧ RD K H x d ∧ Q (.bl (isF d)) H
def spLowest : Sp := fun vs H Q _ => ∃ t b : Int, vs = [.int t, .int b] ∧ b ≠ 0 ∧ b.natAbs < 2 ^ 8000 ∧ ∀ p, H p = none → Q (.ref p) (upd H p (.tup [.int (low t b).1, .int (low t b).2]))
def spFraction (K : PySem.W.Frag) (C : Addr) : Sp := fun vs H Q E => ∃ (x y : V) (dx dy : PyData), vs = [x, y] ∧ RD K H x dx ∧ RD K H y dy ∧ (isI dx = false → Thrown "value" C x H E) ∧ (isI dx = true → okB dy = false → Thrown "value" C y H E) ∧
  ∀ t b : Int, dx = .int t → dy = .int b → b ≠ 0 → b.natAbs < 2 ^ 8000 ∧ ∀ p, H p = none → Q (.ref p) (upd H p (.tup [.int (low t b).1, .int (low t b).2]))
def spCheck (K : PySem.W.Frag) (C : Addr) : Sp := fun vs H Q E => ∃ (p : Addr) (xs : List V) (ds : List PyData), vs = [.ref p] ∧ SqT K H p xs ∧ RDs K H xs ds ∧ (∀ v, firstBad xs ds = some v → Thrown "value" C v H E) ∧ (firstBad xs ds = none → Q .non H)
theorem RDs.length {K : PySem.W.Frag} {H : Hp} : ∀ {xs : List V} {ds : List PyData}, RDs K H xs ds → xs.length = ds.length
  | [], _, h => by
    cases h
    rfl
  | x :: xs, _, h => by
    cases h with
    | cons h1 h2 => rw [List.length_cons, List.length_cons, RDs.length h2]
theorem RDs.at_ {K : PySem.W.Frag} {H : Hp} : ∀ {xs : List V} {ds : List PyData} {i : Nat} {x : V}, RDs K H xs ds → xs[i]? = some x → ∃ d, ds[i]? = some d ∧ RD K H x d
  | [], _, i, x, h, e => by
    cases i <;> cases e
  | y :: xs, _, i, x, h, e => by
    cases h with
    | @cons _ _ d ds h1 h2 =>
      cases i with
      | zero =>
        cases e
        exact ⟨d, rfl, h1⟩
      | succ i => exact RDs.at_ (i := i) h2 e
section
variable {P : Program} {w : World} {K : PySem.W.Frag} {mg : Str → Option Value} {base : Heap}
theorem scIsInt : FnScope ["value"] ["value"] (defScope sIsInt) := ⟨rfl, rfl, rfl, by decide +kernel, rfl, by decide +kernel, by decide +kernel⟩
theorem ok_is_int {f : Addr} {fd : FuncData} (F : Fun K "is_int" "is_int" sIsInt f fd) (zs : mg "isinstance" = none) (zi : mg "int" = none) (zb : mg "bool" = none) : FnOk P w K mg base CX0 1 f fd ["value"] (spIsInt K) := by
  refine F.ok scIsInt (fun vs H Q E h => ?_) (fun cdv A outer s H vs Q E hr h => ?_)
  · obtain ⟨x, d, rfl, _⟩ := h
    rfl
  · obtain ⟨x, d, rfl, hd, q⟩ := h
    refine ⟨_, pss_one (ps_ret (pe_and (pe_callB call_isi (by rfl) zs bt_isinstance (pa_cons (pv 0) (pa_cons (pe_bltn (v := .ty "int") (by rfl) zi bt_int rfl) pa_nil)))
      (pe_one (pe_not (pe_callB call_isi (by rfl) zs bt_isinstance (pa_cons (pv 0) (pa_cons (pe_bltn (v := .ty "bool") (by rfl) zb bt_bool rfl) pa_nil))))))), ?_⟩
    refine ⟨_, rfl, x, .ty "int", _, _, _, rfl, .ty _, hd.ty, kit_int d, _, rfl, ?_⟩
    refine ite2 (fun h => ⟨_, rfl, x, .ty "bool", _, _, _, rfl, .ty _, hd.ty, kit_bool d, _, rfl, ?_⟩) (fun h => ?_)
    · have e : (!isB d) = isI d := by cases d <;> first | rfl | cases h
      rw [e]
      exact q
    · have e : false = isI d := by cases d <;> first | rfl | exact absurd rfl h
      rw [e]
      exact q
theorem scIsFrac : FnScope ["value", "top", "bottom"] ["value"] (defScope sIsFrac) := ⟨rfl, rfl, rfl, by decide +kernel, rfl, by decide +kernel, by decide +kernel⟩
theorem ok_is_fraction {f fI : Addr} {fd fdI : FuncData} (F : Fun K "is_fraction" "is_fraction" sIsFrac f fd) (zs : mg "isinstance" = none) (zt : mg "tuple" = none) (zl : mg "len" = none) (gg : mg "gcd" = some (.builtin "math.gcd"))
    (GI : FnOk P w K mg base CX0 1 fI fdI ["value"] (spIsInt K)) (gI : mg "is_int" = some (.ref fI)) (kI : PySem.W.keepIn K (.ref fI) = true) (bI : Binds K fdI ["value"] []) : FnOk P w K mg base CX0 2 f fd ["value"] (spIsFrac K) := by
  refine F.ok scIsFrac (fun vs H Q E h => ?_) (fun cdv A outer s H vs Q E hr h => ?_)
  · obtain ⟨x, d, rfl, _⟩ := h
    rfl
  · obtain ⟨x, d, rfl, hd, q⟩ := h
    refine ⟨_, pss_cons (ps_if (PW.pt (pw_or (pt_not (pt_val (pe_callB call_isi (by rfl) zs bt_isinstance (pa_cons (pv 0) (pa_cons (pe_bltn (v := .ty "tuple") (by rfl) zt bt_tuple rfl) pa_nil)))))
        (pw_or1 (pt_cmpR op_ne (pe_callB call_len_seq (by rfl) zl bt_len (pa_cons (pv 0) pa_nil)) pe_int (nomark _))))) (pss_one (ps_ret pe_bl)) pss_nil)
      (pss_cons (ps_asg (pv 0) (pg_tup rfl (pgs_cons (pg_name (i := 1) scIsFrac.nd rfl (Or.inl rfl)) (pgs_cons (pg_name (i := 2) scIsFrac.nd rfl (Or.inl rfl)) pgs_nil))))
      (pss_one (ps_ret (pe_and (pe_call GI hr rfl gI kI bI .nil pass0 (pa_cons (pv 1) pa_nil)) (pe_and (pe_call GI hr rfl gI kI bI .nil pass0 (pa_cons (pv 2) pa_nil))
        (pe_and (pe_cmpR op_ge (pv 2) pe_int (nomark _)) (pe_one (pe_cmpR op_eq (pe_callBfun cr_gcd rfl gg (pa_cons (pv 1) (pa_cons (pv 2) pa_nil))) pe_int (nomark _))))))))), ?_⟩
    refine ⟨_, rfl, x, .ty "tuple", _, _, _, rfl, .ty _, hd.ty, kit_tuple d, _, rfl, ?_⟩
    by_cases ht : isT d = true
    · obtain ⟨ds, rfl⟩ : ∃ ds, d = .tuple ds := by
        cases d with
        | tuple ds => exact ⟨ds, rfl⟩
        | _ => cases ht
      obtain ⟨a, xs, rfl, hx, hds⟩ : ∃ a xs, x = .ref a ∧ SqT K H a xs ∧ RDs K H xs ds := by
        cases hd with
        | tup h hs => exact ⟨_, _, rfl, h, hs⟩
      by_cases h2 : ∃ da db, ds = [da, db]
      · obtain ⟨da, db, rfl⟩ := h2
        cases hds with
        | @cons va _ _ _ ha hds =>
          cases hds with
          | @cons vb _ _ _ hb hds =>
            cases hds
            refine ⟨_, rfl, a, _, rfl, .inr hx, rfl, _, rfl, ?_⟩
            refine it_f (by show (!decide (V.int ((2 : Nat) : Int) = V.int 2)) = false; decide +kernel) ?_
            refine ⟨_, rfl, a, _, rfl, hx, rfl, va, _, rfl, vb, _, rfl, rfl, ?_⟩
            refine ⟨_, rfl, va, da, rfl, ha, _, rfl, ?_⟩
            refine ite2 (fun hI => ?_) (fun hI => ?_)
            · refine ⟨_, rfl, vb, db, rfl, hb, _, rfl, ?_⟩
              refine ite2 (fun hJ => ?_) (fun hJ => ?_)
              · obtain ⟨t, rfl⟩ : ∃ t, da = .int t := by
                  cases da with
                  | int t => exact ⟨t, rfl⟩
                  | _ => cases hI
                obtain ⟨n, rfl⟩ : ∃ t, db = .int t := by
                  cases db with
                  | int t => exact ⟨t, rfl⟩
                  | _ => cases hJ
                cases ha
                cases hb
                have e : isF (.tuple [.int t, .int n]) = (decide (1 ≤ n) && decide (gz t n = 1)) := rfl
                rw [e] at q
                refine ⟨_, rfl, _, _, rfl, rfl, _, rfl, ?_⟩
                refine ite2 (fun hg => ?_) (fun hg => ?_)
                · refine ⟨_, rfl, _, rfl, _, _, rfl, rfl, ?_⟩
                  rw [hg, Bool.true_and] at q
                  have e2 : decide (V.int ((Nat.gcd t.natAbs n.natAbs : Nat) : Int) = V.int 1) = decide (gz t n = 1) := by
                    apply decide_eq_decide.mpr
                    unfold gz
                    exact ⟨fun z => by injection z, fun z => by rw [z]⟩
                  rw [e2]
                  exact q
                · rw [show decide (1 ≤ n) = false from Bool.eq_false_iff.mpr hg, Bool.false_and] at q
                  exact q
              · have e : isF (.tuple [da, db]) = false := by
                  cases db <;> first | exact absurd rfl hJ | (cases da <;> rfl)
                rw [e] at q
                exact q
            · have e : isF (.tuple [da, db]) = false := by
                cases da <;> first | exact absurd rfl hI | rfl
              rw [e] at q
              exact q
      · have hlen := hds.length
        have e : isF (.tuple ds) = false := by
          match ds, h2 with
          | [], _ => rfl
          | [_], _ => rfl
          | [da, db], h2 => exact absurd ⟨da, db, rfl⟩ h2
          | _ :: _ :: _ :: _, _ => rfl
        have n2 : xs.length ≠ 2 := by
          rw [hlen]
          intro z
          match ds, h2, z with
          | [da, db], h2, _ => exact h2 ⟨da, db, rfl⟩
        rw [e] at q
        refine ⟨_, rfl, a, _, rfl, .inr hx, rfl, _, rfl, ?_⟩
        refine it_t ?_ q
        have z : ¬ (V.int ((xs.length : Nat) : Int) = V.int 2) := fun z => n2 (by injection z with z; omega)
        simp [z]
    · have e : isF d = false := by cases d <;> first | exact absurd rfl ht | rfl
      have e2 : isT d = false := Bool.eq_false_iff.mpr ht
      rw [e] at q
      rw [e2]
      exact q
theorem scLowest : FnScope ["top", "bottom", "divisor"] ["top", "bottom"] (defScope sLowest) := ⟨rfl, rfl, rfl, by decide +kernel, rfl, by decide +kernel, by decide +kernel⟩
theorem ok_lowest {f : Addr} {fd : FuncData} (F : Fun K "_lowest" "_lowest" sLowest f fd) (gg : mg "gcd" = some (.builtin "math.gcd")) : FnOk P w K mg base CX0 1 f fd ["top", "bottom"] spLowest := by
  refine F.ok scLowest (fun vs H Q E h => ?_) (fun cdv A outer s H vs Q E hr h => ?_)
  · obtain ⟨t, b, rfl, _⟩ := h
    rfl
  · obtain ⟨t, b, rfl, b0, bs, q⟩ := h
    refine ⟨_, pss_cons (ps_set (i := 2) scLowest.nd rfl (Or.inl rfl) (pe_callBfun cr_gcd rfl gg (pa_cons (pv 0) (pa_cons (pv 1) pa_nil))))
      (pss_cons (ps_if (pt_cmpR op_lt (pv 1) pe_int (nomark _)) (pss_one (ps_set (i := 2) scLowest.nd rfl (Or.inl rfl) (pe_un un_neg (pv 2)))) pss_nil)
      (pss_one (ps_ret (pe_tup (pa_cons (pe_op op_fdivZ (pv 0) (pv 2)) (pa_cons (pe_op op_fdivZ (pv 1) (pv 2)) pa_nil)))))), ?_⟩
    refine ⟨_, rfl, _, rfl, _, _, rfl, _, rfl, _, _, rfl, rfl, _, rfl, ?_⟩
    have hs := sg_ne (t := t) b0
    have hz : CDivZ t (sg t b) ∧ CDivZ b (sg t b) := by
      have := sg_le (t := t) b0
      exact ⟨div_any hs (b := 8000) (by omega) (by decide) (by decide), div_any hs (b := 8000) (by omega) (by decide) (by decide)⟩
    refine ite2 (fun h => ?_) (fun h => ?_)
    · have e : sg t b = -(gz t b) := if_pos h
      have d1 := hz.1
      have d2 := hz.2
      unfold low at q
      rw [e] at d1 d2 q
      exact ⟨_, rfl, _, rfl, _, rfl, _, rfl, _, _, rfl, rfl, d1, _, rfl, _, rfl, _, _, rfl, rfl, d2, (by show 2 ≤ sizeLine; decide), q⟩
    · have e : sg t b = gz t b := if_neg h
      have d1 := hz.1
      have d2 := hz.2
      unfold low at q
      rw [e] at d1 d2 q
      exact ⟨_, rfl, _, rfl, _, _, rfl, rfl, d1, _, rfl, _, rfl, _, _, rfl, rfl, d2, (by show 2 ≤ sizeLine; decide), q⟩
end
end Paw

set_option maxRecDepth 100000
set_option maxHeartbeats 4000000
namespace Paw
open PySem PySem.Spec PyProof.Rows L2
theorem one_le {x : V} : [x].length ≤ 1000 := by
  show 1 ≤ 1000
  decide
theorem firstBad_drop : ∀ (i : Nat) (xs : List V) (ds : List PyData), (∀ j d, j < i → ds[j]? = some d → isF d = true) → xs.length = ds.length → firstBad xs ds = firstBad (xs.drop i) (ds.drop i)
  | 0, _, _, _, _ => rfl
  | i + 1, [], [], _, _ => rfl
  | i + 1, x :: xs, d :: ds, h, hl => by
    have e : firstBad (x :: xs) (d :: ds) = firstBad xs ds := if_pos (h 0 d (Nat.succ_pos _) rfl)
    rw [e, List.drop_succ_cons, List.drop_succ_cons]
    exact firstBad_drop i xs ds (fun j d hj hd => h (j + 1) d (Nat.succ_lt_succ hj) hd) (Nat.succ.inj hl)
theorem firstBad_at {xs : List V} {ds : List PyData} {i : Nat} {x : V} {d : PyData} (h : ∀ (j : Nat) (d : PyData), j < i → ds[j]? = some d → isF d = true) (hl : xs.length = ds.length) (hx : xs[i]? = some x) (hd : ds[i]? = some d) (hb : isF d = false) : firstBad xs ds = some x := by
  rw [firstBad_drop i xs ds h hl, List.drop_eq_getElem_cons (List.getElem?_eq_some_iff.mp hx).1, List.drop_eq_getElem_cons (List.getElem?_eq_some_iff.mp hd).1]
  rw [List.getElem?_eq_some_iff] at hx hd
  obtain ⟨_, ex⟩ := hx
  obtain ⟨_, ed⟩ := hd
  rw [ex, ed]
  exact (if_neg (by rw [hb]; exact Bool.false_ne_true))
theorem firstBad_none {xs : List V} {ds : List PyData} (h : ∀ (j : Nat) (d : PyData), ds[j]? = some d → isF d = true) (hl : xs.length = ds.length) : firstBad xs ds = none := by
  rw [firstBad_drop ds.length xs ds (fun j d _ e => h j d e) hl, List.drop_eq_nil_of_le (Nat.le_of_eq hl), List.drop_eq_nil_of_le (Nat.le_refl _)]
  rfl
theorem firstBad_all : ∀ {xs : List V} {ds : List PyData}, xs.length = ds.length → firstBad xs ds = none → ∀ d ∈ ds, isF d = true
  | [], [], _, _ => fun _ z => nomatch z
  | x :: xs, d :: ds, hl, h => by
    have e : firstBad (x :: xs) (d :: ds) = if isF d then firstBad xs ds else some x := rfl
    rw [e] at h
    cases hd : isF d with
    | false =>
      rw [hd] at h
      cases h
    | true =>
      rw [hd, if_pos rfl] at h
      intro y hy
      rcases List.mem_cons.mp hy with rfl | hy
      · exact hd
      · exact firstBad_all (Nat.succ.inj hl) h y hy
theorem isF_shape {d : PyData} (h : isF d = true) : ∃ t b : Int, d = .tuple [.int t, .int b] ∧ 1 ≤ b ∧ gz t b = 1 := by
  cases d with
  | tuple ds =>
    match ds, h with
    | [], h => cases h
    | [_], h => cases h
    | _ :: _ :: _ :: _, h => cases h
    | [a, b], h =>
      cases a with
      | int t =>
        cases b with
        | int b =>
          have z : (decide (1 ≤ b) && decide (gz t b = 1)) = true := h
          rw [Bool.and_eq_true] at z
          exact ⟨t, b, rfl, of_decide_eq_true z.1, of_decide_eq_true z.2⟩
        | _ => cases h
      | _ => cases h
  | _ => cases h
section
variable {P : Program} {w : World} {K : PySem.W.Frag} {mg : Str → Option Value} {base : Heap}
theorem scFraction : FnScope ["top", "bottom"] ["top", "bottom"] (defScope sFraction) := ⟨rfl, rfl, rfl, by decide +kernel, rfl, by decide +kernel, by decide +kernel⟩
theorem ok_fraction {C f fI fL : Addr} {fd fdI fdL : FuncData} (F : FunD K "fraction" "fraction" (defArgs sFraction) (defBody sFraction) (defScope sFraction) [.int 1] [] f fd) (T : Kv P w K mg base "NoFraction" "value" C)
    (GI : FnOk P w K mg base CX0 1 fI fdI ["value"] (spIsInt K)) (gI : mg "is_int" = some (.ref fI)) (kI : PySem.W.keepIn K (.ref fI) = true) (bI : Binds K fdI ["value"] [])
    (GL : FnOk P w K mg base CX0 1 fL fdL ["top", "bottom"] spLowest) (gL : mg "_lowest" = some (.ref fL)) (kL : PySem.W.keepIn K (.ref fL) = true) (bL : Binds K fdL ["top", "bottom"] []) : FnOk P w K mg base (L2.CX P w) 3 f fd ["top", "bottom"] (spFraction K C) := by
  refine F.ok scFraction (fun vs H Q E h => ?_) (fun cdv A outer s H vs Q E hr h => ?_)
  · obtain ⟨x, y, dx, dy, rfl, _⟩ := h
    rfl
  · obtain ⟨x, y, dx, dy, rfl, hx, hy, bx, by_, q⟩ := h
    have hr1 := hr.mono (show 1 ≤ 2 by decide)
    refine ⟨_, pss_cons (ps_if (pt_not (pt_val (pe_call GI hr1 rfl gI kI bI .nil pass0 (pa_cons (pv 0) pa_nil)))) (pss_one (ps_throw T hr rfl (takes_of rfl rfl rfl rfl) rfl (pv 0))) pss_nil)
      (pss_cons (ps_if (PW.pt (pw_or (pt_not (pt_val (pe_call GI hr1 rfl gI kI bI .nil pass0 (pa_cons (pv 1) pa_nil)))) (pw_or1 (pt_cmpR op_eq (pv 1) pe_int (nomark _))))) (pss_one (ps_throw T hr rfl (takes_of rfl rfl rfl rfl) rfl (pv 1))) pss_nil)
      (pss_one (ps_ret (pe_call GL hr1 rfl gL kL bL .nil pass0 (pa_cons (pv 0) (pa_cons (pv 1) pa_nil)))))), ?_⟩
    refine ⟨_, rfl, x, dx, rfl, hx, _, rfl, ?_⟩
    cases hI : isI dx with
    | false => exact ⟨_, rfl, one_le, thrown_mk T.v.oex T.no (bx hI)⟩
    | true =>
      refine ⟨_, rfl, y, dy, rfl, hy, _, rfl, ?_⟩
      cases hJ : isI dy with
      | false => exact ⟨_, rfl, one_le, thrown_mk T.v.oex T.no (by_ hI (by cases dy <;> first | rfl | cases hJ))⟩
      | true =>
        obtain ⟨t, rfl⟩ : ∃ t, dx = .int t := by
          cases dx with
          | int t => exact ⟨t, rfl⟩
          | _ => cases hI
        obtain ⟨b, rfl⟩ : ∃ t, dy = .int t := by
          cases dy with
          | int t => exact ⟨t, rfl⟩
          | _ => cases hJ
        cases hx
        cases hy
        refine ⟨_, rfl, rfl, _, rfl, ?_⟩
        by_cases hb : b = 0
        · refine it_t (by rw [hb]; decide) ?_
          exact ⟨_, rfl, one_le, thrown_mk T.v.oex T.no (by_ rfl (by rw [hb]; rfl))⟩
        · refine it_f (decide_eq_false fun z => hb (by injection z)) ?_
          obtain ⟨q1, q2⟩ := q t b rfl rfl hb
          exact ⟨_, rfl, _, rfl, t, b, rfl, hb, q1, q2⟩
theorem scCheck : FnScope ["values", "value"] ["values"] (defScope sCheck) := ⟨rfl, rfl, rfl, by decide +kernel, rfl, by decide +kernel, by decide +kernel⟩
theorem ok_check {C f fI : Addr} {fd fdI : FuncData} (F : Fun K "_check_fractions" "_check_fractions" sCheck f fd) (T : Kv P w K mg base "NoFraction" "value" C)
    (GI : FnOk P w K mg base CX0 2 fI fdI ["value"] (spIsFrac K)) (gI : mg "is_fraction" = some (.ref fI)) (kI : PySem.W.keepIn K (.ref fI) = true) (bI : Binds K fdI ["value"] []) : FnOk P w K mg base (L2.CX P w) 3 f fd ["values"] (spCheck K C) := by
  refine F.okX scCheck (fun vs H Q E h => ?_) (fun cdv A outer s H vs Q E hr h => ?_)
  · obtain ⟨p, xs, ds, rfl, _⟩ := h
    rfl
  · obtain ⟨p, xs, ds, rfl, hS, hds, bad, q⟩ := h
    refine ⟨_, pss_one (ps_for (passes_of rfl) rfl (pi_tup (pv 0)) (pg_name (i := 1) scCheck.nd rfl (Or.inl rfl)) (pss_one (ps_if (pt_not (pt_val (pe_call GI hr rfl gI kI bI .nil pass0 (pa_cons (pv 1) pa_nil)))) (pss_one (ps_throw T hr rfl (takes_of rfl rfl rfl rfl) rfl (pv 1))) pss_nil))), ?_⟩
    have hl := hds.length
    refine ⟨_, rfl, p, rfl, ⟨xs, hS⟩, for_tup (xs := xs) (fun i σ H' => H' = H ∧ (∃ v1 : Option V, σ = [some (.ref p), v1]) ∧ ∀ j d, j < i → ds[j]? = some d → isF d = true) ⟨rfl, ⟨none, rfl⟩, fun _ _ z => absurd z (Nat.not_lt_zero _)⟩ (fun i σ H' _ hP => by rw [hP.1]; exact hS) ?_ ?_⟩
    · rintro i x σ H' hx ⟨rfl, ⟨v1, rfl⟩, ok⟩
      obtain ⟨d, hd, rd⟩ := hds.at_ hx
      refine ⟨_, rfl, x, d, rfl, rd, _, rfl, ?_⟩
      cases hF : isF d with
      | false => exact ⟨_, rfl, one_le, thrown_mk T.v.oex T.no (bad x (firstBad_at ok hl hx hd hF))⟩
      | true =>
        refine ⟨rfl, ⟨some x, rfl⟩, fun j e hj he => ?_⟩
        by_cases z : j = i
        · rw [z, hd] at he
          cases he
          exact hF
        · exact ok j e (by omega) he
    · rintro σ H' ⟨rfl, _, ok⟩
      refine q (firstBad_none (fun j d e => ok j d ?_ e) hl)
      rw [hl]
      exact (List.getElem?_eq_some_iff.mp e).1
end
end Paw

set_option maxRecDepth 100000
set_option maxHeartbeats 4000000
namespace Paw
open PySem PySem.Spec PyProof.Rows L2
/-- total, product, from a promise of one step -/
def spSum (K : PySem.W.Frag) (C : Addr) (step : Int → Int → Int → Int → Int × Int) (t0 : Int) : Sp := fun vs H Q E => ∃ ds : List PyData, RDs K H vs ds ∧ vs.length ≤ 4 ∧ (∀ d ∈ ds, szD d) ∧ (∀ v, firstBad vs ds = some v → Thrown "value" C v H E) ∧
  (firstBad vs ds = none → ∀ (q : Addr) (H' : Hp), Same H H' → H q = none → H' q = some (.tup [.int (foldS step ds t0 1).1, .int (foldS step ds t0 1).2]) → Q (.ref q) H')
def spSumIn (K : PySem.W.Frag) (C : Addr) (step : Int → Int → Int → Int → Int × Int) (t0 : Int) : Sp := fun vs H Q E => ∃ (p : Addr) (xs : List V) (ds : List PyData), vs = [.ref p] ∧ H p = some (.tup xs) ∧ RDs K H xs ds ∧ xs.length ≤ 4 ∧ (∀ d ∈ ds, szD d) ∧ (∀ v, firstBad xs ds = some v → Thrown "value" C v H E) ∧
  (firstBad xs ds = none → ∀ (q : Addr) (H' : Hp), Same H H' → H q = none → H' q = some (.tup [.int (foldS step ds t0 1).1, .int (foldS step ds t0 1).2]) → Q (.ref q) H')
def SzN (i : Nat) (t : Int) : Prop := t.natAbs < 2 ^ (1101 * i + 1)
theorem szn_mul {i : Nat} {t m : Int} (h : SzN i t) (g : m.natAbs < 2 ^ 1100) : (t * m).natAbs < 2 ^ (1101 * i + 1101) := by
  have := wide_lt h g
  exact this
theorem szn_step {i : Nat} {a b : Int} (h : a.natAbs < 2 ^ (1101 * i + 1101)) (g : b.natAbs < 2 ^ (1101 * i + 1101)) : SzN (i + 1) (a + b) := by
  have e : (2 : Nat) ^ (1101 * (i + 1) + 1) = 2 ^ (1101 * i + 1101) * 2 := by
    rw [show 1101 * (i + 1) + 1 = 1101 * i + 1101 + 1 by omega, Nat.pow_succ]
  have := Int.natAbs_add_le a b
  unfold SzN
  rw [e]
  omega
theorem szn_up {i : Nat} {a : Int} (h : a.natAbs < 2 ^ (1101 * i + 1101)) : SzN (i + 1) a := by
  have e : (2 : Nat) ^ (1101 * (i + 1) + 1) = 2 ^ (1101 * i + 1101) * 2 := by
    rw [show 1101 * (i + 1) + 1 = 1101 * i + 1101 + 1 by omega, Nat.pow_succ]
  unfold SzN
  rw [e]
  omega
theorem szn_le {i j : Nat} {a : Int} (h : SzN i a) (hj : 1101 * i + 1 ≤ j) : a.natAbs < 2 ^ j := Nat.lt_of_lt_of_le h (Nat.pow_le_pow_right (by decide) hj)
theorem szn_low {i : Nat} {t b : Int} (h : SzN i t) (g : SzN i b) : SzN i (low t b).1 ∧ SzN i (low t b).2 := ⟨Nat.lt_of_le_of_lt low_abs1 h, Nat.lt_of_le_of_lt low_abs2 g⟩
section
variable {P : Program} {w : World} {K : PySem.W.Frag} {mg : Str → Option Value} {base : Heap}
theorem scTotal : FnScope ["fractions", "top", "bottom", "more", "below"] ["fractions"] (defScope sTotal) := ⟨rfl, rfl, rfl, by decide +kernel, rfl, by decide +kernel, by decide +kernel⟩
theorem scProduct : FnScope ["fractions", "top", "bottom", "times", "below"] ["fractions"] (defScope sProduct) := ⟨rfl, rfl, rfl, by decide +kernel, rfl, by decide +kernel, by decide +kernel⟩
/-- one fraction of those that are summed up -/
theorem frac_at {H H' : Hp} {xs : List V} {ds : List PyData} {i : Nat} {x : V} (hds : RDs K H xs ds) (s : Same H H') (hb : firstBad xs ds = none) (sm : ∀ d ∈ ds, szD d) (hx : xs[i]? = some x) :
    ∃ (a : Addr) (m c : Int), x = .ref a ∧ SqT K H' a [.int m, .int c] ∧ 1 ≤ c ∧ m.natAbs < 2 ^ 1100 ∧ c.natAbs < 2 ^ 1100 ∧ ds.drop i = .tuple [.int m, .int c] :: ds.drop (i + 1) := by
  obtain ⟨d, hd, rd⟩ := hds.at_ hx
  have hm : d ∈ ds := List.mem_of_getElem? hd
  obtain ⟨m, c, rfl, c1, _⟩ := isF_shape (firstBad_all hds.length hb d hm)
  cases rd with
  | @tup a ys _ h hs =>
    have e : ys = [.int m, .int c] := by
      cases hs with
      | cons h1 hs =>
        cases hs with
        | cons h2 hs =>
          cases hs
          cases h1
          cases h2
          rfl
    subst e
    have z := sm _ hm
    refine ⟨a, m, c, rfl, sqt_mono s h, c1, z.1, z.2, ?_⟩
    obtain ⟨hi, e⟩ := List.getElem?_eq_some_iff.mp hd
    rw [List.drop_eq_getElem_cons hi, e]
theorem ok_totalIn {C f fC fL : Addr} {fdC fdL : FuncData} {cdv : Value} {k : Nat}
    (GC : FnOk P w K mg base (L2.CX P w) 3 fC fdC ["values"] (spCheck K C)) (gC : mg "_check_fractions" = some (.ref fC)) (kC : PySem.W.keepIn K (.ref fC) = true) (bC : Binds K fdC ["values"] [])
    (GL : FnOk P w K mg base CX0 1 fL fdL ["top", "bottom"] spLowest) (gL : mg "_lowest" = some (.ref fL)) (kL : PySem.W.keepIn K (.ref fL) = true) (bL : Binds K fdL ["top", "bottom"] []) :
    ∀ (A : Around) (outer : List Env) (s : Shared) (H : Hp) (vs : List V) (Q : VK) (E : XK), Room 3 (A.deeper (envOfC "total" (defScope sTotal) s.heap.objs.size f cdv)) → spSumIn K C stepT 0 vs H Q E →
      ∃ t, PSs (cxOf (L2.CX P w) P w K mg base ["fractions", "top", "bottom", "more", "below"] "total" (defScope sTotal) f cdv A outer s H E) (defBody sTotal) t ∧ t { nx := fun _ H' => Q .non H', rt := Q } (start ["fractions", "top", "bottom", "more", "below"] vs) H := by
  rintro A outer s H vs Q E hr ⟨p, xs, ds, rfl, hp, hds, many, sm, bad, q⟩
  have hr1 := hr.mono (show 1 ≤ 3 by decide)
  refine ⟨_, pss_cons (ps_expr (pe_callS GC hr rfl gC kC bC (fun σ => passAt (takes_of rfl rfl rfl rfl) σ) (pa_cons (pv 0) pa_nil)))
    (pss_cons (ps_asg (pe_tup (pa_cons pe_int (pa_cons pe_int pa_nil))) (pg_tup rfl (pgs_cons (pg_name (i := 1) scTotal.nd rfl (Or.inl rfl)) (pgs_cons (pg_name (i := 2) scTotal.nd rfl (Or.inl rfl)) pgs_nil))))
    (pss_cons (ps_for (passes_of rfl) rfl (pi_tup (pv 0)) (pg_tup rfl (pgs_cons (pg_name (i := 3) scTotal.nd rfl (Or.inl rfl)) (pgs_cons (pg_name (i := 4) scTotal.nd rfl (Or.inl rfl)) pgs_nil)))
      (pss_one (ps_asg (pe_call GL hr1 rfl gL kL bL .nil pass0 (pa_cons (pe_op op_add (pe_op op_mulW (pv 1) (pv 4)) (pe_op op_mulW (pv 3) (pv 2))) (pa_cons (pe_op op_mulW (pv 2) (pv 4)) pa_nil)))
        (pg_tup rfl (pgs_cons (pg_name (i := 1) scTotal.nd rfl (Or.inl rfl)) (pgs_cons (pg_name (i := 2) scTotal.nd rfl (Or.inl rfl)) pgs_nil))))))
    (pss_one (ps_ret (pe_tup (pa_cons (pv 1) (pa_cons (pv 2) pa_nil))))))), ?_⟩
  refine ⟨_, rfl, p, xs, ds, rfl, SqT.of hp, hds, bad, fun hb => ?_⟩
  have qq := q hb
  refine ⟨(by show 2 ≤ sizeLine; decide), fun t0 ht0 => ⟨t0, _, rfl, SqT.of upd_same, rfl, _, _, rfl, _, _, rfl, rfl, _, rfl, p, rfl, ⟨xs, sqt_mono (same_new ht0) (SqT.of hp)⟩, for_tup (xs := xs) (fun i σ H' => ∃ (t b : Int) (v3 v4 : Option V), σ = [some (.ref p), some (.int t), some (.int b), v3, v4] ∧ Same H H' ∧ b ≠ 0 ∧ SzN i t ∧ SzN i b ∧ foldS stepT ds 0 1 = foldS stepT (ds.drop i) t b)
    ⟨0, 1, none, none, rfl, same_new ht0, by decide, by unfold SzN; decide, by unfold SzN; decide, rfl⟩ (fun i σ H' _ hP => ?_) ?_ ?_⟩⟩
  · obtain ⟨_, _, _, _, _, s', _⟩ := hP
    exact sqt_mono s' (SqT.of hp)
  · rintro i x σ H' hx ⟨t, b, v3, v4, rfl, s', b0, zt, zb, e⟩
    obtain ⟨a, m, c, rfl, ha, c1, zm, zc, ed⟩ := frac_at hds s' hb sm hx
    have hi : i < 4 := Nat.lt_of_lt_of_le (List.getElem?_eq_some_iff.mp hx).1 many
    have st : t.natAbs < 2 ^ 4500 := szn_le zt (by omega)
    have sb : b.natAbs < 2 ^ 4500 := szn_le zb (by omega)
    have nb : b * c ≠ 0 := Int.mul_ne_zero b0 (by omega)
    have zb2 : SzN (i + 1) (b * c) := szn_up (szn_mul zb zc)
    have zt2 : SzN (i + 1) (t * c + m * b) := by
      refine szn_step (szn_mul zt zc) ?_
      rw [Int.mul_comm m b]
      exact szn_mul zb zm
    have zl := szn_low zt2 zb2
    have bc : CMulW b c := wide_mul sb zc (by decide) (by decide) (by decide)
    have tc : CMulW t c := wide_mul st zc (by decide) (by decide) (by decide)
    have mb : CMulW m b := wide_mul zm sb (by decide) (by decide) (by decide)
    have fold : foldS stepT ds 0 1 = foldS stepT (ds.drop (i + 1)) (low (t * c + m * b) (b * c)).1 (low (t * c + m * b) (b * c)).2 := by
      rw [e, ed]
      rfl
    refine ⟨a, _, rfl, ha, rfl, _, _, rfl, _, _, rfl, rfl, ?_⟩
    refine ⟨_, rfl, _, rfl, _, _, rfl, rfl, tc, _, rfl, _, rfl, _, _, rfl, rfl, mb, _, _, rfl, rfl, _, rfl, _, rfl, _, _, rfl, rfl, bc, t * c + m * b, b * c, rfl, nb, szn_le zb2 (by omega), fun q1 hq1 => ?_⟩
    exact ⟨q1, _, rfl, SqT.of upd_same, rfl, _, _, rfl, _, _, rfl, rfl, _, _, _, _, rfl, s'.trans (same_new hq1), low_ne nb, zl.1, zl.2, fold⟩
  · rintro σ H' ⟨t, b, v3, v4, rfl, s', b0, zt, zb, e⟩
    have e2 : foldS stepT ds 0 1 = (t, b) := by
      rw [e, List.drop_eq_nil_of_le (Nat.le_of_eq hds.length.symm)]
      rfl
    refine ⟨_, rfl, _, rfl, (by show 2 ≤ sizeLine; decide), fun q1 hq1 => qq q1 _ (s'.trans (same_new hq1)) (s'.free hq1) ?_⟩
    rw [e2]
    exact upd_same
theorem ok_productIn {C f fC fL : Addr} {fdC fdL : FuncData} {cdv : Value} {k : Nat}
    (GC : FnOk P w K mg base (L2.CX P w) 3 fC fdC ["values"] (spCheck K C)) (gC : mg "_check_fractions" = some (.ref fC)) (kC : PySem.W.keepIn K (.ref fC) = true) (bC : Binds K fdC ["values"] [])
    (GL : FnOk P w K mg base CX0 1 fL fdL ["top", "bottom"] spLowest) (gL : mg "_lowest" = some (.ref fL)) (kL : PySem.W.keepIn K (.ref fL) = true) (bL : Binds K fdL ["top", "bottom"] []) :
    ∀ (A : Around) (outer : List Env) (s : Shared) (H : Hp) (vs : List V) (Q : VK) (E : XK), Room 3 (A.deeper (envOfC "product" (defScope sProduct) s.heap.objs.size f cdv)) → spSumIn K C stepP 1 vs H Q E →
      ∃ t, PSs (cxOf (L2.CX P w) P w K mg base ["fractions", "top", "bottom", "times", "below"] "product" (defScope sProduct) f cdv A outer s H E) (defBody sProduct) t ∧ t { nx := fun _ H' => Q .non H', rt := Q } (start ["fractions", "top", "bottom", "times", "below"] vs) H := by
  rintro A outer s H vs Q E hr ⟨p, xs, ds, rfl, hp, hds, many, sm, bad, q⟩
  have hr1 := hr.mono (show 1 ≤ 3 by decide)
  refine ⟨_, pss_cons (ps_expr (pe_callS GC hr rfl gC kC bC (fun σ => passAt (takes_of rfl rfl rfl rfl) σ) (pa_cons (pv 0) pa_nil)))
    (pss_cons (ps_asg (pe_tup (pa_cons pe_int (pa_cons pe_int pa_nil))) (pg_tup rfl (pgs_cons (pg_name (i := 1) scProduct.nd rfl (Or.inl rfl)) (pgs_cons (pg_name (i := 2) scProduct.nd rfl (Or.inl rfl)) pgs_nil))))
    (pss_cons (ps_for (passes_of rfl) rfl (pi_tup (pv 0)) (pg_tup rfl (pgs_cons (pg_name (i := 3) scProduct.nd rfl (Or.inl rfl)) (pgs_cons (pg_name (i := 4) scProduct.nd rfl (Or.inl rfl)) pgs_nil)))
      (pss_one (ps_asg (pe_call GL hr1 rfl gL kL bL .nil pass0 (pa_cons (pe_op op_mulW (pv 1) (pv 3)) (pa_cons (pe_op op_mulW (pv 2) (pv 4)) pa_nil)))
        (pg_tup rfl (pgs_cons (pg_name (i := 1) scProduct.nd rfl (Or.inl rfl)) (pgs_cons (pg_name (i := 2) scProduct.nd rfl (Or.inl rfl)) pgs_nil))))))
    (pss_one (ps_ret (pe_tup (pa_cons (pv 1) (pa_cons (pv 2) pa_nil))))))), ?_⟩
  refine ⟨_, rfl, p, xs, ds, rfl, SqT.of hp, hds, bad, fun hb => ?_⟩
  have qq := q hb
  refine ⟨(by show 2 ≤ sizeLine; decide), fun t0 ht0 => ⟨t0, _, rfl, SqT.of upd_same, rfl, _, _, rfl, _, _, rfl, rfl, _, rfl, p, rfl, ⟨xs, sqt_mono (same_new ht0) (SqT.of hp)⟩, for_tup (xs := xs) (fun i σ H' => ∃ (t b : Int) (v3 v4 : Option V), σ = [some (.ref p), some (.int t), some (.int b), v3, v4] ∧ Same H H' ∧ b ≠ 0 ∧ SzN i t ∧ SzN i b ∧ foldS stepP ds 1 1 = foldS stepP (ds.drop i) t b)
    ⟨1, 1, none, none, rfl, same_new ht0, by decide, by unfold SzN; decide, by unfold SzN; decide, rfl⟩ (fun i σ H' _ hP => ?_) ?_ ?_⟩⟩
  · obtain ⟨_, _, _, _, _, s', _⟩ := hP
    exact sqt_mono s' (SqT.of hp)
  · rintro i x σ H' hx ⟨t, b, v3, v4, rfl, s', b0, zt, zb, e⟩
    obtain ⟨a, m, c, rfl, ha, c1, zm, zc, ed⟩ := frac_at hds s' hb sm hx
    have hi : i < 4 := Nat.lt_of_lt_of_le (List.getElem?_eq_some_iff.mp hx).1 many
    have st : t.natAbs < 2 ^ 4500 := szn_le zt (by omega)
    have sb : b.natAbs < 2 ^ 4500 := szn_le zb (by omega)
    have nb : b * c ≠ 0 := Int.mul_ne_zero b0 (by omega)
    have zb2 : SzN (i + 1) (b * c) := szn_up (szn_mul zb zc)
    have zt2 : SzN (i + 1) (t * m) := szn_up (szn_mul zt zm)
    have zl := szn_low zt2 zb2
    have bc : CMulW b c := wide_mul sb zc (by decide) (by decide) (by decide)
    have tm : CMulW t m := wide_mul st zm (by decide) (by decide) (by decide)
    have fold : foldS stepP ds 1 1 = foldS stepP (ds.drop (i + 1)) (low (t * m) (b * c)).1 (low (t * m) (b * c)).2 := by
      rw [e, ed]
      rfl
    refine ⟨a, _, rfl, ha, rfl, _, _, rfl, _, _, rfl, rfl, ?_⟩
    refine ⟨_, rfl, _, rfl, _, _, rfl, rfl, tm, _, rfl, _, rfl, _, _, rfl, rfl, bc, t * m, b * c, rfl, nb, szn_le zb2 (by omega), fun q1 hq1 => ?_⟩
    exact ⟨q1, _, rfl, SqT.of upd_same, rfl, _, _, rfl, _, _, rfl, rfl, _, _, _, _, rfl, s'.trans (same_new hq1), low_ne nb, zl.1, zl.2, fold⟩
  · rintro σ H' ⟨t, b, v3, v4, rfl, s', b0, zt, zb, e⟩
    have e2 : foldS stepP ds 1 1 = (t, b) := by
      rw [e, List.drop_eq_nil_of_le (Nat.le_of_eq hds.length.symm)]
      rfl
    refine ⟨_, rfl, _, rfl, (by show 2 ≤ sizeLine; decide), fun q1 hq1 => qq q1 _ (s'.trans (same_new hq1)) (s'.free hq1) ?_⟩
    rw [e2]
    exact upd_same
/-- a promise that asks more -/
theorem FnR.weaken {CX : CXT} {k : Nat} {f : Addr} {sp sp' : Sp} (F : FnR P w K mg base CX k f sp) (h : ∀ vs H Q E, sp' vs H Q E → sp vs H Q E) : FnR P w K mg base CX k f sp' :=
  fun A outer s H us vs Q E hr e0 r q => F A outer s H us vs Q E hr e0 r (h vs H Q E q)
theorem sum_in {C : Addr} {step : Int → Int → Int → Int → Int × Int} {t0 : Int} : ∀ vs H Q E, spSum K C step t0 vs H Q E → ∃ ws rest, vs = ws ++ rest ∧ ws.length = ([] : List Str).length ∧ rest.length ≤ sizeLine ∧ ∀ p, H p = none → spSumIn K C step t0 (ws ++ [V.ref p]) (upd H p (.tup rest)) Q E := by
  rintro vs H Q E ⟨ds, hds, many, sm, bad, q⟩
  refine ⟨[], vs, rfl, rfl, Nat.le_trans many (by decide), fun p hp => ?_⟩
  have s := same_new (o := .tup vs) hp
  exact ⟨p, vs, ds, rfl, upd_same, RDs.mono s ds vs hds, many, sm, fun v hv => (bad v hv).mono s, fun hb q1 H' s' h1 h2 => q hb q1 H' (s.trans s') (s.free h1) h2⟩
theorem ok_total {C f fC fL : Addr} {fd fdC fdL : FuncData} (F : Fun K "total" "total" sTotal f fd)
    (GC : FnOk P w K mg base (L2.CX P w) 3 fC fdC ["values"] (spCheck K C)) (gC : mg "_check_fractions" = some (.ref fC)) (kC : PySem.W.keepIn K (.ref fC) = true) (bC : Binds K fdC ["values"] [])
    (GL : FnOk P w K mg base CX0 1 fL fdL ["top", "bottom"] spLowest) (gL : mg "_lowest" = some (.ref fL)) (kL : PySem.W.keepIn K (.ref fL) = true) (bL : Binds K fdL ["top", "bottom"] []) : FnR P w K mg base (L2.CX P w) 4 f (spSum K C stepT 0) := by
  obtain ⟨oc, od, kV, doc, pm, an, cdv, ct, osl, rfl, lk, hcd⟩ := F.ex
  refine FnR.weaken (StX.fn_star (ps := []) (pv := "fractions") (sp := spSumIn K C stepT 0) lk hcd scTotal StX.cxUp (fun us rest hl => ?_) (ok_totalIn (k := 3) GC gC kC bC GL gL kL bL)) sum_in
  match us, rest, hl with
  | [], [], _ => rfl
  | [], _ :: _, _ => rfl
theorem ok_product {C f fC fL : Addr} {fd fdC fdL : FuncData} (F : Fun K "product" "product" sProduct f fd)
    (GC : FnOk P w K mg base (L2.CX P w) 3 fC fdC ["values"] (spCheck K C)) (gC : mg "_check_fractions" = some (.ref fC)) (kC : PySem.W.keepIn K (.ref fC) = true) (bC : Binds K fdC ["values"] [])
    (GL : FnOk P w K mg base CX0 1 fL fdL ["top", "bottom"] spLowest) (gL : mg "_lowest" = some (.ref fL)) (kL : PySem.W.keepIn K (.ref fL) = true) (bL : Binds K fdL ["top", "bottom"] []) : FnR P w K mg base (L2.CX P w) 4 f (spSum K C stepP 1) := by
  obtain ⟨oc, od, kV, doc, pm, an, cdv, ct, osl, rfl, lk, hcd⟩ := F.ex
  refine FnR.weaken (StX.fn_star (ps := []) (pv := "fractions") (sp := spSumIn K C stepP 1) lk hcd scProduct StX.cxUp (fun us rest hl => ?_) (ok_productIn (k := 3) GC gC kC bC GL gL kL bL)) sum_in
  match us, rest, hl with
  | [], [], _ => rfl
  | [], _ :: _, _ => rfl
end
end Paw

set_option maxRecDepth 100000
set_option maxHeartbeats 4000000
namespace Paw
open PySem PySem.Spec PyProof.Rows L2
abbrev sWhole : Stmt := top 17
abbrev sDivisor : Stmt := top 18
abbrev sLLow : Stmt := top 19
abbrev sPlus : Stmt := top 20
abbrev sTimes : Stmt := top 21
abbrev sLFrac : Stmt := top 22
theorem fmod_abs {a b : Int} (h : b ≠ 0) : (a.fmod b).natAbs < b.natAbs := by
  have e := @Int.fmod_eq_emod a b
  have h1 := Int.emod_nonneg a h
  have h2 := Int.emod_lt a h
  rw [e]
  by_cases z : 0 ≤ b ∨ b ∣ a
  · rw [if_pos z]
    omega
  · rw [if_neg z]
    have h3 : a % b ≠ 0 := fun w => z (.inr (Int.dvd_of_emod_eq_zero w))
    omega
theorem gcd_rest {a b q r : Int} (e : a = b * q + r) : Nat.gcd b.natAbs r.natAbs = Nat.gcd a.natAbs b.natAbs := by
  have e2 : r = a - b * q := by omega
  have dv : ∀ {g : Nat} {z : Int}, (g : Int) ∣ z ↔ g ∣ z.natAbs := Int.ofNat_dvd_left
  apply Nat.dvd_antisymm
  · refine Nat.dvd_gcd ?_ (Nat.gcd_dvd_left _ _)
    apply dv.mp
    have h1 : ((Nat.gcd b.natAbs r.natAbs : Nat) : Int) ∣ b := dv.mpr (Nat.gcd_dvd_left _ _)
    have h2 : ((Nat.gcd b.natAbs r.natAbs : Nat) : Int) ∣ r := dv.mpr (Nat.gcd_dvd_right _ _)
    have h3 := Int.dvd_add (Int.dvd_trans h1 (Int.dvd_mul_right b q)) h2
    rw [← e] at h3
    exact h3
  · refine Nat.dvd_gcd (Nat.gcd_dvd_right _ _) ?_
    apply dv.mp
    have h1 : ((Nat.gcd a.natAbs b.natAbs : Nat) : Int) ∣ a := dv.mpr (Nat.gcd_dvd_left _ _)
    have h2 : ((Nat.gcd a.natAbs b.natAbs : Nat) : Int) ∣ b := dv.mpr (Nat.gcd_dvd_right _ _)
    have h3 := Int.dvd_sub h1 (Int.dvd_trans h2 (Int.dvd_mul_right b q))
    rw [← e2] at h3
    exact h3
theorem gz_step {a b : Int} : gz b (a.fmod b) = gz a b := by
  have e : a = b * a.fdiv b + a.fmod b := by
    have := Int.fmod_add_mul_fdiv a b
    omega
  unfold gz
  rw [gcd_rest e]
theorem gz_zero {a : Int} : gz a 0 = ((a.natAbs : Nat) : Int) := by
  unfold gz
  rw [show (0 : Int).natAbs = 0 from rfl, Nat.gcd_zero_right]
theorem gz_low {t b : Int} (h : b ≠ 0) : gz (low t b).1 (low t b).2 = 1 ∧ 1 ≤ (low t b).2 := by
  have et : (low t b).1 * sg t b = t := Int.fdiv_mul_cancel sg_dvd_t
  have eb : (low t b).2 * sg t b = b := Int.fdiv_mul_cancel sg_dvd_b
  have hs := sg_ne (t := t) h
  have hg := gz_pos (t := t) h
  constructor
  · have e1 : (low t b).1.natAbs * (sg t b).natAbs = t.natAbs := by rw [← Int.natAbs_mul, et]
    have e2 : (low t b).2.natAbs * (sg t b).natAbs = b.natAbs := by rw [← Int.natAbs_mul, eb]
    have e3 : Nat.gcd (low t b).1.natAbs (low t b).2.natAbs * (sg t b).natAbs = (sg t b).natAbs := by
      rw [← Nat.gcd_mul_right, e1, e2]
      exact sg_abs.symm
    have e4 : 0 < (sg t b).natAbs := Int.natAbs_pos.mpr hs
    have e5 : Nat.gcd (low t b).1.natAbs (low t b).2.natAbs = 1 := Nat.eq_of_mul_eq_mul_right e4 (by rw [e3, Nat.one_mul])
    unfold gz
    rw [e5]
    rfl
  · have h0 := low_ne (t := t) h
    rcases Int.lt_trichotomy (low t b).2 0 with z | z | z
    · exfalso
      by_cases hb : b < 0
      · have es : sg t b = -(gz t b) := if_pos (decide_eq_true hb)
        have := Int.mul_pos_of_neg_of_neg z (show sg t b < 0 by omega)
        omega
      · have es : sg t b = gz t b := if_neg (by rw [decide_eq_true_eq]; exact hb)
        have := Int.mul_neg_of_neg_of_pos z (show 0 < sg t b by omega)
        omega
    · exact absurd z h0
    · omega
def spWhole (K : PySem.W.Frag) : Sp := spIsInt K
def spDivisor : Sp := fun vs H Q _ => ∃ a b : Int, vs = [.int a, .int b] ∧ Q (.int (gz a b)) H
def spStep (K : PySem.W.Frag) (step : Int → Int → Int → Int → Int × Int) : Sp := fun vs H Q _ => ∃ (p q : Addr) (t b m c : Int), vs = [.ref p, .ref q] ∧ SqT K H p [.int t, .int b] ∧ SqT K H q [.int m, .int c] ∧ b ≠ 0 ∧ c ≠ 0 ∧ t.natAbs < 2 ^ 6000 ∧ b.natAbs < 2 ^ 6000 ∧ m.natAbs < 2 ^ 1100 ∧ c.natAbs < 2 ^ 1100 ∧
  ∀ r, H r = none → Q (.ref r) (upd H r (.tup [.int (step t b m c).1, .int (step t b m c).2]))
def spLFrac (K : PySem.W.Frag) : Sp := fun vs H Q _ => ∃ (x : V) (d : PyData), vs = [x] ∧ RD K H x d ∧ ∀ H', Same H H' → Q (.bl (isF d)) H'
section
variable {P : Program} {w : World} {K : PySem.W.Frag} {mg : Str → Option Value} {base : Heap}
theorem scWhole : FnScope ["thing"] ["thing"] (defScope sWhole) := ⟨rfl, rfl, rfl, by decide +kernel, rfl, by decide +kernel, by decide +kernel⟩
theorem ok_whole {f : Addr} {fd : FuncData} (F : Fun K "_law_whole" "_law_whole" sWhole f fd) (zs : mg "isinstance" = none) (zi : mg "int" = none) (zb : mg "bool" = none) : FnOk P w K mg base CX0 1 f fd ["thing"] (spWhole K) := by
  refine F.ok scWhole (fun vs H Q E h => ?_) (fun cdv A outer s H vs Q E hr h => ?_)
  · obtain ⟨x, d, rfl, _⟩ := h
    rfl
  · obtain ⟨x, d, rfl, hd, q⟩ := h
    refine ⟨_, pss_one (ps_ret (pe_and (pe_callB call_isi (by rfl) zs bt_isinstance (pa_cons (pv 0) (pa_cons (pe_bltn (v := .ty "int") (by rfl) zi bt_int rfl) pa_nil)))
      (pe_one (pe_not (pe_callB call_isi (by rfl) zs bt_isinstance (pa_cons (pv 0) (pa_cons (pe_bltn (v := .ty "bool") (by rfl) zb bt_bool rfl) pa_nil))))))), ?_⟩
    refine ⟨_, rfl, x, .ty "int", _, _, _, rfl, .ty _, hd.ty, kit_int d, _, rfl, ?_⟩
    refine ite2 (fun h => ⟨_, rfl, x, .ty "bool", _, _, _, rfl, .ty _, hd.ty, kit_bool d, _, rfl, ?_⟩) (fun h => ?_)
    · have e : (!isB d) = isI d := by cases d <;> first | rfl | cases h
      rw [e]
      exact q
    · have e : false = isI d := by cases d <;> first | rfl | exact absurd rfl h
      rw [e]
      exact q
theorem scDivisor : FnScope ["one", "other"] ["one", "other"] (defScope sDivisor) := ⟨rfl, rfl, rfl, by decide +kernel, rfl, by decide +kernel, by decide +kernel⟩
theorem ok_divisor {f : Addr} {fd : FuncData} (F : Fun K "_law_divisor" "_law_divisor" sDivisor f fd) (zi : mg "int" = none) (za : mg "abs" = none) : FnOk P w K mg base CX0 1 f fd ["one", "other"] spDivisor := by
  refine F.ok scDivisor (fun vs H Q E h => ?_) (fun cdv A outer s H vs Q E hr h => ?_)
  · obtain ⟨a, b, rfl, _⟩ := h
    rfl
  · obtain ⟨a, b, rfl, q⟩ := h
    refine ⟨_, pss_cons (ps_while PassesOwn.never (pt_cmpR op_ne (pv 1) pe_int (nomark _)) (pss_one (ps_par (i := 0) (j := 1) rfl scDivisor.nd rfl rfl (by decide) rfl rfl (pa_cons (pv 1) (pa_cons (pe_op op_modN (pe_callTy call_int1 (by rfl) zi bt_int (pa_cons (pv 0) pa_nil)) (pv 1)) pa_nil)) (by rfl))))
      (pss_one (ps_ret (pe_callB call_abs (by rfl) za bt_abs (pa_cons (pv 0) pa_nil)))), ?_⟩
    refine while_by (fun σ H' => H' = H ∧ ∃ x y : Int, σ = [some (.int x), some (.int y)] ∧ gz x y = gz a b) (fun σ _ => match σ with | [_, some (.int y)] => y.natAbs | _ => 0) ⟨rfl, a, b, rfl, rfl⟩ ?_ ?_
    · rintro σ H' ⟨rfl, x, y, rfl, e⟩
      refine ⟨_, rfl, rfl, _, rfl, ?_⟩
      by_cases hy : y = 0
      · subst hy
        refine it_f (by decide) ?_
        rw [gz_zero] at e
        rw [← e, show ((x.natAbs : Nat) : Int) = if x < 0 then -x else x by split <;> omega] at q
        exact ⟨_, rfl, _, rfl, q⟩
      · refine it_t (by simp [hy]) ?_
        refine ⟨_, rfl, _, rfl, .inl ⟨_, rfl, _, rfl, _, _, rfl, rfl, hy, _, _, rfl, ⟨rfl, _, _, rfl, gz_step.trans e⟩, fmod_abs hy⟩⟩
    · rintro σ H' Q1 Q2 hq ⟨v, hv, e, c, ec, k⟩
      exact ⟨v, hv, e, c, ec, hq _ _ k⟩
theorem scLLow : FnScope ["top", "bottom", "common"] ["top", "bottom"] (defScope sLLow) := ⟨rfl, rfl, rfl, by decide +kernel, rfl, by decide +kernel, by decide +kernel⟩
theorem ok_llow {f fD : Addr} {fd fdD : FuncData} (F : Fun K "_law_lowest" "_law_lowest" sLLow f fd) (GD : FnOk P w K mg base CX0 1 fD fdD ["one", "other"] spDivisor) (gD : mg "_law_divisor" = some (.ref fD)) (kD : PySem.W.keepIn K (.ref fD) = true) (bD : Binds K fdD ["one", "other"] []) :
    FnOk P w K mg base CX0 2 f fd ["top", "bottom"] spLowest := by
  refine F.ok scLLow (fun vs H Q E h => ?_) (fun cdv A outer s H vs Q E hr h => ?_)
  · obtain ⟨t, b, rfl, _⟩ := h
    rfl
  · obtain ⟨t, b, rfl, b0, bs, q⟩ := h
    refine ⟨_, pss_cons (ps_set (i := 2) scLLow.nd rfl (Or.inl rfl) (pe_call GD hr rfl gD kD bD .nil pass0 (pa_cons (pv 0) (pa_cons (pv 1) pa_nil))))
      (pss_cons (ps_if (pt_cmpR op_lt (pv 1) pe_int (nomark _)) (pss_one (ps_set (i := 2) scLLow.nd rfl (Or.inl rfl) (pe_op op_sub pe_int (pv 2)))) pss_nil)
      (pss_one (ps_ret (pe_tup (pa_cons (pe_op op_fdivZ (pv 0) (pv 2)) (pa_cons (pe_op op_fdivZ (pv 1) (pv 2)) pa_nil)))))), ?_⟩
    refine ⟨_, rfl, _, rfl, _, _, rfl, _, rfl, _, _, rfl, rfl, _, rfl, ?_⟩
    have hs := sg_ne (t := t) b0
    have hz : CDivZ t (sg t b) ∧ CDivZ b (sg t b) := by
      have := sg_le (t := t) b0
      exact ⟨div_any hs (b := 8000) (by omega) (by decide) (by decide), div_any hs (b := 8000) (by omega) (by decide) (by decide)⟩
    refine ite2 (fun h => ?_) (fun h => ?_)
    · have e : sg t b = 0 - gz t b := (if_pos h).trans (Int.zero_sub _).symm
      have d1 := hz.1
      have d2 := hz.2
      unfold low at q
      rw [e] at d1 d2 q
      exact ⟨_, rfl, _, _, rfl, rfl, _, rfl, _, rfl, _, _, rfl, rfl, d1, _, rfl, _, rfl, _, _, rfl, rfl, d2, (by show 2 ≤ sizeLine; decide), q⟩
    · have e : sg t b = gz t b := if_neg h
      have d1 := hz.1
      have d2 := hz.2
      unfold low at q
      rw [e] at d1 d2 q
      exact ⟨_, rfl, _, rfl, _, _, rfl, rfl, d1, _, rfl, _, rfl, _, _, rfl, rfl, d2, (by show 2 ≤ sizeLine; decide), q⟩
theorem scPlus : FnScope ["one", "other"] ["one", "other"] (defScope sPlus) := ⟨rfl, rfl, rfl, by decide +kernel, rfl, by decide +kernel, by decide +kernel⟩
theorem scTimes : FnScope ["one", "other"] ["one", "other"] (defScope sTimes) := ⟨rfl, rfl, rfl, by decide +kernel, rfl, by decide +kernel, by decide +kernel⟩
theorem add_sz {a b : Int} {n : Nat} (h : a.natAbs < 2 ^ n) (g : b.natAbs < 2 ^ n) : (a + b).natAbs < 2 ^ (n + 1) := by
  have := Int.natAbs_add_le a b
  rw [Nat.pow_succ]
  omega
theorem up_sz {a : Int} {m n : Nat} (h : a.natAbs < 2 ^ m) (g : m ≤ n) : a.natAbs < 2 ^ n := Nat.lt_of_lt_of_le h (Nat.pow_le_pow_right (by decide) g)
theorem at0 {x y : V} : atI [x, y] 0 = some x := atI_nat (j := 0) rfl
theorem at1 {x y : V} : atI [x, y] 1 = some y := atI_nat (j := 1) rfl
theorem ok_plus {f fL : Addr} {fd fdL : FuncData} (F : Fun K "_law_plus" "_law_plus" sPlus f fd) (GL : FnOk P w K mg base CX0 2 fL fdL ["top", "bottom"] spLowest) (gL : mg "_law_lowest" = some (.ref fL)) (kL : PySem.W.keepIn K (.ref fL) = true) (bL : Binds K fdL ["top", "bottom"] []) :
    FnOk P w K mg base CX0 3 f fd ["one", "other"] (spStep K stepT) := by
  refine F.ok scPlus (fun vs H Q E h => ?_) (fun cdv A outer s H vs Q E hr h => ?_)
  · obtain ⟨p, q, t, b, m, c, rfl, _⟩ := h
    rfl
  · obtain ⟨p, q1, t, b, m, c, rfl, hp, hq, b0, c0, st, sb, sm, sc, q⟩ := h
    refine ⟨_, pss_one (ps_ret (pe_call GL hr rfl gL kL bL .nil pass0 (pa_cons (pe_op op_add (pe_op op_mulW (pe_ix ix_tup (pv 0) pe_int (fun _ _ => rfl)) (pe_ix ix_tup (pv 1) pe_int (fun _ _ => rfl))) (pe_op op_mulW (pe_ix ix_tup (pv 1) pe_int (fun _ _ => rfl)) (pe_ix ix_tup (pv 0) pe_int (fun _ _ => rfl))))
      (pa_cons (pe_op op_mulW (pe_ix ix_tup (pv 0) pe_int (fun _ _ => rfl)) (pe_ix ix_tup (pv 1) pe_int (fun _ _ => rfl))) pa_nil)))), ?_⟩
    refine ⟨_, rfl, p, _, _, _, rfl, rfl, hp, at0, _, rfl, q1, _, _, _, rfl, rfl, hq, at1, _, _, rfl, rfl, wide_mul st sc (by decide) (by decide) (by decide),
      _, rfl, q1, _, _, _, rfl, rfl, hq, at0, _, rfl, p, _, _, _, rfl, rfl, hp, at1, _, _, rfl, rfl, wide_mul sm sb (by decide) (by decide) (by decide), _, _, rfl, rfl,
      _, rfl, p, _, _, _, rfl, rfl, hp, at1, _, rfl, q1, _, _, _, rfl, rfl, hq, at1, _, _, rfl, rfl, wide_mul sb sc (by decide) (by decide) (by decide), _, _, rfl, Int.mul_ne_zero b0 c0, up_sz (wide_lt sb sc) (by decide), q⟩
theorem ok_times {f fL : Addr} {fd fdL : FuncData} (F : Fun K "_law_times" "_law_times" sTimes f fd) (GL : FnOk P w K mg base CX0 2 fL fdL ["top", "bottom"] spLowest) (gL : mg "_law_lowest" = some (.ref fL)) (kL : PySem.W.keepIn K (.ref fL) = true) (bL : Binds K fdL ["top", "bottom"] []) :
    FnOk P w K mg base CX0 3 f fd ["one", "other"] (spStep K stepP) := by
  refine F.ok scTimes (fun vs H Q E h => ?_) (fun cdv A outer s H vs Q E hr h => ?_)
  · obtain ⟨p, q, t, b, m, c, rfl, _⟩ := h
    rfl
  · obtain ⟨p, q1, t, b, m, c, rfl, hp, hq, b0, c0, st, sb, sm, sc, q⟩ := h
    refine ⟨_, pss_one (ps_ret (pe_call GL hr rfl gL kL bL .nil pass0 (pa_cons (pe_op op_mulW (pe_ix ix_tup (pv 0) pe_int (fun _ _ => rfl)) (pe_ix ix_tup (pv 1) pe_int (fun _ _ => rfl)))
      (pa_cons (pe_op op_mulW (pe_ix ix_tup (pv 0) pe_int (fun _ _ => rfl)) (pe_ix ix_tup (pv 1) pe_int (fun _ _ => rfl))) pa_nil)))), ?_⟩
    refine ⟨_, rfl, p, _, _, _, rfl, rfl, hp, at0, _, rfl, q1, _, _, _, rfl, rfl, hq, at0, _, _, rfl, rfl, wide_mul st sm (by decide) (by decide) (by decide),
      _, rfl, p, _, _, _, rfl, rfl, hp, at1, _, rfl, q1, _, _, _, rfl, rfl, hq, at1, _, _, rfl, rfl, wide_mul sb sc (by decide) (by decide) (by decide), _, _, rfl, Int.mul_ne_zero b0 c0, up_sz (wide_lt sb sc) (by decide), q⟩
theorem scLFrac : FnScope ["thing", "one"] ["thing"] (defScope sLFrac) := ⟨rfl, rfl, rfl, by decide +kernel, rfl, by decide +kernel, by decide +kernel⟩
theorem ok_lfrac {f fW fD : Addr} {fd fdW fdD : FuncData} (F : Fun K "_law_is_fraction" "_law_is_fraction" sLFrac f fd) (zs : mg "isinstance" = none) (zt : mg "tuple" = none) (zl : mg "len" = none)
    (GW : FnOk P w K mg base CX0 1 fW fdW ["thing"] (spWhole K)) (gW : mg "_law_whole" = some (.ref fW)) (kW : PySem.W.keepIn K (.ref fW) = true) (bW : Binds K fdW ["thing"] [])
    (GD : FnOk P w K mg base CX0 1 fD fdD ["one", "other"] spDivisor) (gD : mg "_law_divisor" = some (.ref fD)) (kD : PySem.W.keepIn K (.ref fD) = true) (bD : Binds K fdD ["one", "other"] []) : FnOk P w K mg base CX0 2 f fd ["thing"] (spLFrac K) := by
  refine F.ok scLFrac (fun vs H Q E h => ?_) (fun cdv A outer s H vs Q E hr h => ?_)
  · obtain ⟨x, d, rfl, _⟩ := h
    rfl
  · obtain ⟨x, d, rfl, hd, q⟩ := h
    refine ⟨_, pss_cons (ps_if (PW.pt (pw_or (pt_not (pt_val (pe_callB call_isi (by rfl) zs bt_isinstance (pa_cons (pv 0) (pa_cons (pe_bltn (v := .ty "tuple") (by rfl) zt bt_tuple rfl) pa_nil)))))
        (pw_or (pt_cmpR op_ne (pe_callB call_len_seq (by rfl) zl bt_len (pa_cons (pv 0) pa_nil)) pe_int (nomark _))
        (pw_or1 (pt_cmpR op_in_seq pe_bl (pe_lc (own := [("one", 1)]) (g := gName 1) (tt := tYes) (te := tCall (spWhole K) [] E0 (tCons (tVar 1) tNil)) rfl scLFrac.nd (pi_tup (pv 0)) (blkOk_by (N := ["thing", "one"]) (sc := defScope sLFrac) (by decide +kernel)) (fun _ _ _ _ _ => pg_name (i := 1) scLFrac.nd rfl (Or.inl rfl)) (fun _ _ _ _ _ => pts_nil)
          (fun _ _ _ _ _ => pe_call GW (hr.mono (by decide)) rfl gW kW bW .nil pass0 (pa_cons (pv 1) pa_nil))) (by rfl)))))) (pss_one (ps_ret pe_bl)) pss_nil)
      (pss_one (ps_ret (pe_and (pe_cmpR op_gt (pe_ix ix_tup (pv 0) pe_int (fun _ _ => rfl)) pe_int (nomark _)) (pe_one (pe_cmpR op_eq (pe_call GD hr rfl gD kD bD .nil pass0 (pa_cons (pe_ix ix_tup (pv 0) pe_int (fun _ _ => rfl)) (pa_cons (pe_ix ix_tup (pv 0) pe_int (fun _ _ => rfl)) pa_nil))) pe_int (nomark _)))))), ?_⟩
    refine ⟨_, rfl, x, .ty "tuple", _, _, _, rfl, .ty _, hd.ty, kit_tuple d, _, rfl, ?_⟩
    by_cases ht : isT d = true
    · obtain ⟨ds, rfl⟩ : ∃ ds, d = .tuple ds := by
        cases d with
        | tuple ds => exact ⟨ds, rfl⟩
        | _ => cases ht
      obtain ⟨a, xs, rfl, hx, hds⟩ : ∃ a xs, x = .ref a ∧ SqT K H a xs ∧ RDs K H xs ds := by
        cases hd with
        | tup h hs => exact ⟨_, _, rfl, h, hs⟩
      by_cases h2 : ∃ da db, ds = [da, db]
      · obtain ⟨da, db, rfl⟩ := h2
        cases hds with
        | @cons va _ _ _ ha hds =>
          cases hds with
          | @cons vb _ _ _ hb hds =>
            cases hds
            refine ⟨_, rfl, a, _, rfl, .inr hx, rfl, _, rfl, ?_⟩
            refine it_f (by show (!decide (V.int ((2 : Nat) : Int) = V.int 2)) = false; decide +kernel) ?_
            refine ⟨_, rfl, a, rfl, ⟨_, hx⟩, fun D hD => lc_tup (xs := [va, vb]) (fun i H' => Same H H' ∧ H' D = some (.lst ([V.bl (isI da), V.bl (isI db)].take i))) ⟨same_new hD, upd_same⟩ (fun i H' _ h => sqt_mono h.1 hx) (fun i x H' hi h => ?_) (fun H' h => ?_)⟩
            · have nD : ∀ c o, H c = some o → c ≠ D := fun c o e => ne_of_none e hD
              match i, hi with
              | 0, hi =>
                cases hi
                exact ⟨rfl, _, rfl, va, da, rfl, RD.mono h.1 _ _ ha, _, h.2, (by show 0 < sizeLine; decide), fun c o e => (upd_ne (nD c o e)).trans (h.1 c o e), upd_same⟩
              | 1, hi =>
                cases hi
                exact ⟨rfl, _, rfl, vb, db, rfl, RD.mono h.1 _ _ hb, _, h.2, (by show 1 < sizeLine; decide), fun c o e => (upd_ne (nD c o e)).trans (h.1 c o e), upd_same⟩
              | n + 2, hi => cases hi
            · obtain ⟨s', hD'⟩ := h
              refine ⟨D, _, rfl, .inl (SqL.of hD'), rfl, rfl, _, rfl, ?_⟩
              cases hI : isI da with
              | false =>
                refine it_t (by cases isI db <;> rfl) ?_
                have e : isF (.tuple [da, db]) = false := by
                  cases da <;> first | rfl | cases hI
                rw [e] at q
                exact q _ s'
              | true =>
                cases hJ : isI db with
                | false =>
                  refine it_t rfl ?_
                  have e : isF (.tuple [da, db]) = false := by
                    cases db <;> first | (cases da <;> rfl) | cases hJ
                  rw [e] at q
                  exact q _ s'
                | true =>
                  refine it_f rfl ?_
                  obtain ⟨t, rfl⟩ : ∃ t, da = .int t := by
                    cases da with
                    | int t => exact ⟨t, rfl⟩
                    | _ => cases hI
                  obtain ⟨n, rfl⟩ : ∃ t, db = .int t := by
                    cases db with
                    | int t => exact ⟨t, rfl⟩
                    | _ => cases hJ
                  cases ha
                  cases hb
                  have e : isF (.tuple [.int t, .int n]) = (decide (1 ≤ n) && decide (gz t n = 1)) := rfl
                  rw [e] at q
                  have hx' := sqt_mono s' hx
                  refine ⟨_, rfl, a, _, _, _, rfl, rfl, hx', at1, _, _, rfl, rfl, _, rfl, ?_⟩
                  refine ite2 (fun hg => ?_) (fun hg => ?_)
                  · have hn : decide (1 ≤ n) = true := by
                      have := of_decide_eq_true hg
                      exact decide_eq_true (by omega)
                    refine ⟨_, rfl, a, _, _, _, rfl, rfl, hx', at0, _, rfl, a, _, _, _, rfl, rfl, hx', at1, _, _, rfl, rfl, ?_⟩
                    rw [hn, Bool.true_and] at q
                    have e2 : decide (V.int (gz t n) = V.int 1) = decide (gz t n = 1) := decide_eq_decide.mpr ⟨fun z => by injection z, fun z => by rw [z]⟩
                    rw [e2]
                    exact q _ s'
                  · have hn : decide (1 ≤ n) = false := decide_eq_false fun z => hg (decide_eq_true (by omega))
                    rw [hn, Bool.false_and] at q
                    exact q _ s'
      · have hlen := hds.length
        have e : isF (.tuple ds) = false := by
          match ds, h2 with
          | [], _ => rfl
          | [_], _ => rfl
          | [da, db], h2 => exact absurd ⟨da, db, rfl⟩ h2
          | _ :: _ :: _ :: _, _ => rfl
        have n2 : xs.length ≠ 2 := by
          rw [hlen]
          intro z
          match ds, h2, z with
          | [da, db], h2, _ => exact h2 ⟨da, db, rfl⟩
        rw [e] at q
        refine ⟨_, rfl, a, _, rfl, .inr hx, rfl, _, rfl, ?_⟩
        refine it_t ?_ (q _ fun _ _ e => e)
        have z : ¬ (V.int ((xs.length : Nat) : Int) = V.int 2) := fun z => n2 (by injection z with z; omega)
        simp [z]
    · have e : isF d = false := by cases d <;> first | exact absurd rfl ht | rfl
      have e2 : isT d = false := Bool.eq_false_iff.mpr ht
      rw [e] at q
      rw [e2]
      exact q _ fun _ _ e => e
end
end Paw

set_option maxRecDepth 100000
set_option maxHeartbeats 4000000
namespace Paw
open PySem PySem.Spec PyProof.Rows L2
abbrev sLFra : Stmt := top 23
abbrev sLInt : Stmt := top 25
abbrev sWrong : Stmt := top 29
/-! ### the heap without some places -/
def cut (S : List Addr) (H : Hp) : Hp := fun b => if b ∈ S then none else H b
theorem cut_in {S : List Addr} {H : Hp} {b : Addr} (h : b ∈ S) : cut S H b = none := if_pos h
theorem cut_out {S : List Addr} {H : Hp} {b : Addr} (h : b ∉ S) : cut S H b = H b := if_neg h
theorem cut_same {S : List Addr} {H : Hp} : Same (cut S H) H := fun b o e => by
  by_cases h : b ∈ S
  · rw [cut_in h] at e
    cases e
  · rw [cut_out h] at e
    exact e
theorem cut1 {p b : Addr} {H : Hp} (h : b ≠ p) : cut [p] H b = H b := cut_out (by simp [h])
theorem cut_but {p : Addr} {H H' : Hp} (h : But p H H') : Same (cut [p] H) (cut [p] H') := fun b o e => by
  have n : b ≠ p := fun z => by
    rw [z, cut_in List.mem_cons_self] at e
    cases e
  rw [cut1 n] at e ⊢
  exact h b o n e
/-- what was not there -/
def newer (H H' : Hp) : Hp := fun b => match H b with
  | none => H' b
  | some _ => none
theorem newer_at {H H' : Hp} {b : Addr} (h : H b = none) : newer H H' b = H' b := by
  unfold newer
  rw [h]
theorem newer_some {H H' : Hp} {b : Addr} {o : HO} (e : newer H H' b = some o) : H b = none ∧ H' b = some o := by
  cases h : H b with
  | none =>
    rw [newer_at h] at e
    exact ⟨rfl, e⟩
  | some u =>
    unfold newer at e
    rw [h] at e
    cases e
theorem newer_cut {S : List Addr} {H H' : Hp} (h : ∀ b ∈ S, H b ≠ none) : Same (newer H H') (cut S H') := fun b o e => by
  obtain ⟨h1, h2⟩ := newer_some e
  rw [cut_out (fun z => h b z h1)]
  exact h2
/-- a draw: a value made of new things, tiny data -/
def spDraw (K : PySem.W.Frag) : Sp := fun vs H Q _ => ∃ (p : Addr) (b : Bool) (L : List V), vs = [.ref p] ∧ H p = some (.lst L) ∧ Pile b L ∧
  ∀ (v : V) (d : PyData) (L' : List V) (H' : Hp), RD K (newer H H') v d → tinyD d = true → But p H H' → H' p = some (.lst L') → Pile b L' → Q v H'
theorem log_lt {i : Int} {n : Nat} (h : i.natAbs < 2 ^ n) (h0 : 0 < n) : i.natAbs.log2 < n := PySem.Flt.log2_lt_of h0 h
theorem tiny_int {i : Int} (h : i.natAbs < 2 ^ 60) : tinyD (.int i) = true := by
  have := log_lt h (by decide)
  unfold tinyD
  simp only [plainD, PyData.showable, siz, PyData.depth, Bool.and_eq_true, decide_eq_true_eq]
  exact ⟨⟨⟨trivial, by omega⟩, decide_eq_true (by omega)⟩, decide_eq_true (by omega)⟩
theorem tiny_pair {i j : Int} (h : i.natAbs < 2 ^ 60) (g : j.natAbs < 2 ^ 60) : tinyD (.tuple [.int i, .int j]) = true := by
  have h1 := log_lt h (by decide)
  have g1 := log_lt g (by decide)
  unfold tinyD
  simp only [plainD, plainDs, PyData.showable, PyData.showableAll, siz, sizs, PyData.depth, PyData.depthAll, Bool.and_eq_true, decide_eq_true_eq]
  simp
  exact ⟨by omega, decide_eq_true (by omega)⟩
theorem abs60 {i : Int} {n : Nat} (h : i.natAbs < n) (g : n ≤ 2 ^ 60) : i.natAbs < 2 ^ 60 := Nat.lt_of_lt_of_le h g
section
variable {P : Program} {w : World} {K : PySem.W.Frag} {mg : Str → Option Value} {base : Heap}
theorem scLInt : FnScope ["pile", "kind"] ["pile"] (defScope sLInt) := ⟨rfl, rfl, rfl, by decide +kernel, rfl, by decide +kernel, by decide +kernel⟩
theorem ok_integer {f fT : Addr} {fd fdT : FuncData} (F : Fun K "_law_integer" "_law_integer" sLInt f fd) (GT : FnOk P w K mg base CX0 2 fT fdT ["pile", "many"] spTake) (gT : mg "_law_take" = some (.ref fT)) (kT : PySem.W.keepIn K (.ref fT) = true)
    (bT : Binds K fdT ["pile", "many"] []) : FnOk P w K mg base CX0 3 f fd ["pile"] (spDraw K) := by
  refine F.ok scLInt (fun vs H Q E h => ?_) (fun cdv A outer s H vs Q E hr h => ?_)
  · obtain ⟨p, b, L, rfl, _⟩ := h
    rfl
  · obtain ⟨p, b, L, rfl, hp, hL, q⟩ := h
    refine ⟨_, pss_cons (ps_set (i := 1) scLInt.nd rfl (Or.inl rfl) (pe_call GT hr rfl gT kT bT .nil pass0 (pa_cons (pv 0) (pa_cons pe_int pa_nil))))
      (pss_cons (ps_if (pt_cmpR op_eq (pv 1) pe_int (nomark _)) (pss_one (ps_ret (pe_op op_sub (pe_call GT hr rfl gT kT bT .nil pass0 (pa_cons (pv 0) (pa_cons pe_int pa_nil))) pe_int))) pss_nil)
      (pss_cons (ps_if (pt_cmpR op_eq (pv 1) pe_int (nomark _)) (pss_one (ps_ret (pe_op op_sub (pe_call GT hr rfl gT kT bT .nil pass0 (pa_cons (pv 0) (pa_cons pe_int pa_nil))) pe_int))) pss_nil)
      (pss_one (ps_ret (pe_op op_sub (pe_call GT hr rfl gT kT bT .nil pass0 (pa_cons (pv 0) (pa_cons pe_int pa_nil))) pe_int))))), ?_⟩
    have fin : ∀ {H1 H2 : Hp} {L2 : List V} {r n m : Int}, 0 ≤ r → r < n → n ≤ 10 ^ 15 → 0 ≤ m → m ≤ 10 ^ 15 → But p H H1 → But p H1 H2 → H2 p = some (.lst L2) → Pile b L2 → Q (.int (r - m)) H2 := fun {H1 H2 L2 r n m} r0 r1 hn m0 hm b1 b2 h2 hl2 => q _ _ L2 H2 (.int _) (tiny_int (abs60 (n := 10 ^ 15 + 1) (by omega) (by decide))) (b1.trans b2) h2 hl2
    refine ⟨_, rfl, p, _, b, L, rfl, (by decide), (by decide +kernel), hp, hL, fun r L1 H1 r0 r1 hL1 b1 hp1 => ?_⟩
    refine ⟨_, rfl, rfl, _, rfl, ite2 (fun h => ?_) (fun h => ?_)⟩
    · exact ⟨_, rfl, p, _, b, L1, rfl, (by decide), (by decide +kernel), hp1, hL1, fun r L2 H2 r0 r1 hL2 b2 hp2 => ⟨_, _, rfl, rfl, fin r0 r1 (by decide) (by decide) (by decide) b1 b2 hp2 hL2⟩⟩
    · refine ⟨_, rfl, rfl, _, rfl, ite2 (fun h => ?_) (fun h => ?_)⟩
      · exact ⟨_, rfl, p, _, b, L1, rfl, (by decide), (by decide +kernel), hp1, hL1, fun r L2 H2 r0 r1 hL2 b2 hp2 => ⟨_, _, rfl, rfl, fin r0 r1 (by decide) (by decide) (by decide) b1 b2 hp2 hL2⟩⟩
      · exact ⟨_, rfl, p, _, b, L1, rfl, (by decide), (by decide +kernel), hp1, hL1, fun r L2 H2 r0 r1 hL2 b2 hp2 => ⟨_, _, rfl, rfl, fin r0 r1 (by decide) (by decide) (by decide) b1 b2 hp2 hL2⟩⟩
/-- odd things as draws -/
theorem ok_oddD {f : Addr} {fd : FuncData} (F : FnOk P w K mg base CX0 3 f fd ["pile"] spOdd) : FnOk P w K mg base CX0 3 f fd ["pile"] (spDraw K) where
  len := fun vs H Q E h => by
    obtain ⟨p, b, L, rfl, _⟩ := h
    rfl
  run := fun A outer s H args us vs Q E hr e0 hb rel h => by
    refine F.run A outer s H args us vs Q E hr e0 hb rel ?_
    obtain ⟨p, b, L, rfl, hp, hL, q⟩ := h
    refine ⟨p, b, L, rfl, hp, hL, fun j v L' H' ho new hb hp' hL' => q v (oddD j) L' H' (odd_rd (odd_part ho fun t o e ht => ?_)) (odd_small j (odd_lt ho)) hb hp' hL'⟩
    rw [newer_at (new t e)]
    exact ht
/-! ### a thing that is no fraction, mostly -/
def wrongD : Nat → PyData
  | 0 => .tuple [.int 2, .int 4]
  | 1 => .tuple [.int 1, .int 0]
  | 2 => .tuple [.int 1, .int (-2)]
  | 3 => .tuple [.bool true, .int 2]
  | 4 => .tuple [.int 0, .int 3]
  | 5 => .int 1
  | 6 => .none
  | 7 => .list [.int 1, .int 2]
  | 8 => .tuple [.int 1, .int 2, .int 3]
  | 9 => .str "1/2"
  | 10 => .tuple [.int 1, .bool true]
  | 11 => .tuple []
  | 12 => .tuple [.str "1", .int 2]
  | 13 => .tuple [.bool false, .int 1]
  | 14 => .tuple [.int 0, .bool true]
  | _ => .tuple [.bool false, .bool true]
def wrongItems (t0 t1 t2 t3 t4 t5 t6 t7 t8 t9 t10 t11 t12 : Addr) : List V := [.ref t0, .ref t1, .ref t2, .ref t3, .ref t4, .int 1, .non, .ref t5, .ref t6, .str "1/2", .ref t7, .ref t8, .ref t9, .ref t10, .ref t11, .ref t12]
theorem wrong_of {K : PySem.W.Frag} {H : Hp} {t0 t1 t2 t3 t4 t5 t6 t7 t8 t9 t10 t11 t12 : Addr} (et0 : H t0 = some (.tup [.int 2, .int 4])) (et1 : H t1 = some (.tup [.int 1, .int 0])) (et2 : H t2 = some (.tup [.int 1, .int (-2)])) (et3 : H t3 = some (.tup [.bl true, .int 2])) (et4 : H t4 = some (.tup [.int 0, .int 3])) (et5 : H t5 = some (.lst [.int 1, .int 2])) (et6 : H t6 = some (.tup [.int 1, .int 2, .int 3])) (et7 : H t7 = some (.tup [.int 1, .bl true])) (et8 : H t8 = some (.tup [])) (et9 : H t9 = some (.tup [.str "1", .int 2])) (et10 : H t10 = some (.tup [.bl false, .int 1])) (et11 : H t11 = some (.tup [.int 0, .bl true])) (et12 : H t12 = some (.tup [.bl false, .bl true])) : ∀ (j : Nat) (v : V), (wrongItems t0 t1 t2 t3 t4 t5 t6 t7 t8 t9 t10 t11 t12)[j]? = some v → RD K H v (wrongD j)
  | 0, _, e => by cases e; exact .tup (SqT.of et0) (.cons (.int _) (.cons (.int _) .nil))
  | 1, _, e => by cases e; exact .tup (SqT.of et1) (.cons (.int _) (.cons (.int _) .nil))
  | 2, _, e => by cases e; exact .tup (SqT.of et2) (.cons (.int _) (.cons (.int _) .nil))
  | 3, _, e => by cases e; exact .tup (SqT.of et3) (.cons (.bl _) (.cons (.int _) .nil))
  | 4, _, e => by cases e; exact .tup (SqT.of et4) (.cons (.int _) (.cons (.int _) .nil))
  | 5, _, e => by cases e; exact (.int _)
  | 6, _, e => by cases e; exact .non
  | 7, _, e => by cases e; exact .lst (SqL.of et5) (.cons (.int _) (.cons (.int _) .nil))
  | 8, _, e => by cases e; exact .tup (SqT.of et6) (.cons (.int _) (.cons (.int _) (.cons (.int _) .nil)))
  | 9, _, e => by cases e; exact (.str _)
  | 10, _, e => by cases e; exact .tup (SqT.of et7) (.cons (.int _) (.cons (.bl _) .nil))
  | 11, _, e => by cases e; exact .tup (SqT.of et8) .nil
  | 12, _, e => by cases e; exact .tup (SqT.of et9) (.cons (.str _) (.cons (.int _) .nil))
  | 13, _, e => by cases e; exact .tup (SqT.of et10) (.cons (.bl _) (.cons (.int _) .nil))
  | 14, _, e => by cases e; exact .tup (SqT.of et11) (.cons (.int _) (.cons (.bl _) .nil))
  | 15, _, e => by cases e; exact .tup (SqT.of et12) (.cons (.bl _) (.cons (.bl _) .nil))
  | n + 16, _, e => by cases e
theorem wrong_small : ∀ j < 16, tinyD (wrongD j) = true := by decide +kernel
theorem scWrong : FnScope ["pile", "some"] ["pile"] (defScope sWrong) := ⟨rfl, rfl, rfl, by decide +kernel, rfl, by decide +kernel, by decide +kernel⟩
theorem ok_wrong {f fT : Addr} {fd fdT : FuncData} (F : Fun K "_law_wrong_fraction" "_law_wrong_fraction" sWrong f fd) (GT : FnOk P w K mg base CX0 2 fT fdT ["pile", "many"] spTake) (gT : mg "_law_take" = some (.ref fT)) (kT : PySem.W.keepIn K (.ref fT) = true)
    (bT : Binds K fdT ["pile", "many"] []) : FnOk P w K mg base CX0 3 f fd ["pile"] (spDraw K) := by
  refine F.ok scWrong (fun vs H Q E h => ?_) (fun cdv A outer s H vs Q E hr h => ?_)
  · obtain ⟨p, b, L, rfl, _⟩ := h
    rfl
  · obtain ⟨p, b, L, rfl, hp, hL, q⟩ := h
    refine ⟨_, pss_cons (ps_set (i := 1) scWrong.nd rfl (Or.inl rfl) (pe_lst
        (pa_cons (pe_tup (pa_cons pe_int (pa_cons pe_int pa_nil)))
        (pa_cons (pe_tup (pa_cons pe_int (pa_cons pe_int pa_nil)))
        (pa_cons (pe_tup (pa_cons pe_int (pa_cons (pe_un un_neg pe_int) pa_nil)))
        (pa_cons (pe_tup (pa_cons pe_bl (pa_cons pe_int pa_nil)))
        (pa_cons (pe_tup (pa_cons pe_int (pa_cons pe_int pa_nil)))
        (pa_cons pe_int (pa_cons pe_non
        (pa_cons (pe_lst (pa_cons pe_int (pa_cons pe_int pa_nil)))
        (pa_cons (pe_tup (pa_cons pe_int (pa_cons pe_int (pa_cons pe_int pa_nil))))
        (pa_cons pe_str
        (pa_cons (pe_tup (pa_cons pe_int (pa_cons pe_bl pa_nil)))
        (pa_cons (pe_tup pa_nil)
        (pa_cons (pe_tup (pa_cons pe_str (pa_cons pe_int pa_nil))) pa_nil)))))))))))))))
      (pss_one (ps_ret (pe_ix ix_list (pe_op op_cat (pv 1) (pe_lst (pa_cons (pe_tup (pa_cons pe_bl (pa_cons pe_int pa_nil))) (pa_cons (pe_tup (pa_cons pe_int (pa_cons pe_bl pa_nil))) (pa_cons (pe_tup (pa_cons pe_bl (pa_cons pe_bl pa_nil))) pa_nil)))))
        (pe_call GT hr rfl gT kT bT .nil pass0 (pa_cons (pv 0) (pa_cons pe_int pa_nil))) (fun _ _ => rfl)))), ?_⟩
    refine ⟨(by show 2 ≤ sizeLine; decide), fun t0 ht0 => ⟨(by show 2 ≤ sizeLine; decide), fun t1 ht1 => ⟨_, rfl, (by show 2 ≤ sizeLine; decide), fun t2 ht2 => ⟨(by show 2 ≤ sizeLine; decide), fun t3 ht3 => ⟨(by show 2 ≤ sizeLine; decide), fun t4 ht4 => ⟨(by show 2 ≤ sizeLine; decide), fun t5 ht5 => ⟨(by show 3 ≤ sizeLine; decide), fun t6 ht6 => ⟨(by show 2 ≤ sizeLine; decide), fun t7 ht7 => ⟨(by show 0 ≤ sizeLine; decide), fun t8 ht8 => ⟨(by show 2 ≤ sizeLine; decide), fun t9 ht9 => ⟨(by show 13 ≤ sizeLine; decide), fun l1 hl1 => ⟨_, rfl, (by show 2 ≤ sizeLine; decide), fun t10 ht10 => ⟨(by show 2 ≤ sizeLine; decide), fun t11 ht11 => ⟨(by show 2 ≤ sizeLine; decide), fun t12 ht12 => ⟨(by show 3 ≤ sizeLine; decide), fun l2 hl2 => ⟨l1, l2, _, _, rfl, rfl, (((((same_new ht10).trans (same_new ht11)).trans (same_new ht12)).trans (same_new hl2)) _ _ upd_same), upd_same, (by show 16 ≤ sizeLine; decide), fun l3 hl3 => ?_⟩⟩⟩⟩⟩⟩⟩⟩⟩⟩⟩⟩⟩⟩⟩⟩
    have st0 := same_new (o := .tup [.int 2, .int 4]) ht0
    have st1 := same_new (o := .tup [.int 1, .int 0]) ht1
    have st2 := same_new (o := .tup [.int 1, .int (-2)]) ht2
    have st3 := same_new (o := .tup [.bl true, .int 2]) ht3
    have st4 := same_new (o := .tup [.int 0, .int 3]) ht4
    have st5 := same_new (o := .lst [.int 1, .int 2]) ht5
    have st6 := same_new (o := .tup [.int 1, .int 2, .int 3]) ht6
    have st7 := same_new (o := .tup [.int 1, .bl true]) ht7
    have st8 := same_new (o := .tup []) ht8
    have st9 := same_new (o := .tup [.str "1", .int 2]) ht9
    have sl1 := same_new (o := .lst [.ref t0, .ref t1, .ref t2, .ref t3, .ref t4, .int 1, .non, .ref t5, .ref t6, .str "1/2", .ref t7, .ref t8, .ref t9]) hl1
    have st10 := same_new (o := .tup [.bl false, .int 1]) ht10
    have st11 := same_new (o := .tup [.int 0, .bl true]) ht11
    have st12 := same_new (o := .tup [.bl false, .bl true]) ht12
    have sl2 := same_new (o := .lst [.ref t10, .ref t11, .ref t12]) hl2
    have sl3 := same_new (o := .lst (wrongItems t0 t1 t2 t3 t4 t5 t6 t7 t8 t9 t10 t11 t12)) hl3
    have p0 : Same H H := fun _ _ e => e
    have nt0 := p0.free ht0
    have p1 := p0.trans st0
    have nt1 := p1.free ht1
    have p2 := p1.trans st1
    have nt2 := p2.free ht2
    have p3 := p2.trans st2
    have nt3 := p3.free ht3
    have p4 := p3.trans st3
    have nt4 := p4.free ht4
    have p5 := p4.trans st4
    have nt5 := p5.free ht5
    have p6 := p5.trans st5
    have nt6 := p6.free ht6
    have p7 := p6.trans st6
    have nt7 := p7.free ht7
    have p8 := p7.trans st7
    have nt8 := p8.free ht8
    have p9 := p8.trans st8
    have nt9 := p9.free ht9
    have p10 := p9.trans st9
    have nl1 := p10.free hl1
    have p11 := p10.trans sl1
    have nt10 := p11.free ht10
    have p12 := p11.trans st10
    have nt11 := p12.free ht11
    have p13 := p12.trans st11
    have nt12 := p13.free ht12
    have p14 := p13.trans st12
    have nl2 := p14.free hl2
    have p15 := p14.trans sl2
    have nl3 := p15.free hl3
    have p16 := p15.trans sl3
    have z14 := sl3
    have z13 := sl2.trans z14
    have z12 := st12.trans z13
    have z11 := st11.trans z12
    have z10 := st10.trans z11
    have z9 := sl1.trans z10
    have z8 := st9.trans z9
    have z7 := st8.trans z8
    have z6 := st7.trans z7
    have z5 := st6.trans z6
    have z4 := st5.trans z5
    have z3 := st4.trans z4
    have z2 := st3.trans z3
    have z1 := st2.trans z2
    have z0 := st1.trans z1
    have ne : ∀ t, H t = none → t ≠ p := fun t z => (ne_of_none hp z).symm
    refine ⟨_, rfl, p, _, b, L, rfl, (by decide), (by decide +kernel), p16 _ _ hp, hL, fun r L' H' r0 r1 hL' hb hp' => ?_⟩
    obtain ⟨j, rfl⟩ : ∃ j : Nat, r = (j : Int) := ⟨r.toNat, by omega⟩
    have hj : j < (wrongItems t0 t1 t2 t3 t4 t5 t6 t7 t8 t9 t10 t11 t12).length := by
      show j < 16
      omega
    have hz : (wrongItems t0 t1 t2 t3 t4 t5 t6 t7 t8 t9 t10 t11 t12)[j]? = some (wrongItems t0 t1 t2 t3 t4 t5 t6 t7 t8 t9 t10 t11 t12)[j] := List.getElem?_eq_getElem hj
    have w1 := wrong_of (K := K) (H := newer H H') ((newer_at nt0).trans (hb _ _ (ne _ nt0) (z0 _ _ upd_same))) ((newer_at nt1).trans (hb _ _ (ne _ nt1) (z1 _ _ upd_same))) ((newer_at nt2).trans (hb _ _ (ne _ nt2) (z2 _ _ upd_same))) ((newer_at nt3).trans (hb _ _ (ne _ nt3) (z3 _ _ upd_same))) ((newer_at nt4).trans (hb _ _ (ne _ nt4) (z4 _ _ upd_same))) ((newer_at nt5).trans (hb _ _ (ne _ nt5) (z5 _ _ upd_same))) ((newer_at nt6).trans (hb _ _ (ne _ nt6) (z6 _ _ upd_same))) ((newer_at nt7).trans (hb _ _ (ne _ nt7) (z7 _ _ upd_same))) ((newer_at nt8).trans (hb _ _ (ne _ nt8) (z8 _ _ upd_same))) ((newer_at nt9).trans (hb _ _ (ne _ nt9) (z9 _ _ upd_same))) ((newer_at nt10).trans (hb _ _ (ne _ nt10) (z11 _ _ upd_same))) ((newer_at nt11).trans (hb _ _ (ne _ nt11) (z12 _ _ upd_same))) ((newer_at nt12).trans (hb _ _ (ne _ nt12) (z13 _ _ upd_same))) j _ hz
    exact ⟨l3, _, _, _, rfl, rfl, SqL.of (hb _ _ (ne _ nl3) upd_same), atI_nat hz, q _ _ L' H' w1 (wrong_small j hj) ((same_but p16).trans hb) hp' hL'⟩
theorem scLFra : FnScope ["pile", "kind", "top"] ["pile"] (defScope sLFra) := ⟨rfl, rfl, rfl, by decide +kernel, rfl, by decide +kernel, by decide +kernel⟩
theorem ok_fra {f fT fL : Addr} {fd fdT fdL : FuncData} (F : Fun K "_law_fraction" "_law_fraction" sLFra f fd) (GT : FnOk P w K mg base CX0 2 fT fdT ["pile", "many"] spTake) (gT : mg "_law_take" = some (.ref fT)) (kT : PySem.W.keepIn K (.ref fT) = true)
    (bT : Binds K fdT ["pile", "many"] []) (GL : FnOk P w K mg base CX0 2 fL fdL ["top", "bottom"] spLowest) (gL : mg "_law_lowest" = some (.ref fL)) (kL : PySem.W.keepIn K (.ref fL) = true) (bL : Binds K fdL ["top", "bottom"] []) : FnOk P w K mg base CX0 3 f fd ["pile"] (spDraw K) := by
  refine F.ok scLFra (fun vs H Q E h => ?_) (fun cdv A outer s H vs Q E hr h => ?_)
  · obtain ⟨p, b, L, rfl, _⟩ := h
    rfl
  · obtain ⟨p, b, L, rfl, hp, hL, q⟩ := h
    refine ⟨_, pss_cons (ps_set (i := 1) scLFra.nd rfl (Or.inl rfl) (pe_call GT hr rfl gT kT bT .nil pass0 (pa_cons (pv 0) (pa_cons pe_int pa_nil))))
      (pss_cons (ps_set (i := 2) scLFra.nd rfl (Or.inl rfl) (pe_op op_sub (pe_call GT hr rfl gT kT bT .nil pass0 (pa_cons (pv 0) (pa_cons pe_int pa_nil))) pe_int))
      (pss_cons (ps_if (PW.pt (pw_and (pt_val (pe_ix ix_list (pv 0) pe_int (fun _ _ => rfl))) (pw_and1 (pt_cmpR op_eq (pv 1) pe_int (nomark _)))))
        (pss_one (ps_set (i := 2) scLFra.nd rfl (Or.inl rfl) (pe_op op_sub (pe_call GT hr rfl gT kT bT .nil pass0 (pa_cons (pv 0) (pa_cons (pe_op op_pow pe_int pe_int) pa_nil))) (pe_op op_mul pe_int (pe_op op_pow pe_int pe_int))))) pss_nil)
      (pss_one (ps_ret (pe_call GL hr rfl gL kL bL .nil pass0 (pa_cons (pv 2) (pa_cons (pe_ix ix_list (pe_lst (pa_cons pe_int (pa_cons pe_int (pa_cons pe_int (pa_cons pe_int (pa_cons (pe_op op_add pe_int (pe_call GT hr rfl gT kT bT .nil pass0 (pa_cons (pv 0) (pa_cons pe_int pa_nil)))) (pa_cons (pe_op op_add pe_int (pe_call GT hr rfl gT kT bT .nil pass0 (pa_cons (pv 0) (pa_cons pe_int pa_nil)))) pa_nil)))))))
        (pv 1) (fun _ _ => rfl)) pa_nil))))))), ?_⟩
    refine ⟨_, rfl, p, _, b, L, rfl, (by decide), (by decide +kernel), hp, hL, fun r L1 H1 r0 r1 hL1 b1 hp1 => ?_⟩
    refine ⟨_, rfl, p, _, b, L1, rfl, (by decide), (by decide +kernel), hp1, hL1, fun u L2 H2 u0 u1 hL2 b2 hp2 => ⟨_, _, rfl, rfl, ?_⟩⟩
    obtain ⟨j, rfl⟩ : ∃ j : Nat, r = (j : Int) := ⟨r.toNat, by omega⟩
    have hL2' := hL2
    obtain ⟨d, m, c, eL2, d0, d1, m0, m1⟩ := hL2'
    refine ⟨_, rfl, p, _, _, _, rfl, rfl, SqL.of hp2, (by rw [eL2]; exact atI_nat (j := 3) rfl), _, rfl, ?_⟩
    have tail : ∀ {H3 H4 H5 : Hp} {L5 : List V} {t n : Int} {l : Addr} {zs : List V}, t.natAbs ≤ 10 ^ 13 → 1 ≤ n → n ≤ 20 → But p H H3 → But p H3 H4 → But p H4 H5 → H5 p = some (.lst L5) → Pile b L5 → H5 l = none →
        n ≠ 0 ∧ n.natAbs < 2 ^ 8000 ∧ ∀ q1, (upd H5 l (.lst zs)) q1 = none → Q (.ref q1) (upd (upd H5 l (.lst zs)) q1 (.tup [.int (low t n).1, .int (low t n).2])) := by
      intro H3 H4 H5 L5 t n l zs ht n1 n2 b3 b4 b5 hp5 hL5 hl
      have n0 : n ≠ 0 := by omega
      refine ⟨n0, up_sz (m := 60) (abs60 (n := 21) (by omega) (by decide)) (by decide), fun q1 hq1 => ?_⟩
      have s5 := (same_new (o := .lst zs) hl).trans (same_new (o := .tup [.int (low t n).1, .int (low t n).2]) hq1)
      have nq : H q1 = none := by
        cases z : H q1 with
        | none => rfl
        | some o =>
          by_cases e : q1 = p
          · rw [e] at hq1
            rw [(same_new (o := .lst zs) hl) _ _ hp5] at hq1
            cases hq1
          · rw [(same_new (o := .lst zs) hl) _ _ (((b3.trans b4).trans b5) _ _ e z)] at hq1
            cases hq1
      have a1 := low_abs1 (t := t) (b := n)
      have a2 := low_abs2 (t := t) (b := n)
      exact q _ _ L5 _ (.tup (SqT.of ((newer_at nq).trans upd_same)) (.cons (.int _) (.cons (.int _) .nil))) (tiny_pair (abs60 (n := 10 ^ 13 + 1) (by omega) (by decide)) (abs60 (n := 21) (by omega) (by decide))) (((b3.trans b4).trans b5).trans (same_but s5)) (s5 _ _ hp5) hL5
    have pick : ∀ (x y : Int), 0 ≤ x → x < 9 → 0 ≤ y → y < 9 → ∃ n : Int, ([V.int 1, .int 1, .int 1, .int 2, .int (1 + x), .int (1 + y)])[j]? = some (.int n) ∧ 1 ≤ n ∧ n ≤ 20 := by
      intro x y x0 x1 y0 y1
      match j, r1 with
      | 0, _ => exact ⟨1, rfl, by decide, by decide⟩
      | 1, _ => exact ⟨1, rfl, by decide, by decide⟩
      | 2, _ => exact ⟨1, rfl, by decide, by decide⟩
      | 3, _ => exact ⟨2, rfl, by decide, by decide⟩
      | 4, _ => exact ⟨1 + x, rfl, by omega, by omega⟩
      | 5, _ => exact ⟨1 + y, rfl, by omega, by omega⟩
      | k + 6, h => exact absurd h (by omega)
    cases b with
    | false =>
      refine ⟨_, rfl, _, rfl, p, _, false, _, rfl, (by decide), (by decide +kernel), hp2, hL2, fun x L4 H4 x0 x1 hL4 b4 hp4 => ⟨_, _, rfl, rfl, _, rfl, p, _, false, _, rfl, (by decide), (by decide +kernel), hp4, hL4, fun y L5 H5 y0 y1 hL5 b5 hp5 => ⟨_, _, rfl, rfl, (by show 6 ≤ sizeLine; decide), fun l hl => ?_⟩⟩⟩
      obtain ⟨n, en, n1, n2⟩ := pick x y x0 x1 y0 y1
      exact ⟨_, rfl, l, _, _, _, rfl, rfl, SqL.of upd_same, atI_nat en, _, _, rfl, tail (by omega) n1 n2 (b1.trans b2) b4 b5 hp5 hL5 hl⟩
    | true =>
      refine ⟨_, rfl, rfl, _, rfl, ite2 (fun h => ?_) (fun h => ?_)⟩
      · refine ⟨_, rfl, _, _, rfl, rfl, ⟨by decide, by decide, by decide⟩, p, _, true, _, rfl, (by decide +kernel), (by decide +kernel), hp2, hL2, fun t L3 H3 t0 t1 hL3 b3 hp3 => ⟨_, _, rfl, rfl, ⟨by decide, by decide, by decide⟩, _, _, rfl, rfl, .inl ⟨by decide, by decide⟩, _, _, rfl, rfl, ?_⟩⟩
        have e12 : (10 : Int) ^ (12 : Int).toNat = 1000000000000 := by decide +kernel
        have e11 : (5 : Int) * (10 : Int) ^ (11 : Int).toNat = 500000000000 := by decide +kernel
        rw [e12] at t1
        rw [e11]
        refine ⟨_, rfl, _, rfl, p, _, true, _, rfl, (by decide), (by decide +kernel), hp3, hL3, fun x L4 H4 x0 x1 hL4 b4 hp4 => ⟨_, _, rfl, rfl, _, rfl, p, _, true, _, rfl, (by decide), (by decide +kernel), hp4, hL4, fun y L5 H5 y0 y1 hL5 b5 hp5 => ⟨_, _, rfl, rfl, (by show 6 ≤ sizeLine; decide), fun l hl => ?_⟩⟩⟩
        obtain ⟨n, en, n1, n2⟩ := pick x y x0 x1 y0 y1
        exact ⟨_, rfl, l, _, _, _, rfl, rfl, SqL.of upd_same, atI_nat en, _, _, rfl, tail (by omega) n1 n2 ((b1.trans b2).trans b3) b4 b5 hp5 hL5 hl⟩
      · refine ⟨_, rfl, _, rfl, p, _, true, _, rfl, (by decide), (by decide +kernel), hp2, hL2, fun x L4 H4 x0 x1 hL4 b4 hp4 => ⟨_, _, rfl, rfl, _, rfl, p, _, true, _, rfl, (by decide), (by decide +kernel), hp4, hL4, fun y L5 H5 y0 y1 hL5 b5 hp5 => ⟨_, _, rfl, rfl, (by show 6 ≤ sizeLine; decide), fun l hl => ?_⟩⟩⟩
        obtain ⟨n, en, n1, n2⟩ := pick x y x0 x1 y0 y1
        exact ⟨_, rfl, l, _, _, _, rfl, rfl, SqL.of upd_same, atI_nat en, _, _, rfl, tail (by omega) n1 n2 (b1.trans b2) b4 b5 hp5 hL5 hl⟩
end
end Paw

set_option maxRecDepth 100000
set_option maxHeartbeats 4000000
namespace Paw
open PySem PySem.Spec PyProof.Rows L2
abbrev sCaught : Stmt := top 27
abbrev sDue : Stmt := top 28
/-! ### xs != [] -/
def rNeNil (K : PySem.W.Frag) : R2 := fun x y H Q => ∃ (a b : Addr) (xs : List V), x = .ref a ∧ y = .ref b ∧ SqL K H a xs ∧ SqL K H b [] ∧ Q (.bl (!xs.isEmpty)) H
theorem op_neNil {X : Cx} (hu : X.A.units < cLine) : OpR X (compareOp .NotEq) (rNeNil X.K) := by
  intro pins s σ H x y v u Q I rx ry h
  obtain ⟨a, b, xs, rfl, rfl, ha, hb, q⟩ := h
  obtain rfl : v = Value.ref a := rx
  obtain rfl : u = Value.ref b := ry
  obtain ⟨its, r1, p1, _⟩ := I.list ha
  obtain ⟨its2, r2, p2, _⟩ := I.list hb
  cases r2
  cases r1 with
  | nil => exact SeqAt.RcNeAt.lists (e := fun _ => true) p1.isList p2.isList rfl hu (fun j h1 _ => absurd h1 (Nat.not_lt_zero _)) _ _ _ _ ⟨.bl _, H, I, rfl, q⟩
  | cons r1 rs => exact SeqAt.RcNeAt.lists_lengths p1.isList p2.isList (by simp) hu _ _ _ _ ⟨.bl _, H, I, rfl, q⟩
/-! ### what a call of one of the three must give -/
def bad0 : List V → List PyData → Option V
  | x :: xs, d :: ds => if isI d then (match xs, ds with
    | y :: _, e :: _ => if okB e then none else some y
    | _, _ => none) else some x
  | _, _ => none
def good0 : List PyData → Int × Int
  | [.int t] => low t 1
  | [.int t, .int b] => low t b
  | _ => (0, 1)
def badOf (n : Nat) (xs : List V) (ds : List PyData) : Option V := if n = 0 then bad0 xs ds else firstBad xs ds
def goodOf (n : Nat) (ds : List PyData) : Int × Int := if n = 0 then good0 ds else if n = 1 then foldS stepT ds 0 1 else foldS stepP ds 1 1
structure Fine (n : Nat) (ds : List PyData) : Prop where
  most : ds.length ≤ 4
  some0 : n = 0 → ds.length = 1 ∨ ds.length = 2
  tiny : ∀ d ∈ ds, tinyD d = true
def Said (H : Hp) (p : Addr) (n : Nat) (xs : List V) (ds : List PyData) : Prop := (∀ v, badOf n xs ds = some v → H p = some (.lst [.str "wrong", v])) ∧
  (badOf n xs ds = none → ∃ q, H p = some (.lst [.str "told", .ref q]) ∧ H q = some (.tup [.int (goodOf n ds).1, .int (goodOf n ds).2]))
def spAll (K : PySem.W.Frag) (C : Addr) (n : Nat) : Sp := fun vs H Q E => ∃ ds : List PyData, RDs K H vs ds ∧ Fine n ds ∧ (∀ v, badOf n vs ds = some v → Thrown "value" C v H E) ∧
  (badOf n vs ds = none → ∀ (q : Addr) (H' : Hp), Same H H' → H q = none → H' q = some (.tup [.int (goodOf n ds).1, .int (goodOf n ds).2]) → Q (.ref q) H')
def spCaught (K : PySem.W.Frag) : Sp := fun vs H Q _ => ∃ (n : Nat) (l : Addr) (xs : List V) (ds : List PyData), vs = [.int (n : Int), .ref l] ∧ n < 3 ∧ SqL K H l xs ∧ RDs K H xs ds ∧ Fine n ds ∧ ∀ (H' : Hp) (p : Addr), Same H H' → H p = none → Said H' p n xs ds → Q (.ref p) H'
theorem tiny_log {t b : Int} (h : tinyD (.tuple [.int t, .int b]) = true) : t.natAbs.log2 < 200 ∧ b.natAbs.log2 < 200 := by
  unfold tinyD at h
  simp only [Bool.and_eq_true] at h
  have h2 := of_decide_eq_true h.1.2
  simp only [siz, sizs] at h2
  omega
theorem lt_log {i : Int} {n : Nat} (h : i.natAbs.log2 < n) : i.natAbs < 2 ^ n := by
  by_cases z : i.natAbs = 0
  · rw [z]
    exact Nat.pow_pos (by decide)
  · exact (Nat.log2_lt z).mp h
theorem tiny_sz {d : PyData} (h : tinyD d = true) : szD d := by
  unfold szD
  split
  · have := tiny_log h
    exact ⟨up_sz (lt_log this.1) (by decide), up_sz (lt_log this.2) (by decide)⟩
  · trivial
theorem tiny_int_log {b : Int} (h : tinyD (.int b) = true) : b.natAbs < 2 ^ 200 := by
  unfold tinyD at h
  simp only [Bool.and_eq_true] at h
  have h2 := of_decide_eq_true h.1.2
  simp only [siz] at h2
  exact lt_log (by omega)
section
variable {P : Program} {w : World} {K : PySem.W.Frag} {mg : Str → Option Value} {base : Heap}
theorem FnR.up {CX : CXT} {j k : Nat} {f : Addr} {sp : Sp} (F : FnR P w K mg base CX j f sp) (h : j ≤ k) : FnR P w K mg base CX k f sp := fun A outer s H us vs Q E hr e0 r q => F A outer s H us vs Q E (hr.mono h) e0 r q
theorem all_total {C f : Addr} (F : FnR P w K mg base (L2.CX P w) 4 f (spSum K C stepT 0)) : FnR P w K mg base (L2.CX P w) 4 f (spAll K C 1) :=
  FnR.weaken F fun vs H Q E ⟨ds, hds, fine, bad, good⟩ => ⟨ds, hds, hds.length ▸ fine.most, fun d hd => tiny_sz (fine.tiny d hd), bad, good⟩
theorem all_product {C f : Addr} (F : FnR P w K mg base (L2.CX P w) 4 f (spSum K C stepP 1)) : FnR P w K mg base (L2.CX P w) 4 f (spAll K C 2) :=
  FnR.weaken F fun vs H Q E ⟨ds, hds, fine, bad, good⟩ => ⟨ds, hds, hds.length ▸ fine.most, fun d hd => tiny_sz (fine.tiny d hd), bad, good⟩
theorem all_fraction {C f : Addr} {fd : FuncData} {ds1 : List Value} (F : FnOk P w K mg base (L2.CX P w) 3 f fd ["top", "bottom"] (spFraction K C)) (b1 : Binds K fd ["top", "bottom"] ds1) (v1 : Vals [V.int 1] ds1) (b0 : Binds K fd ["top", "bottom"] []) : FnR P w K mg base (L2.CX P w) 4 f (spAll K C 0) := by
  intro A outer s H us vs Q E hr e0 r h
  have hr3 : Room 3 A := hr.mono (by decide)
  obtain ⟨ds, hds, fine, bad, good⟩ := h
  have hl := hds.length
  have isInt : ∀ {x : V} {d : PyData}, RD K H x d → isI d = true → ∃ t, x = .int t ∧ d = .int t := by
    intro x d hd hi
    cases hd <;> first | exact ⟨_, rfl, rfl⟩ | cases hi
  rcases fine.some0 rfl with z | z
  · obtain ⟨d, rfl⟩ := List.length_eq_one_iff.mp z
    cases hds with
    | @cons x _ _ _ hx hs =>
      cases hs
      refine fnR_of F b1 v1 A outer s H us [x] Q E hr3 e0 r ⟨x, .int 1, d, .int 1, rfl, hx, .int 1, fun hI => bad x ?_, (fun _ h => by cases h), fun t b e1 e2 b0 => ?_⟩
      · show bad0 [x] [d] = some x
        exact if_neg (by rw [hI]; exact Bool.false_ne_true)
      · subst e1
        injection e2 with e2
        subst e2
        exact ⟨by decide, fun q hq => good rfl q _ (same_new hq) hq upd_same⟩
  · match ds, z, hds with
    | [d, e], _, hds =>
      cases hds with
      | @cons x _ _ _ hx hs =>
        cases hs with
        | @cons y _ _ _ hy hs =>
          cases hs
          refine fnR_of F b0 .nil A outer s H us [x, y] Q E hr3 e0 r ⟨x, y, d, e, rfl, hx, hy, fun hI => bad x ?_, fun hI hB => bad y ?_, fun t b e1 e2 nb => ?_⟩
          · show bad0 [x, y] [d, e] = some x
            exact if_neg (by rw [hI]; exact Bool.false_ne_true)
          · show bad0 [x, y] [d, e] = some y
            exact (if_pos hI).trans (if_neg (by rw [hB]; exact Bool.false_ne_true))
          · subst e1
            subst e2
            refine ⟨up_sz (tiny_int_log (fine.tiny _ (by simp))) (by decide), fun q hq => ?_⟩
            refine good ?_ q _ (same_new hq) hq upd_same
            show (if okB (.int b) then none else some y) = none
            exact if_pos (by show (!decide (b = 0)) = true; simp [nb])
def rLenS (K : PySem.W.Frag) : List V → Hp → VK → Prop := fun xs H Q => ∃ (p : Addr) (ys : List V), xs = [.ref p] ∧ (SqL K H p ys ∨ SqT K H p ys) ∧ Q (.int ((ys.length : Nat) : Int)) H
theorem ixK {Y : Cx} (e : Y.K = K) : IxR Y (rIxL K) := e ▸ ix_list
theorem lenK {Y : Cx} (e : Y.K = K) : CallR Y (.builtin "len") (rLenS K) := e ▸ call_len_seq
theorem scCaught : FnScope ["which", "values", "call", "error", "found", "e"] ["which", "values"] (defScope sCaught) := ⟨rfl, rfl, rfl, by decide +kernel, rfl, by decide +kernel, by decide +kernel⟩
/-- where the three stand -/
def fsOf (fF fT fP : Addr) : Nat → Addr
  | 0 => fF
  | 1 => fT
  | _ => fP
def RAll (K : PySem.W.Frag) (C fF fT fP : Addr) (f : Addr) (sp : Sp) : Prop := ∃ n, n < 3 ∧ f = fsOf fF fT fP n ∧ sp = spAll K C n
theorem ok_caught {C f fF fT fP : Addr} {fd : FuncData} (F : Fun K "_law_caught" "_law_caught" sCaught f fd) (T : Kv P w K mg base "NoFraction" "value" C) (te : PySem.W.exmOne K (.ref C) (.ref C) = some true) (zl : mg "len" = none)
    (hA : ∀ n, n < 3 → FnR P w K mg base (L2.CX P w) 4 (fsOf fF fT fP n) (spAll K C n) ∧ PySem.W.keepIn K (.ref (fsOf fF fT fP n)) = true) (gF : mg "fraction" = some (.ref fF)) (gT : mg "total" = some (.ref fT)) (gP : mg "product" = some (.ref fP)) :
    FnOk P w K mg base CX0 5 f fd ["which", "values"] (spCaught K) := by
  refine F.ok scCaught (fun vs H Q E h => ?_) (fun cdv A outer s H vs Q E hr h => ?_)
  · obtain ⟨n, l, xs, ds, rfl, _⟩ := h
    rfl
  · obtain ⟨n, l, xs, ds, rfl, hn, hS, hds, fine, q⟩ := h
    have hC : ∀ g sp, RAll K C fF fT fP g sp → FnR P w K mg base (L2.CX P w) 4 g sp ∧ PySem.W.keepIn K (.ref g) = true := by
      rintro g sp ⟨n, hn, rfl, rfl⟩
      exact hA n hn
    refine ⟨_, pss_cons (ps_set (i := 2) scCaught.nd rfl (Or.inl rfl) (pe_ix ix_list (pe_lst (pa_cons (pe_glob (v := .ref fF) rfl gF rfl) (pa_cons (pe_glob (v := .ref fT) rfl gT rfl) (pa_cons (pe_glob (v := .ref fP) rfl gP rfl) pa_nil)))) (pv 0) (fun _ _ => rfl)))
      (pss_cons (ps_set (i := 3) scCaught.nd rfl (Or.inl rfl) pe_non)
      (pss_cons (ps_set (i := 4) scCaught.nd rfl (Or.inl rfl) pe_non)
      (pss_cons (ps_try_keep (i := 5) rfl rfl rfl scCaught.nd rfl rfl ⟨rfl, by decide, .inl T.g⟩ takes0 (fun W pn xe tk _ => (pss_one (ps_if (pt_cmpR op_eq (pe_callB (lenK (K := K) rfl) (by rfl) zl bt_len (pa_cons (pv 1) pa_nil)) pe_int (nomark _)) (pss_one (ps_set (i := 4) scCaught.nd rfl (Or.inl rfl) (pe_callV0 (i := 2) (R := RAll K C fF fT fP) hC hr (fun σ => passAt tk σ) rfl (Or.inl rfl)))) (pss_one (ps_if (pt_cmpR op_eq (pe_callB (lenK (K := K) rfl) (by rfl) zl bt_len (pa_cons (pv 1) pa_nil)) pe_int (nomark _)) (pss_one (ps_set (i := 4) scCaught.nd rfl (Or.inl rfl) (pe_callV (i := 2) (R := RAll K C fF fT fP) hC hr (fun σ => passAt tk σ) rfl (Or.inl rfl) (pa_cons (pe_ix (ixK (K := K) rfl) (pv 1) pe_int (fun _ _ => rfl)) pa_nil)))) (pss_one (ps_if (pt_cmpR op_eq (pe_callB (lenK (K := K) rfl) (by rfl) zl bt_len (pa_cons (pv 1) pa_nil)) pe_int (nomark _)) (pss_one (ps_set (i := 4) scCaught.nd rfl (Or.inl rfl) (pe_callV (i := 2) (R := RAll K C fF fT fP) hC hr (fun σ => passAt tk σ) rfl (Or.inl rfl) (pa_cons (pe_ix (ixK (K := K) rfl) (pv 1) pe_int (fun _ _ => rfl)) (pa_cons (pe_ix (ixK (K := K) rfl) (pv 1) pe_int (fun _ _ => rfl)) pa_nil))))) (pss_one (ps_if (pt_cmpR op_eq (pe_callB (lenK (K := K) rfl) (by rfl) zl bt_len (pa_cons (pv 1) pa_nil)) pe_int (nomark _)) (pss_one (ps_set (i := 4) scCaught.nd rfl (Or.inl rfl) (pe_callV (i := 2) (R := RAll K C fF fT fP) hC hr (fun σ => passAt tk σ) rfl (Or.inl rfl) (pa_cons (pe_ix (ixK (K := K) rfl) (pv 1) pe_int (fun _ _ => rfl)) (pa_cons (pe_ix (ixK (K := K) rfl) (pv 1) pe_int (fun _ _ => rfl)) (pa_cons (pe_ix (ixK (K := K) rfl) (pv 1) pe_int (fun _ _ => rfl)) pa_nil)))))) (pss_one (ps_set (i := 4) scCaught.nd rfl (Or.inl rfl) (pe_callV (i := 2) (R := RAll K C fF fT fP) hC hr (fun σ => passAt tk σ) rfl (Or.inl rfl) (pa_cons (pe_ix (ixK (K := K) rfl) (pv 1) pe_int (fun _ _ => rfl)) (pa_cons (pe_ix (ixK (K := K) rfl) (pv 1) pe_int (fun _ _ => rfl)) (pa_cons (pe_ix (ixK (K := K) rfl) (pv 1) pe_int (fun _ _ => rfl)) (pa_cons (pe_ix (ixK (K := K) rfl) (pv 1) pe_int (fun _ _ => rfl)) pa_nil)))))))))))))))) (fun a pn => pss_one (ps_set (i := 3) scCaught.nd rfl (Or.inl rfl) (pv 5))))
      (pss_cons (ps_if (pt_cmpR op_notN (pv 3) pe_non (nomark _)) (pss_one (ps_ret (pe_lst (pa_cons pe_str (pa_cons (pe_excFld (pv 3)) pa_nil))))) pss_nil)
      (pss_one (ps_ret (pe_lst (pa_cons pe_str (pa_cons (pv 4) pa_nil))))))))), ?_⟩
    have hpick : atI [V.ref fF, V.ref fT, V.ref fP] (n : Int) = some (.ref (fsOf fF fT fP n)) := by
      match n, hn with
      | 0, _ => exact atI_nat (j := 0) rfl
      | 1, _ => exact atI_nat (j := 1) rfl
      | 2, _ => exact atI_nat (j := 2) rfl
    refine ⟨(by show 3 ≤ sizeLine; decide), fun l1 hl1 => ⟨_, rfl, l1, _, _, _, rfl, rfl, SqL.of upd_same, hpick, ?_⟩⟩
    have s1 := same_new (o := .lst [V.ref fF, V.ref fT, V.ref fP]) hl1
    have hS1 := Same.seq s1 hS
    have hds1 := RDs.mono s1 _ _ hds
    have hl := hds.length
    have many := fine.most
    have finB : ∀ {v : V} {H2 : Hp}, badOf n xs ds = some v → Same H H2 → ∀ p, H2 p = none → Q (.ref p) (upd H2 p (.lst [.str "wrong", v])) := fun {v H2} hv s2 p hp =>
      q _ p (s2.trans (same_new hp)) (s2.free hp) ⟨fun v' hv' => by rw [hv] at hv'; cases hv'; exact upd_same, fun z => by rw [hv] at z; cases z⟩
    have finG : ∀ {q1 : Addr} {H2 : Hp}, badOf n xs ds = none → Same H H2 → H2 q1 = some (.tup [.int (goodOf n ds).1, .int (goodOf n ds).2]) → ∀ p, H2 p = none → Q (.ref p) (upd H2 p (.lst [.str "told", .ref q1])) := fun {q1 H2} hb s2 he p hp =>
      q _ p (s2.trans (same_new hp)) (s2.free hp) ⟨(fun v hv => by rw [hb] at hv; cases hv), fun _ => ⟨q1, upd_same, (upd_ne (ne_of_none he hp)).trans he⟩⟩
    have lk : ∀ v : V, ([(("value" : Str), v)] : List (Str × V)).lookup ("value" : Str) = some v := fun v => (lookup_put _ _ _ _).trans (if_pos rfl)
    match xs, hl, many with
    | [], hl, many =>
      refine ⟨_, rfl, l, _, rfl, .inl hS1, rfl, _, rfl, ?_⟩
      refine it_t (by show decide (V.int ((0 : Nat) : Int) = V.int 0) = true; decide +kernel) ?_
      refine ⟨_, spAll K C n, rfl, ⟨n, hn, rfl, rfl⟩, ds, hds1, fine, fun v hv d H2 hd s2 e => ⟨true, te, fun _ a ha => ?_, fun z => nomatch z⟩, fun hb q1 H2 s2 hq1 he => ?_⟩
      · have nd : d ≠ a := ne_of_none e ha
        refine ⟨_, rfl, _, rfl, rfl, _, rfl, it_t (by simp) ?_⟩
        exact ⟨_, rfl, a, C, d, _, v, rfl, T.v, T.no, upd_same, (upd_ne nd).trans e, lk v, (by show 2 ≤ sizeLine; decide), finB hv ((s1.trans s2).trans (same_new ha))⟩
      · refine ⟨_, rfl, rfl, _, rfl, it_f (by simp) ?_⟩
        exact ⟨_, rfl, (by show 2 ≤ sizeLine; decide), finG hb (s1.trans s2) he⟩
    | [x0], hl, many =>
      refine ⟨_, rfl, l, _, rfl, .inl hS1, rfl, _, rfl, ?_⟩
      refine it_f (by show decide (V.int ((1 : Nat) : Int) = V.int 0) = false; decide +kernel) ?_
      refine ⟨_, rfl, l, _, rfl, .inl hS1, rfl, _, rfl, ?_⟩
      refine it_t (by show decide (V.int ((1 : Nat) : Int) = V.int 1) = true; decide +kernel) ?_
      refine ⟨_, spAll K C n, rfl, ⟨n, hn, rfl, rfl⟩, _, rfl, l, _, _, _, rfl, rfl, hS1, atI_nat (j := 0) rfl, ds, hds1, fine, fun v hv d H2 hd s2 e => ⟨true, te, fun _ a ha => ?_, fun z => nomatch z⟩, fun hb q1 H2 s2 hq1 he => ?_⟩
      · have nd : d ≠ a := ne_of_none e ha
        refine ⟨_, rfl, _, rfl, rfl, _, rfl, it_t (by simp) ?_⟩
        exact ⟨_, rfl, a, C, d, _, v, rfl, T.v, T.no, upd_same, (upd_ne nd).trans e, lk v, (by show 2 ≤ sizeLine; decide), finB hv ((s1.trans s2).trans (same_new ha))⟩
      · refine ⟨_, rfl, rfl, _, rfl, it_f (by simp) ?_⟩
        exact ⟨_, rfl, (by show 2 ≤ sizeLine; decide), finG hb (s1.trans s2) he⟩
    | [x0, x1], hl, many =>
      refine ⟨_, rfl, l, _, rfl, .inl hS1, rfl, _, rfl, ?_⟩
      refine it_f (by show decide (V.int ((2 : Nat) : Int) = V.int 0) = false; decide +kernel) ?_
      refine ⟨_, rfl, l, _, rfl, .inl hS1, rfl, _, rfl, ?_⟩
      refine it_f (by show decide (V.int ((2 : Nat) : Int) = V.int 1) = false; decide +kernel) ?_
      refine ⟨_, rfl, l, _, rfl, .inl hS1, rfl, _, rfl, ?_⟩
      refine it_t (by show decide (V.int ((2 : Nat) : Int) = V.int 2) = true; decide +kernel) ?_
      refine ⟨_, spAll K C n, rfl, ⟨n, hn, rfl, rfl⟩, _, rfl, l, _, _, _, rfl, rfl, hS1, atI_nat (j := 0) rfl, _, rfl, l, _, _, _, rfl, rfl, hS1, atI_nat (j := 1) rfl, ds, hds1, fine, fun v hv d H2 hd s2 e => ⟨true, te, fun _ a ha => ?_, fun z => nomatch z⟩, fun hb q1 H2 s2 hq1 he => ?_⟩
      · have nd : d ≠ a := ne_of_none e ha
        refine ⟨_, rfl, _, rfl, rfl, _, rfl, it_t (by simp) ?_⟩
        exact ⟨_, rfl, a, C, d, _, v, rfl, T.v, T.no, upd_same, (upd_ne nd).trans e, lk v, (by show 2 ≤ sizeLine; decide), finB hv ((s1.trans s2).trans (same_new ha))⟩
      · refine ⟨_, rfl, rfl, _, rfl, it_f (by simp) ?_⟩
        exact ⟨_, rfl, (by show 2 ≤ sizeLine; decide), finG hb (s1.trans s2) he⟩
    | [x0, x1, x2], hl, many =>
      refine ⟨_, rfl, l, _, rfl, .inl hS1, rfl, _, rfl, ?_⟩
      refine it_f (by show decide (V.int ((3 : Nat) : Int) = V.int 0) = false; decide +kernel) ?_
      refine ⟨_, rfl, l, _, rfl, .inl hS1, rfl, _, rfl, ?_⟩
      refine it_f (by show decide (V.int ((3 : Nat) : Int) = V.int 1) = false; decide +kernel) ?_
      refine ⟨_, rfl, l, _, rfl, .inl hS1, rfl, _, rfl, ?_⟩
      refine it_f (by show decide (V.int ((3 : Nat) : Int) = V.int 2) = false; decide +kernel) ?_
      refine ⟨_, rfl, l, _, rfl, .inl hS1, rfl, _, rfl, ?_⟩
      refine it_t (by show decide (V.int ((3 : Nat) : Int) = V.int 3) = true; decide +kernel) ?_
      refine ⟨_, spAll K C n, rfl, ⟨n, hn, rfl, rfl⟩, _, rfl, l, _, _, _, rfl, rfl, hS1, atI_nat (j := 0) rfl, _, rfl, l, _, _, _, rfl, rfl, hS1, atI_nat (j := 1) rfl, _, rfl, l, _, _, _, rfl, rfl, hS1, atI_nat (j := 2) rfl, ds, hds1, fine, fun v hv d H2 hd s2 e => ⟨true, te, fun _ a ha => ?_, fun z => nomatch z⟩, fun hb q1 H2 s2 hq1 he => ?_⟩
      · have nd : d ≠ a := ne_of_none e ha
        refine ⟨_, rfl, _, rfl, rfl, _, rfl, it_t (by simp) ?_⟩
        exact ⟨_, rfl, a, C, d, _, v, rfl, T.v, T.no, upd_same, (upd_ne nd).trans e, lk v, (by show 2 ≤ sizeLine; decide), finB hv ((s1.trans s2).trans (same_new ha))⟩
      · refine ⟨_, rfl, rfl, _, rfl, it_f (by simp) ?_⟩
        exact ⟨_, rfl, (by show 2 ≤ sizeLine; decide), finG hb (s1.trans s2) he⟩
    | [x0, x1, x2, x3], hl, many =>
      refine ⟨_, rfl, l, _, rfl, .inl hS1, rfl, _, rfl, ?_⟩
      refine it_f (by show decide (V.int ((4 : Nat) : Int) = V.int 0) = false; decide +kernel) ?_
      refine ⟨_, rfl, l, _, rfl, .inl hS1, rfl, _, rfl, ?_⟩
      refine it_f (by show decide (V.int ((4 : Nat) : Int) = V.int 1) = false; decide +kernel) ?_
      refine ⟨_, rfl, l, _, rfl, .inl hS1, rfl, _, rfl, ?_⟩
      refine it_f (by show decide (V.int ((4 : Nat) : Int) = V.int 2) = false; decide +kernel) ?_
      refine ⟨_, rfl, l, _, rfl, .inl hS1, rfl, _, rfl, ?_⟩
      refine it_f (by show decide (V.int ((4 : Nat) : Int) = V.int 3) = false; decide +kernel) ?_
      refine ⟨_, spAll K C n, rfl, ⟨n, hn, rfl, rfl⟩, _, rfl, l, _, _, _, rfl, rfl, hS1, atI_nat (j := 0) rfl, _, rfl, l, _, _, _, rfl, rfl, hS1, atI_nat (j := 1) rfl, _, rfl, l, _, _, _, rfl, rfl, hS1, atI_nat (j := 2) rfl, _, rfl, l, _, _, _, rfl, rfl, hS1, atI_nat (j := 3) rfl, ds, hds1, fine, fun v hv d H2 hd s2 e => ⟨true, te, fun _ a ha => ?_, fun z => nomatch z⟩, fun hb q1 H2 s2 hq1 he => ?_⟩
      · have nd : d ≠ a := ne_of_none e ha
        refine ⟨_, rfl, _, rfl, rfl, _, rfl, it_t (by simp) ?_⟩
        exact ⟨_, rfl, a, C, d, _, v, rfl, T.v, T.no, upd_same, (upd_ne nd).trans e, lk v, (by show 2 ≤ sizeLine; decide), finB hv ((s1.trans s2).trans (same_new ha))⟩
      · refine ⟨_, rfl, rfl, _, rfl, it_f (by simp) ?_⟩
        exact ⟨_, rfl, (by show 2 ≤ sizeLine; decide), finG hb (s1.trans s2) he⟩
    | _ :: _ :: _ :: _ :: _ :: _, hl, many =>
      simp only [List.length_cons] at hl
      exact absurd many (by omega)
end
end Paw

set_option maxRecDepth 100000
set_option maxHeartbeats 4000000
namespace Paw
open PySem PySem.Spec PyProof.Rows L2
def badsO (ok : Nat → PyData → Bool) : Nat → List V → List PyData → List V
  | k, v :: vs, d :: ds => if ok k d then badsO ok (k + 1) vs ds else v :: badsO ok (k + 1) vs ds
  | _, _, _ => []
def okAt (k : Nat) (d : PyData) : Bool := if k = 1 then okB d else isI d
theorem badsF : ∀ (k : Nat) (xs : List V) (ds : List PyData), (badsO (fun _ d => isF d) k xs ds).head? = firstBad xs ds
  | _, [], _ => by
    unfold badsO firstBad
    rfl
  | _, _ :: _, [] => by
    unfold badsO firstBad
    rfl
  | k, x :: xs, d :: ds => by
    have e1 : badsO (fun _ d => isF d) k (x :: xs) (d :: ds) = if isF d then badsO (fun _ d => isF d) (k + 1) xs ds else x :: badsO (fun _ d => isF d) (k + 1) xs ds := rfl
    have e2 : firstBad (x :: xs) (d :: ds) = if isF d then firstBad xs ds else some x := rfl
    rw [e1, e2]
    cases isF d with
    | true => exact badsF (k + 1) xs ds
    | false => rfl
theorem badsI : ∀ (xs : List V) (ds : List PyData), xs.length = ds.length → ds.length = 1 ∨ ds.length = 2 → (badsO okAt 0 xs ds).head? = bad0 xs ds
  | [x], [d], _, _ => by
    have e1 : badsO okAt 0 [x] [d] = if isI d then [] else [x] := rfl
    have e2 : bad0 [x] [d] = if isI d then none else some x := rfl
    rw [e1, e2]
    cases isI d <;> rfl
  | [x, y], [d, e], _, _ => by
    have e1 : badsO okAt 0 [x, y] [d, e] = if isI d then (if okB e then [] else [y]) else x :: (if okB e then [] else [y]) := rfl
    have e2 : bad0 [x, y] [d, e] = if isI d then (if okB e then none else some y) else some x := rfl
    rw [e1, e2]
    cases isI d <;> cases okB e <;> rfl
  | [], [], _, h => absurd h (by simp)
  | [], _ :: _, h, _ => absurd h (by simp)
  | _ :: _, [], h, _ => absurd h (by simp)
  | [_], _ :: _ :: _, h, _ => absurd h (by simp)
  | _ :: _ :: _, [_], h, _ => absurd h (by simp)
  | _ :: _ :: _ :: _, _ :: _ :: [], h, _ => absurd h (by simp)
  | [_, _], _ :: _ :: _ :: _, h, _ => absurd h (by simp)
  | _ :: _ :: _ :: _, _ :: _ :: _ :: _, _, h => absurd h (by simp)
theorem bads_step {ok : Nat → PyData → Bool} {xs : List V} {ds : List PyData} {i : Nat} {x : V} {d : PyData} (hx : xs[i]? = some x) (hd : ds[i]? = some d) : badsO ok i (xs.drop i) (ds.drop i) = if ok i d then badsO ok (i + 1) (xs.drop (i + 1)) (ds.drop (i + 1)) else x :: badsO ok (i + 1) (xs.drop (i + 1)) (ds.drop (i + 1)) := by
  obtain ⟨h1, e1⟩ := List.getElem?_eq_some_iff.mp hx
  obtain ⟨h2, e2⟩ := List.getElem?_eq_some_iff.mp hd
  rw [List.drop_eq_getElem_cons h1, List.drop_eq_getElem_cons h2, e1, e2]
  rfl
/-- the list of the bad ones so far -/
def PvB (ok : Nat → PyData → Bool) (H : Hp) (D : Addr) (xs : List V) (ds : List PyData) (i : Nat) (H' : Hp) : Prop := Same H H' ∧ ∃ acc, H' D = some (.lst acc) ∧ acc.length ≤ i ∧ acc ++ badsO ok i (xs.drop i) (ds.drop i) = badsO ok 0 xs ds
section
variable {ok : Nat → PyData → Bool} {H H1 H2 : Hp} {D : Addr} {xs : List V} {ds : List PyData} {i : Nat} {x : V} {d : PyData}
theorem pvb_start (h : H D = none) : PvB ok H D xs ds 0 (upd H D (.lst [])) := ⟨same_new h, [], upd_same, Nat.le_refl _, rfl⟩
theorem pvb_keep (h : PvB ok H D xs ds i H1) (hD : H D = none) (s : Same H1 H2) (hi : i < 1000) (hx : xs[i]? = some x) (hd : ds[i]? = some d) (ho : ok i d = false) :
    ∃ acc, H2 D = some (.lst acc) ∧ acc.length < sizeLine ∧ PvB ok H D xs ds (i + 1) (upd H2 D (.lst (acc ++ [x]))) := by
  obtain ⟨s1, acc, h1, h2, h3⟩ := h
  refine ⟨acc, s _ _ h1, Nat.lt_of_le_of_lt h2 (Nat.lt_of_lt_of_le hi (by decide)), fun b o e => (upd_ne (ne_of_none e hD)).trans (s _ _ (s1 _ _ e)), acc ++ [x], upd_same, by rw [List.length_append]; exact Nat.succ_le_succ h2, ?_⟩
  rw [← h3, bads_step hx hd, ho, List.append_assoc]
  rfl
theorem pvb_drop (h : PvB ok H D xs ds i H1) (s : Same H1 H2) (hx : xs[i]? = some x) (hd : ds[i]? = some d) (ho : ok i d = true) : PvB ok H D xs ds (i + 1) H2 := by
  obtain ⟨s1, acc, h1, h2, h3⟩ := h
  refine ⟨s1.trans s, acc, s _ _ h1, Nat.le_succ_of_le h2, ?_⟩
  rw [← h3, bads_step hx hd, ho]
  rfl
theorem pvb_end (h : PvB ok H D xs ds xs.length H1) : Same H H1 ∧ H1 D = some (.lst (badsO ok 0 xs ds)) := by
  obtain ⟨s1, acc, h1, h2, h3⟩ := h
  refine ⟨s1, ?_⟩
  have e : badsO ok xs.length (xs.drop xs.length) (ds.drop xs.length) = [] := by
    rw [List.drop_length]
    unfold badsO
    rfl
  rw [e, List.append_nil] at h3
  rw [← h3]
  exact h1
end
/-- what one step does to sizes -/
def StepOk (step : Int → Int → Int → Int → Int × Int) : Prop := ∀ (i : Nat) (t b m c : Int), SzN i t → SzN i b → m.natAbs < 2 ^ 1100 → c.natAbs < 2 ^ 1100 → b ≠ 0 → c ≠ 0 → SzN (i + 1) (step t b m c).1 ∧ SzN (i + 1) (step t b m c).2 ∧ (step t b m c).2 ≠ 0
theorem step_t : StepOk stepT := fun i t b m c zt zb zm zc b0 c0 => by
  have nb : b * c ≠ 0 := Int.mul_ne_zero b0 c0
  have zb2 : SzN (i + 1) (b * c) := szn_up (szn_mul zb zc)
  have zt2 : SzN (i + 1) (t * c + m * b) := by
    refine szn_step (szn_mul zt zc) ?_
    rw [Int.mul_comm m b]
    exact szn_mul zb zm
  have z := szn_low zt2 zb2
  exact ⟨z.1, z.2, low_ne nb⟩
theorem step_p : StepOk stepP := fun i t b m c zt zb zm zc b0 c0 => by
  have z := szn_low (szn_up (szn_mul zt zm)) (szn_up (szn_mul zb zc))
  exact ⟨z.1, z.2, low_ne (Int.mul_ne_zero b0 c0)⟩
def spDue (K : PySem.W.Frag) : Sp := fun vs H Q _ => ∃ (n : Nat) (l : Addr) (xs : List V) (ds : List PyData), vs = [.int (n : Int), .ref l] ∧ n < 3 ∧ H l = some (.lst xs) ∧ RDs K H xs ds ∧ Fine n ds ∧ ∀ (H' : Hp) (p : Addr), Same H H' → H p = none → Said H' p n xs ds → Q (.ref p) H'
def RStep (K : PySem.W.Frag) (fP fT : Addr) (f : Addr) (sp : Sp) : Prop := (f = fP ∧ sp = spStep K stepT) ∨ (f = fT ∧ sp = spStep K stepP)
section
variable {P : Program} {w : World} {K : PySem.W.Frag} {mg : Str → Option Value} {base : Heap}
theorem scDue : FnScope ["which", "values", "odd", "found", "value", "k"] ["which", "values"] (defScope sDue) := ⟨rfl, rfl, rfl, by decide +kernel, rfl, by decide +kernel, by decide +kernel⟩
theorem calm0 {X : Cx} {E : XK} (σ : L2.St) : PassesAt CX0 X σ E := fun _ _ _ _ _ _ c => c.elim
theorem ok_due {f fW fF fL fP fT : Addr} {fd fdW fdF fdL fdP fdT : FuncData} (F : Fun K "_law_due" "_law_due" sDue f fd) (ze : mg "enumerate" = none)
    (GW : FnOk P w K mg base CX0 1 fW fdW ["thing"] (spWhole K)) (gW : mg "_law_whole" = some (.ref fW)) (kW : PySem.W.keepIn K (.ref fW) = true) (bW : Binds K fdW ["thing"] [])
    (GF : FnOk P w K mg base CX0 2 fF fdF ["thing"] (spLFrac K)) (gF : mg "_law_is_fraction" = some (.ref fF)) (kF : PySem.W.keepIn K (.ref fF) = true) (bF : Binds K fdF ["thing"] [])
    (GL : FnOk P w K mg base CX0 2 fL fdL ["top", "bottom"] spLowest) (gL : mg "_law_lowest" = some (.ref fL)) (kL : PySem.W.keepIn K (.ref fL) = true) (bL : Binds K fdL ["top", "bottom"] [])
    (GP : FnOk P w K mg base CX0 3 fP fdP ["one", "other"] (spStep K stepT)) (gP : mg "_law_plus" = some (.ref fP)) (kP : PySem.W.keepIn K (.ref fP) = true) (bP : Binds K fdP ["one", "other"] [])
    (GT : FnOk P w K mg base CX0 3 fT fdT ["one", "other"] (spStep K stepP)) (gT : mg "_law_times" = some (.ref fT)) (kT : PySem.W.keepIn K (.ref fT) = true) (bT : Binds K fdT ["one", "other"] []) :
    FnOk P w K mg base CX0 4 f fd ["which", "values"] (spDue K) := by
  refine F.ok scDue (fun vs H Q E h => ?_) (fun cdv A outer s H vs Q E hr h => ?_)
  · obtain ⟨n, l, xs, ds, rfl, _⟩ := h
    rfl
  · obtain ⟨n, l, xs, ds, rfl, hn, hl, hds, fine, q⟩ := h
    have hr1 := hr.mono (show 1 ≤ 3 by decide)
    have hr2 := hr.mono (show 2 ≤ 3 by decide)
    have hC : ∀ g sp, RStep K fP fT g sp → FnR P w K mg base CX0 3 g sp ∧ PySem.W.keepIn K (.ref g) = true := by
      rintro g sp (⟨rfl, rfl⟩ | ⟨rfl, rfl⟩)
      · exact ⟨FnR.weaken (fnR_of GP bP .nil) fun vs H Q E h => by rw [List.append_nil]; exact h, kP⟩
      · exact ⟨FnR.weaken (fnR_of GT bT .nil) fun vs H Q E h => by rw [List.append_nil]; exact h, kT⟩
    refine ⟨_, pss_cons (ps_if (pt_cmpR op_eq (pv 0) pe_int (nomark _))
        (pss_one (ps_setLc (i := 2) (own := [("k", 5), ("value", 4)]) (g := gTup K 2 (gCons (gName 5) (gCons (gName 4) gNil))) (tt := tOr (tNot (tB (tCall (spWhole K) [] E0 (tCons (tVar 4) tNil)))) (tAnd (tTest (tOp rEq (tVar 5) (tC (.int 1)))) (tTest (tOp rEq (tVar 4) (tC (.int 0)))))) (te := tVar 4) rfl scDue.nd rfl rfl (sw_true rfl rfl rfl (by decide +kernel)) (pi_enum (by rfl) ze (pa_cons (pv 1) pa_nil))
          (blkOk_by (N := ["which", "values", "odd", "found", "value", "k"]) (sc := defScope sDue) (by decide +kernel)) (fun _ _ _ _ _ => pg_tup rfl (pgs_cons (pg_name (i := 5) scDue.nd rfl (Or.inl rfl)) (pgs_cons (pg_name (i := 4) scDue.nd rfl (Or.inl rfl)) pgs_nil)))
          (fun _ _ _ _ _ => pts_one (PW.pt (pw_or (pt_not (pt_val (pe_call GW hr1 rfl gW kW bW .nil pass0 (pa_cons (pv 4) pa_nil)))) (pw_or1 (PW.pt (pw_and (pt_cmpR op_eq (pv 5) pe_int (nomark _)) (pw_and1 (pt_cmpR op_eq (pv 4) pe_int (nomark _))))))))) (fun _ _ _ _ _ => pv 4)))
        (pss_one (ps_setLc (i := 2) (own := [("value", 4)]) (g := gName 4) (tt := tNot (tB (tCall (spLFrac K) [] E0 (tCons (tVar 4) tNil)))) (te := tVar 4) rfl scDue.nd rfl rfl (sw_true rfl rfl rfl (by decide +kernel)) (pi_list (pv 1))
          (blkOk_by (N := ["which", "values", "odd", "found", "value", "k"]) (sc := defScope sDue) (by decide +kernel)) (fun _ _ _ _ _ => pg_name (i := 4) scDue.nd rfl (Or.inl rfl))
          (fun _ _ _ _ _ => pts_one (pt_not (pt_val (pe_call GF hr2 rfl gF kF bF .nil pass0 (pa_cons (pv 4) pa_nil))))) (fun _ _ _ _ _ => pv 4))))
      (pss_cons (ps_if (pt_cmpR (op_neNil (Nat.lt_of_le_of_lt (Nat.le_add_right _ 64) hr.units)) (pv 2) (pe_lst pa_nil) (nomark _)) (pss_one (ps_ret (pe_lst (pa_cons pe_str (pa_cons (pe_ix ix_list (pv 2) pe_int (fun _ _ => rfl)) pa_nil))))) pss_nil)
      (pss_cons (ps_if (pt_cmpR op_eq (pv 0) pe_int (nomark _)) (pss_one (ps_ret (pe_lst (pa_cons pe_str (pa_cons (pe_call GL hr2 rfl gL kL bL .nil pass0 (pa_cons (pe_ix ix_list (pv 1) pe_int (fun _ _ => rfl)) (pa_cons (pe_ix ix_list (pe_op op_cat (pv 1) (pe_lst (pa_cons pe_int pa_nil))) pe_int (fun _ _ => rfl)) pa_nil))) pa_nil))))) pss_nil)
      (pss_cons (ps_set (i := 3) scDue.nd rfl (Or.inl rfl) (pe_tup (pa_cons (pe_op op_sub (pv 0) pe_int) (pa_cons pe_int pa_nil))))
      (pss_cons (ps_for PassesOwn.never rfl (pi_list (pv 1)) (pg_name (i := 4) scDue.nd rfl (Or.inl rfl)) (pss_one (ps_set (i := 3) scDue.nd rfl (Or.inl rfl) (pe_callF (R := RStep K fP fT) (E := fun _ => E0) hC hr calm0
        (pe_ix ix_list (pe_lst (pa_cons (pe_glob (v := .ref fP) rfl gP rfl) (pa_cons (pe_glob (v := .ref fT) rfl gT rfl) pa_nil))) (pe_op op_sub (pv 0) pe_int) (fun _ _ => rfl)) (pa_cons (pv 3) (pa_cons (pv 4) pa_nil))))))
      (pss_one (ps_ret (pe_lst (pa_cons pe_str (pa_cons (pv 3) pa_nil))))))))), ?_⟩
    have hlen := hds.length
    have many := fine.most
    have finB : ∀ {v : V} {H2 : Hp}, badOf n xs ds = some v → Same H H2 → ∀ p, H2 p = none → Q (.ref p) (upd H2 p (.lst [.str "wrong", v])) := fun {v H2} hv s2 p hp =>
      q _ p (s2.trans (same_new hp)) (s2.free hp) ⟨(fun v' hv' => by rw [hv] at hv'; cases hv'; exact upd_same), fun z => by rw [hv] at z; cases z⟩
    have finG : ∀ {q1 : Addr} {H2 : Hp}, badOf n xs ds = none → Same H H2 → H2 q1 = some (.tup [.int (goodOf n ds).1, .int (goodOf n ds).2]) → ∀ p, H2 p = none → Q (.ref p) (upd H2 p (.lst [.str "told", .ref q1])) := fun {q1 H2} hb s2 he p hp =>
      q _ p (s2.trans (same_new hp)) (s2.free hp) ⟨(fun v hv => by rw [hb] at hv; cases hv), fun _ => ⟨q1, upd_same, (upd_ne (ne_of_none he hp)).trans he⟩⟩
    refine ⟨_, rfl, rfl, _, rfl, ?_⟩
    by_cases n0 : n = 0
    · subst n0
      have len := fine.some0 rfl
      refine it_t (by decide) ?_
      refine ⟨_, rfl, l, xs, rfl, SqL.of hl, fun D hD => ?_⟩
      refine lc_it (walk_enum (xs := xs)) (PvB okAt H D xs ds) (pvb_start hD) (fun i H' _ p => p.1.seq (SqL.of hl)) ?_ ?_
      · rintro i x H1 H2 hi hP ⟨T1, u, t, rfl, hT, rfl, e1, e2⟩
        have e2 : xs[i]? = some t := e2
        cases e1
        obtain ⟨d, hd, rd⟩ := hds.at_ e2
        have sT := same_new (o := .tup [.int (i : Int), t]) hT
        have rd2 := RD.mono (hP.1.trans sT) _ _ rd
        have hi4 : i < 1000 := by omega
        refine ⟨T1, _, rfl, SqT.of upd_same, rfl, _, _, rfl, _, _, rfl, rfl, rfl, _, rfl, t, d, rfl, rd2, _, rfl, ?_⟩
        cases hI : isI d with
        | false =>
          exact ⟨_, rfl, pvb_keep hP hD sT hi4 e2 hd (by unfold okAt; cases d <;> first | (split <;> rfl) | cases hI)⟩
        | true =>
          obtain ⟨b, rfl⟩ : ∃ b, d = .int b := by
            cases d with
            | int b => exact ⟨b, rfl⟩
            | _ => cases hI
          cases rd
          refine ⟨_, rfl, rfl, _, rfl, ?_⟩
          by_cases i1 : i = 1
          · subst i1
            refine it_t (by decide) ?_
            refine ⟨_, rfl, rfl, _, rfl, ?_⟩
            by_cases b0 : b = 0
            · subst b0
              exact ⟨_, rfl, pvb_keep hP hD sT hi4 e2 hd rfl⟩
            · refine it_f (decide_eq_false fun z => b0 (by injection z)) ?_
              exact pvb_drop hP sT e2 hd (by show (!decide (b = 0)) = true; simp [b0])
          · refine it_f (decide_eq_false fun z => i1 (by injection z with z; omega)) ?_
            exact pvb_drop hP sT e2 hd (if_neg i1)
      · intro H1 hP
        obtain ⟨s1, hD1⟩ := pvb_end hP
        have head := badsI xs ds hlen len
        refine ⟨_, rfl, (by show 0 ≤ sizeLine; decide), fun e he => ⟨D, e, _, rfl, rfl, SqL.of ((same_new he) _ _ hD1), SqL.of upd_same, _, rfl, ?_⟩⟩
        have s2 := s1.trans (same_new (o := .lst []) he)
        have hD2 := (same_new (o := .lst []) he) _ _ hD1
        cases hb : badsO okAt 0 xs ds with
        | cons v rest =>
          rw [hb] at head hD2
          exact ⟨_, rfl, D, _, _, _, rfl, rfl, SqL.of hD2, atI_nat (j := 0) rfl, (by show 2 ≤ sizeLine; decide), finB head.symm s2⟩
        | nil =>
          rw [hb] at head
          have hl2 := s2 _ _ hl
          refine ⟨_, rfl, rfl, _, rfl, ?_⟩
          rcases len with z | z
          · obtain ⟨d, rfl⟩ := List.length_eq_one_iff.mp z
            cases hds with
            | @cons x _ _ _ hx hs =>
              cases hs
              have hd0 : (if isI d then none else some x) = none := head.symm
              cases d with
              | int t =>
                cases hx
                refine ⟨_, rfl, l, _, _, _, rfl, rfl, SqL.of hl2, atI_nat (j := 0) rfl, _, rfl, (by show 1 ≤ sizeLine; decide), fun m hm => ⟨l, m, _, _, rfl, rfl, (same_new hm) _ _ hl2, upd_same, (by show 2 ≤ sizeLine; decide), fun m3 hm3 => ⟨m3, _, _, _, rfl, rfl, SqL.of upd_same, atI_nat (j := 1) rfl, t, 1, rfl, by decide, by decide, fun r hr => ?_⟩⟩⟩
                exact ⟨(by show 2 ≤ sizeLine; decide), finG head.symm (((s2.trans (same_new hm)).trans (same_new hm3)).trans (same_new hr)) upd_same⟩
              | _ => cases hd0
          · match ds, z, hds with
            | [d, e], _, hds =>
              cases hds with
              | @cons x _ _ _ hx hs =>
                cases hs with
                | @cons y _ _ _ hy hs =>
                  cases hs
                  have hd0 : (if isI d then (if okB e then none else some y) else some x) = none := head.symm
                  cases d with
                  | int t =>
                    cases e with
                    | int b =>
                      cases hx
                      cases hy
                      have nb : b ≠ 0 := fun z => by
                        subst z
                        cases hd0
                      refine ⟨_, rfl, l, _, _, _, rfl, rfl, SqL.of hl2, atI_nat (j := 0) rfl, _, rfl, (by show 1 ≤ sizeLine; decide), fun m hm => ⟨l, m, _, _, rfl, rfl, (same_new hm) _ _ hl2, upd_same, (by show 3 ≤ sizeLine; decide), fun m3 hm3 => ⟨m3, _, _, _, rfl, rfl, SqL.of upd_same, atI_nat (j := 1) rfl, t, b, rfl, nb, up_sz (tiny_int_log (fine.tiny _ (by simp))) (by decide), fun r hr => ?_⟩⟩⟩
                      exact ⟨(by show 2 ≤ sizeLine; decide), finG head.symm (((s2.trans (same_new hm)).trans (same_new hm3)).trans (same_new hr)) upd_same⟩
                    | _ => cases hd0
                  | _ => cases hd0
    · refine it_f (decide_eq_false fun z => n0 (by injection z with z; omega)) ?_
      have eb : badOf n xs ds = firstBad xs ds := if_neg n0
      refine ⟨_, rfl, l, rfl, ⟨xs, SqL.of hl⟩, fun D hD => lc_list (xs := xs) (PvB (fun _ d => isF d) H D xs ds) (pvb_start hD) (fun i H' _ p => p.1.seq (SqL.of hl)) ?_ ?_⟩
      · intro i x H1 hx hP
        obtain ⟨d, hd, rd⟩ := hds.at_ hx
        have hi4 : i < 1000 := by
          have := (List.getElem?_eq_some_iff.mp hx).1
          omega
        refine ⟨rfl, _, rfl, x, d, rfl, RD.mono hP.1 _ _ rd, fun H2 s2 => ⟨_, rfl, ?_⟩⟩
        cases hF : isF d with
        | false => exact ⟨_, rfl, pvb_keep hP hD s2 hi4 hx hd hF⟩
        | true => exact pvb_drop hP s2 hx hd hF
      · intro H1 hP
        obtain ⟨s1, hD1⟩ := pvb_end hP
        have head := badsF 0 xs ds
        refine ⟨_, rfl, (by show 0 ≤ sizeLine; decide), fun e he => ⟨D, e, _, rfl, rfl, SqL.of ((same_new he) _ _ hD1), SqL.of upd_same, _, rfl, ?_⟩⟩
        have s2 := s1.trans (same_new (o := .lst []) he)
        have hD2 := (same_new (o := .lst []) he) _ _ hD1
        cases hb : badsO (fun _ d => isF d) 0 xs ds with
        | cons v rest =>
          rw [hb] at head hD2
          exact ⟨_, rfl, D, _, _, _, rfl, rfl, SqL.of hD2, atI_nat (j := 0) rfl, (by show 2 ≤ sizeLine; decide), finB (eb.trans head.symm) s2⟩
        | nil =>
          rw [hb] at head
          have hf : firstBad xs ds = none := head.symm
          have hl2 := s2 _ _ hl
          refine ⟨_, rfl, rfl, _, rfl, it_f (decide_eq_false fun z => n0 (by injection z with z; omega)) ?_⟩
          obtain ⟨fS, step, t0, e1, hR, e2, e3, okS, z0⟩ : ∃ (fS : Addr) (step : Int → Int → Int → Int → Int × Int) (t0 : Int), atI [V.ref fP, V.ref fT] ((n : Int) - 1) = some (.ref fS) ∧ RStep K fP fT fS (spStep K step) ∧ goodOf n ds = foldS step ds t0 1 ∧ (n : Int) - 1 = t0 ∧ StepOk step ∧ SzN 0 t0 := by
            match n, n0, hn with
            | 1, _, _ => exact ⟨fP, stepT, 0, atI_nat (j := 0) rfl, .inl ⟨rfl, rfl⟩, rfl, rfl, step_t, by unfold SzN; decide⟩
            | 2, _, _ => exact ⟨fT, stepP, 1, atI_nat (j := 1) rfl, .inr ⟨rfl, rfl⟩, rfl, rfl, step_p, by unfold SzN; decide⟩
          refine ⟨_, rfl, _, _, rfl, rfl, (by show 2 ≤ sizeLine; decide), fun r0 hr0 => ?_⟩
          have s3 := s2.trans (same_new (o := .tup [.int ((n : Int) - 1), .int 1]) hr0)
          refine ⟨_, rfl, l, rfl, ⟨xs, SqL.of (s3 _ _ hl)⟩, for_list (xs := xs) (fun i σ H' => ∃ (r : Addr) (t b : Int) (v4 v5 : Option V), σ = [some (.int (n : Int)), some (.ref l), some (.ref D), some (.ref r), v4, v5] ∧ Same H H' ∧ H' r = some (.tup [.int t, .int b]) ∧ b ≠ 0 ∧ SzN i t ∧ SzN i b ∧ foldS step ds t0 1 = foldS step (ds.drop i) t b)
            ⟨r0, t0, 1, none, none, by rfl, s3, by rw [← e3]; exact upd_same, by decide, z0, by unfold SzN; decide, rfl⟩ (fun i σ H' _ hP => ?_) ?_ ?_⟩
          · obtain ⟨_, _, _, _, _, _, s', _⟩ := hP
            exact SqL.of (s' _ _ hl)
          · rintro i x σ H' hx ⟨r, t, b, v4, v5, rfl, s', hr', b0, zt, zb, e⟩
            obtain ⟨a, m, c, rfl, ha, c1, zm, zc, ed⟩ := frac_at hds s' hf (fun d hd => tiny_sz (fine.tiny d hd)) hx
            have hi : i < 4 := by
              have := (List.getElem?_eq_some_iff.mp hx).1
              omega
            have c0 : c ≠ 0 := by omega
            obtain ⟨w1, w2, w3⟩ := okS i t b m c zt zb zm zc b0 c0
            have fold : foldS step ds t0 1 = foldS step (ds.drop (i + 1)) (step t b m c).1 (step t b m c).2 := by
              rw [e, ed]
              rfl
            refine ⟨(by show 2 ≤ sizeLine; decide), fun k1 hk1 => ⟨_, rfl, _, _, rfl, rfl, k1, _, _, _, rfl, rfl, SqL.of upd_same, e1, fS, _, rfl, hR, _, rfl, _, rfl, r, a, t, b, m, c, rfl, SqT.of ((same_new hk1) _ _ hr'), sqt_mono (same_new hk1) ha, b0, c0, szn_le zt (by omega), szn_le zb (by omega), zm, zc, fun r2 hr2 => ?_⟩⟩
            exact ⟨r2, _, _, _, _, rfl, (s'.trans (same_new hk1)).trans (same_new hr2), upd_same, w3, w1, w2, fold⟩
          · rintro σ H' ⟨r, t, b, v4, v5, rfl, s', hr', b0, zt, zb, e⟩
            have e4 : goodOf n ds = (t, b) := by
              rw [e2, e, List.drop_eq_nil_of_le (Nat.le_of_eq hlen.symm)]
              rfl
            exact ⟨_, rfl, (by show 2 ≤ sizeLine; decide), finG (eb.trans hf) s' (by rw [e4]; exact hr')⟩
end
end Paw

set_option maxRecDepth 100000
set_option maxHeartbeats 4000000
namespace Paw
open PySem PySem.Spec PyProof.Rows L2
abbrev sHeld : Stmt := top 30
/-- what a thing is ahead of the mark, and behind it -/
inductive Thing : HO → HO → PyData → PyData → Prop
  | l2 : Thing (.lst [.int 1, .int 2]) (.lst [.int 1, .int 2, .str "mark"]) (.list [.int 1, .int 2]) (.list [.int 1, .int 2, .str "mark"])
  | l1 : Thing (.lst [.int 1]) (.lst [.int 1, .str "mark"]) (.list [.int 1]) (.list [.int 1, .str "mark"])
  | d0 : Thing (.dK []) (.dK [(Sum.inr "mark", .int 0)]) (.dict []) (.dict [(.str "mark", .int 0)])
  | d1 : Thing (.dK [(Sum.inr "a", .int 1)]) (.dK [(Sum.inr "a", .int 1), (Sum.inr "mark", .int 0)]) (.dict [(.str "a", .int 1)]) (.dict [(.str "a", .int 1), (.str "mark", .int 0)])
theorem thing_rd0 {K : PySem.W.Frag} {H : Hp} {T : Addr} {o u : HO} {d e : PyData} (h : Thing o u d e) (hT : H T = some o) : RD K H (.ref T) d := by
  cases h with
  | l2 => exact .lst (SqL.of hT) (.cons (.int _) (.cons (.int _) .nil))
  | l1 => exact .lst (SqL.of hT) (.cons (.int _) .nil)
  | d0 => exact .dic hT .nil
  | d1 => exact .dic hT (.cons (k := Sum.inr "a") (.int _) .nil)
theorem thing_rd {K : PySem.W.Frag} {H : Hp} {T : Addr} {o u : HO} {d e : PyData} (h : Thing o u d e) (hT : H T = some u) : RD K H (.ref T) e := by
  cases h with
  | l2 => exact .lst (SqL.of hT) (.cons (.int _) (.cons (.int _) (.cons (.str _) .nil)))
  | l1 => exact .lst (SqL.of hT) (.cons (.int _) (.cons (.str _) .nil))
  | d0 => exact .dic hT (.cons (k := Sum.inr "mark") (.int _) .nil)
  | d1 => exact .dic hT (.cons (k := Sum.inr "a") (.int _) (.cons (k := Sum.inr "mark") (.int _) .nil))
theorem thing_fit {o u : HO} {d e : PyData} (h : Thing o u d e) : Fit (.list [.str "wrong", e]) := by
  cases h <;> exact ⟨by decide +kernel, by decide +kernel, by decide +kernel, by decide +kernel⟩
theorem thing_tiny {o u : HO} {d e : PyData} (h : Thing o u d e) : tinyD d = true := by
  cases h <;> decide +kernel
theorem thing_no {o u : HO} {d e : PyData} (h : Thing o u d e) : isI d = false ∧ isF d = false := by
  cases h <;> exact ⟨rfl, rfl⟩
def spHeld : Sp := fun vs H Q _ => ∃ (n : Nat) (T : Addr) (o u : HO) (d e : PyData), vs = [.int (n : Int), .ref T] ∧ n < 3 ∧ H T = some o ∧ Thing o u d e ∧ ∀ H' : Hp, But T H H' → Q (.bl true) H'
section
variable {P : Program} {wd : World} {K : PySem.W.Frag} {mg : Str → Option Value} {base : Heap}
theorem scHeld : FnScope ["which", "thing", "said"] ["which", "thing"] (defScope sHeld) := ⟨rfl, rfl, rfl, by decide +kernel, rfl, by decide +kernel, by decide +kernel⟩
theorem ok_held {f fC fA : Addr} {fd fdC fdA : FuncData} (F : Fun K "_law_held" "_law_held" sHeld f fd) (GC : FnOk P wd K mg base CX0 5 fC fdC ["which", "values"] (spCaught K)) (gC : mg "_law_caught" = some (.ref fC)) (kC : PySem.W.keepIn K (.ref fC) = true) (bC : Binds K fdC ["which", "values"] [])
    (GA : FnG P wd K mg base CX0 1 fA fdA ["one", "other"] (spAlike K)) (gA : mg "_law_alike" = some (.ref fA)) (kA : PySem.W.keepIn K (.ref fA) = true) (bA : Binds K fdA ["one", "other"] []) (zi : mg "isinstance" = none) (zl : mg "list" = none) : FnG P wd K mg base CX0 6 f fd ["which", "thing"] spHeld := by
  refine funG F scHeld (fun vs H Q E h => ?_) (fun cdv A hG outer s H vs Q E hS hr h => ?_)
  · obtain ⟨n, T, o, u, d, e, rfl, _⟩ := h
    rfl
  · obtain ⟨n, T, o, u, d, e, rfl, hn, hT, hth, q⟩ := h
    have g : Gd (cxOf CX0 P wd K mg base ["which", "thing", "said"] "_law_held" (defScope sHeld) f cdv A outer s H E) := ⟨hG, hS, rfl⟩
    have hr1 : Room 1 (cxOf CX0 P wd K mg base ["which", "thing", "said"] "_law_held" (defScope sHeld) f cdv A outer s H E).A := hr.mono (by decide)
    have hu := hu_of hr
    refine ⟨_, pss_cons (ps_set (i := 2) scHeld.nd rfl (Or.inl rfl) (pe_call GC hr rfl gC kC bC .nil pass0 (pa_cons (pv 0) (pa_cons (pe_lst (pa_cons (pv 1) pa_nil)) pa_nil))))
      (pss_cons (ps_if (pt_val (pe_callB call_isi (by rfl) zi bt_isinstance (pa_cons (pv 1) (pa_cons (pe_bltn (v := .ty "list") (by rfl) zl bt_list rfl) pa_nil))))
          (pss_one (ps_expr (pe_bm PySem.F.plainAttrs_list PySem.F.slot_list_append PySem.F.type_list_append mt_append (pv 1) (pa_cons pe_str pa_nil)))) (pss_one (ps_dput hu (pv 1) pe_str pe_int rfl)))
      (pss_one (ps_ret (pe_callG GA g hr1 rfl gA kA bA .nil pass0 (pa_cons (pv 2) (pa_cons (pe_lst (pa_cons pe_str (pa_cons (pv 1) pa_nil))) pa_nil)))))), ?_⟩
    refine ⟨_, rfl, _, rfl, (by show 1 ≤ sizeLine; decide), fun l hl => ?_⟩
    have sl := same_new (o := .lst [.ref T]) hl
    refine ⟨n, l, [.ref T], [d], rfl, hn, SqL.of upd_same, .cons (RD.mono sl _ _ (thing_rd0 hth hT)) .nil, ⟨by show 1 ≤ 4; decide, fun _ => .inl rfl, fun x hx => by rw [List.mem_singleton.mp hx]; exact thing_tiny hth⟩, fun H1 p s1 np said => ?_⟩
    have hb : badOf n [V.ref T] [d] = some (.ref T) := by
      obtain ⟨h1, h2⟩ := thing_no hth
      unfold badOf
      split
      · exact if_neg (by rw [h1]; exact Bool.false_ne_true)
      · exact if_neg (by rw [h2]; exact Bool.false_ne_true)
    have hp := said.1 _ hb
    have hT1 := s1 _ _ (sl _ _ hT)
    have nP : p ≠ T := (ne_of_none (sl _ _ hT) np).symm
    have tail : ∀ H3 : Hp, (∀ b ob, b ≠ T → H1 b = some ob → H3 b = some ob) → H3 T = some u → ∀ l3, H3 l3 = none → spAlike K [.ref p, .ref l3] (upd H3 l3 (.lst [.str "wrong", .ref T])) Q E0 := by
      intro H3 h3 hT3 l3 hl3
      have s6 := same_new (o := .lst [.str "wrong", .ref T]) hl3
      have rd := thing_rd (K := K) hth (s6 _ _ hT3)
      refine ⟨_, _, .list [.str "wrong", e], .list [.str "wrong", e], rfl, .lst (SqL.of (s6 _ _ (h3 _ _ nP hp))) (.cons (.str _) (.cons rd .nil)), .lst (SqL.of upd_same) (.cons (.str _) (.cons rd .nil)), thing_fit hth, thing_fit hth, ?_⟩
      have e1 : decide (V.str (PyData.list [.str "wrong", e]).shown = V.str (PyData.list [.str "wrong", e]).shown) = true := decide_eq_true rfl
      rw [e1]
      exact q _ fun b ob nb hb => s6 _ _ (h3 _ _ nb (s1 _ _ (sl _ _ hb)))
    cases hth with
    | l2 =>
      refine ⟨_, rfl, _, _, _, _, true, rfl, .ty _, .base (.lst hT1), kit_ty (by decide +kernel), _, rfl, iteT ?_⟩
      refine ⟨_, rfl, .inl ⟨rfl, _, SqL.of hT1⟩, T, _, _, rfl, rfl, hT1, (by show 2 < sizeLine; decide), ?_⟩
      exact ⟨_, rfl, _, rfl, (by show 2 ≤ sizeLine; decide), tail _ (fun b ob nb hb => (upd_ne nb).trans hb) upd_same⟩
    | l1 =>
      refine ⟨_, rfl, _, _, _, _, true, rfl, .ty _, .base (.lst hT1), kit_ty (by decide +kernel), _, rfl, iteT ?_⟩
      refine ⟨_, rfl, .inl ⟨rfl, _, SqL.of hT1⟩, T, _, _, rfl, rfl, hT1, (by show 1 < sizeLine; decide), ?_⟩
      exact ⟨_, rfl, _, rfl, (by show 2 ≤ sizeLine; decide), tail _ (fun b ob nb hb => (upd_ne nb).trans hb) upd_same⟩
    | d0 =>
      refine ⟨_, rfl, _, _, _, _, false, rfl, .ty _, .base (.dK hT1), kit_ty (by decide +kernel), _, rfl, iteF ?_⟩
      refine ⟨_, rfl, T, _, rfl, DPut.k (k := Sum.inr "mark") hT1 (by show 0 < sizeLine; decide), ?_⟩
      exact ⟨_, rfl, _, rfl, (by show 2 ≤ sizeLine; decide), tail _ (fun b ob nb hb => (upd_ne nb).trans hb) upd_same⟩
    | d1 =>
      refine ⟨_, rfl, _, _, _, _, false, rfl, .ty _, .base (.dK hT1), kit_ty (by decide +kernel), _, rfl, iteF ?_⟩
      refine ⟨_, rfl, T, _, rfl, DPut.k (k := Sum.inr "mark") hT1 (by show 1 < sizeLine; decide), ?_⟩
      exact ⟨_, rfl, _, rfl, (by show 2 ≤ sizeLine; decide), tail _ (fun b ob nb hb => (upd_ne nb).trans hb) upd_same⟩
end
end Paw

set_option maxRecDepth 100000
set_option maxHeartbeats 4000000
namespace Paw
open PySem PySem.Spec PyProof.Rows L2
abbrev sBack : Stmt := top 31
abbrev sNb : Stmt := top 32
theorem low_id {m c : Int} (h : 1 ≤ c) (g : gz m c = 1) : low m c = (m, c) := by
  have e : sg m c = 1 := by
    unfold sg
    rw [if_neg (by rw [decide_eq_true_eq]; omega)]
    exact g
  unfold low
  rw [e, Int.fdiv_one, Int.fdiv_one]
theorem gz_one {m : Int} : gz m 1 = 1 := by
  unfold gz
  rw [show (1 : Int).natAbs = 1 from rfl, Nat.gcd_one_right]
  rfl
theorem gz_one' {m : Int} : gz 1 m = 1 := by
  unfold gz
  rw [show (1 : Int).natAbs = 1 from rfl, Nat.gcd_one_left]
  rfl
theorem low_self {x : Int} (h : 0 < x) : low x x = (1, 1) := by
  have e : sg x x = x := by
    unfold sg
    rw [if_neg (by rw [decide_eq_true_eq]; omega)]
    unfold gz
    rw [Nat.gcd_self]
    omega
  unfold low
  rw [e, Int.fdiv_self (by omega)]
theorem low_six {a b : Int} (h : 1 ≤ a) (g : gz b a = 1) : low (6 * b) (6 * a) = (b, a) := by
  have e : sg (6 * b) (6 * a) = 6 := by
    unfold sg
    rw [if_neg (by rw [decide_eq_true_eq]; omega)]
    unfold gz at g ⊢
    rw [Int.natAbs_mul, Int.natAbs_mul, Nat.gcd_mul_left]
    have z : Nat.gcd b.natAbs a.natAbs = 1 := by omega
    rw [z]
    rfl
  unfold low
  rw [e, Int.mul_fdiv_cancel_left _ (by decide), Int.mul_fdiv_cancel_left _ (by decide)]
/-- a fraction stands at r -/
structure FrAt (K : PySem.W.Frag) (H : Hp) (r : Addr) (m c : Int) : Prop where
  at_ : SqT K H r [.int m, .int c]
  pos : 1 ≤ c
  low_ : gz m c = 1
  s1 : m.natAbs < 2 ^ 1100
  s2 : c.natAbs < 2 ^ 1100
theorem FrAt.mono {K : PySem.W.Frag} {H H' : Hp} {r : Addr} {m c : Int} (h : FrAt K H r m c) (s : Same H H') : FrAt K H' r m c := ⟨sqt_mono s h.at_, h.pos, h.low_, h.s1, h.s2⟩
theorem FrAt.rd {K : PySem.W.Frag} {H : Hp} {r : Addr} {m c : Int} (h : FrAt K H r m c) : RD K H (.ref r) (.tuple [.int m, .int c]) := .tup h.at_ (.cons (.int _) (.cons (.int _) .nil))
theorem FrAt.isF {K : PySem.W.Frag} {H : Hp} {r : Addr} {m c : Int} (h : FrAt K H r m c) : isF (.tuple [.int m, .int c]) = true := by
  show (decide (1 ≤ c) && decide (gz m c = 1)) = true
  rw [decide_eq_true h.pos, decide_eq_true h.low_]
  rfl
theorem FrAt.sz {K : PySem.W.Frag} {H : Hp} {r : Addr} {m c : Int} (h : FrAt K H r m c) : szD (.tuple [.int m, .int c]) := ⟨h.s1, h.s2⟩
theorem dp_pair {K : PySem.W.Frag} {H : Hp} {r : Addr} {m c : Int} (h : SqT K H r [.int m, .int c]) : Dp K H (.ref r) (.tuple [.int m, .int c]) := .tup h (.cons (.int _) (.cons (.int _) .nil))
theorem eqv_pair {m c : Int} : PyData.eqv (.tuple [.int m, .int c]) (.tuple [.int m, .int c]) = true := by
  simp [PyData.eqv, PyData.eqvAll]
theorem nev_pair {m c : Int} : (!PyData.eqv (.tuple [.int m, .int c]) (.tuple [.int m, .int c])) = false := by
  rw [eqv_pair]
  rfl
section
variable {K : PySem.W.Frag} {H : Hp} {r1 r2 r3 : Addr} {m1 c1 m2 c2 m3 c3 : Int}
theorem sz2 (h1 : FrAt K H r1 m1 c1) (h2 : FrAt K H r2 m2 c2) : ∀ d ∈ [PyData.tuple [.int m1, .int c1], .tuple [.int m2, .int c2]], szD d := fun d hd => by
  rcases List.mem_cons.mp hd with rfl | hd
  · exact h1.sz
  · rw [List.mem_singleton.mp hd]
    exact h2.sz
theorem sz3 (h1 : FrAt K H r1 m1 c1) (h2 : FrAt K H r2 m2 c2) (h3 : FrAt K H r3 m3 c3) : ∀ d ∈ [PyData.tuple [.int m1, .int c1], .tuple [.int m2, .int c2], .tuple [.int m3, .int c3]], szD d := fun d hd => by
  rcases List.mem_cons.mp hd with rfl | hd
  · exact h1.sz
  · exact sz2 h2 h3 d hd
theorem bad2 {X : V → Prop} (h1 : FrAt K H r1 m1 c1) (h2 : FrAt K H r2 m2 c2) : ∀ v, firstBad [V.ref r1, V.ref r2] [.tuple [.int m1, .int c1], .tuple [.int m2, .int c2]] = some v → X v := fun v hv => by
  have e : firstBad [V.ref r1, V.ref r2] [.tuple [.int m1, .int c1], .tuple [.int m2, .int c2]] = none := (if_pos h1.isF).trans ((if_pos h2.isF).trans rfl)
  rw [e] at hv
  cases hv
theorem bad3 {X : V → Prop} (h1 : FrAt K H r1 m1 c1) (h2 : FrAt K H r2 m2 c2) (h3 : FrAt K H r3 m3 c3) : ∀ v, firstBad [V.ref r1, V.ref r2, V.ref r3] [.tuple [.int m1, .int c1], .tuple [.int m2, .int c2], .tuple [.int m3, .int c3]] = some v → X v := fun v hv => by
  have e : firstBad [V.ref r1, V.ref r2, V.ref r3] [.tuple [.int m1, .int c1], .tuple [.int m2, .int c2], .tuple [.int m3, .int c3]] = none := (if_pos h1.isF).trans ((if_pos h2.isF).trans ((if_pos h3.isF).trans rfl))
  rw [e] at hv
  cases hv
end
theorem noI {t : Int} {X : Prop} : isI (.int t) = false → X := fun h => by cases h
theorem noB {t b : Int} {X : Prop} (b0 : b ≠ 0) : isI (.int t) = true → okB (.int b) = false → X := fun _ h => absurd (show (!decide (b = 0)) = false from h) (by simp [b0])
theorem int2 {X : Int → Int → Prop} {t b : Int} (h : X t b) : ∀ t' b' : Int, PyData.int t = .int t' → PyData.int b = .int b' → b' ≠ 0 → X t' b' := fun t' b' e1 e2 _ => by
  injection e1 with e1
  injection e2 with e2
  subst e1
  subst e2
  exact h
theorem lt60 {i : Int} {n : Nat} (h : i.natAbs ≤ n) (g : n < 2 ^ 100) : i.natAbs < 2 ^ 1100 := Nat.lt_of_le_of_lt h (Nat.lt_of_lt_of_le g (Nat.pow_le_pow_right (by decide) (by decide)))
theorem fT2 {m1 c1 m2 c2 : Int} (h : 1 ≤ c1) (g : gz m1 c1 = 1) : foldS stepT [.tuple [.int m1, .int c1], .tuple [.int m2, .int c2]] 0 1 = stepT m1 c1 m2 c2 := by
  have e : stepT 0 1 m1 c1 = (m1, c1) := by
    unfold stepT
    rw [Int.zero_mul, Int.zero_add, Int.mul_one, Int.one_mul]
    exact low_id h g
  show stepT (stepT 0 1 m1 c1).1 (stepT 0 1 m1 c1).2 m2 c2 = _
  rw [e]
theorem fP2 {m1 c1 m2 c2 : Int} (h : 1 ≤ c1) (g : gz m1 c1 = 1) : foldS stepP [.tuple [.int m1, .int c1], .tuple [.int m2, .int c2]] 1 1 = stepP m1 c1 m2 c2 := by
  have e : stepP 1 1 m1 c1 = (m1, c1) := by
    unfold stepP
    rw [Int.one_mul, Int.one_mul]
    exact low_id h g
  show stepP (stepP 1 1 m1 c1).1 (stepP 1 1 m1 c1).2 m2 c2 = _
  rw [e]
theorem fP3 {m1 c1 m2 c2 m3 c3 : Int} (h : 1 ≤ c1) (g : gz m1 c1 = 1) : foldS stepP [.tuple [.int m1, .int c1], .tuple [.int m2, .int c2], .tuple [.int m3, .int c3]] 1 1 = stepP (stepP m1 c1 m2 c2).1 (stepP m1 c1 m2 c2).2 m3 c3 := by
  have e : stepP 1 1 m1 c1 = (m1, c1) := by
    unfold stepP
    rw [Int.one_mul, Int.one_mul]
    exact low_id h g
  show stepP (stepP (stepP 1 1 m1 c1).1 (stepP 1 1 m1 c1).2 m2 c2).1 (stepP (stepP 1 1 m1 c1).1 (stepP 1 1 m1 c1).2 m2 c2).2 m3 c3 = _
  rw [e]
theorem stepP_turn {f g : Int} : stepP (stepP f 1 1 g).1 (stepP f 1 1 g).2 f 1 = stepP f 1 (stepP 1 g f 1).1 (stepP 1 g f 1).2 := by
  have e : stepP f 1 1 g = stepP 1 g f 1 := by
    unfold stepP
    rw [Int.mul_comm f 1, Int.mul_comm 1 g]
  rw [e]
  show low ((stepP 1 g f 1).1 * f) ((stepP 1 g f 1).2 * 1) = low (f * (stepP 1 g f 1).1) (1 * (stepP 1 g f 1).2)
  rw [Int.mul_comm (stepP 1 g f 1).1 f, Int.mul_comm (stepP 1 g f 1).2 1]
def spBack : Sp := fun vs H Q _ => ∃ (p : Addr) (b : Bool) (L : List V), vs = [.ref p] ∧ H p = some (.lst L) ∧ Pile b L ∧ ∀ (L' : List V) (H' : Hp), But p H H' → H' p = some (.lst L') → Pile b L' → Q (.bl true) H'
def spNb : Sp := fun vs H Q _ => vs = [] ∧ ∀ H', Same H H' → Q (.bl true) H'
section
variable {P : Program} {w : World} {K : PySem.W.Frag} {mg : Str → Option Value} {base : Heap}
theorem scBack : FnScope ["pile", "one", "other", "far", "found", "more"] ["pile"] (defScope sBack) := ⟨rfl, rfl, rfl, by decide +kernel, rfl, by decide +kernel, by decide +kernel⟩
theorem ok_back {C f fK fF fS fM fL fP fT : Addr} {fd fdK fdF fdL fdP fdT : FuncData} (F : Fun K "_law_back_right" "_law_back_right" sBack f fd)
    (GK : FnOk P w K mg base CX0 2 fK fdK ["pile", "many"] spTake) (gK : mg "_law_take" = some (.ref fK)) (kK : PySem.W.keepIn K (.ref fK) = true) (bK : Binds K fdK ["pile", "many"] [])
    (GF : FnOk P w K mg base (L2.CX P w) 3 fF fdF ["top", "bottom"] (spFraction K C)) (gF : mg "fraction" = some (.ref fF)) (kF : PySem.W.keepIn K (.ref fF) = true) (bF : Binds K fdF ["top", "bottom"] [])
    (GS : FnR P w K mg base (L2.CX P w) 4 fS (spSum K C stepT 0)) (gS : mg "total" = some (.ref fS)) (kS : PySem.W.keepIn K (.ref fS) = true)
    (GM : FnR P w K mg base (L2.CX P w) 4 fM (spSum K C stepP 1)) (gM : mg "product" = some (.ref fM)) (kM : PySem.W.keepIn K (.ref fM) = true)
    (GL : FnOk P w K mg base CX0 2 fL fdL ["top", "bottom"] spLowest) (gL : mg "_law_lowest" = some (.ref fL)) (kL : PySem.W.keepIn K (.ref fL) = true) (bL : Binds K fdL ["top", "bottom"] [])
    (GP : FnOk P w K mg base CX0 3 fP fdP ["one", "other"] (spStep K stepT)) (gP : mg "_law_plus" = some (.ref fP)) (kP : PySem.W.keepIn K (.ref fP) = true) (bP : Binds K fdP ["one", "other"] [])
    (GT : FnOk P w K mg base CX0 3 fT fdT ["one", "other"] (spStep K stepP)) (gT : mg "_law_times" = some (.ref fT)) (kT : PySem.W.keepIn K (.ref fT) = true) (bT : Binds K fdT ["one", "other"] []) :
    FnOk P w K mg base CX0 5 f fd ["pile"] spBack := by
  refine F.ok scBack (fun vs H Q E h => ?_) (fun cdv A outer s H vs Q E hr h => ?_)
  · obtain ⟨p, b, L, rfl, _⟩ := h
    rfl
  · obtain ⟨p, b, L, rfl, hp, hL, q⟩ := h
    have hr2 := hr.mono (show 2 ≤ 4 by decide)
    have hr3 := hr.mono (show 3 ≤ 4 by decide)
    have GF2 := fnR_of GF bF .nil
    refine ⟨_, pss_cons (ps_par (i := 1) (j := 2) rfl scBack.nd rfl rfl (by decide) rfl rfl (pa_cons (pe_call GK hr2 rfl gK kK bK .nil pass0 (pa_cons (pv 0) (pa_cons (pe_op op_pow pe_int pe_int) pa_nil))) (pa_cons (pe_call GK hr2 rfl gK kK bK .nil pass0 (pa_cons (pv 0) (pa_cons (pe_op op_sub (pe_op op_pow pe_int pe_int) pe_int) pa_nil))) pa_nil)) (by rfl))
      (pss_cons (ps_set (i := 3) scBack.nd rfl (Or.inl rfl) (pe_op op_add pe_int (pe_call GK hr2 rfl gK kK bK .nil pass0 (pa_cons (pv 0) (pa_cons (pe_op op_pow pe_int pe_int) pa_nil)))))
      (pss_cons (ps_set (i := 4) scBack.nd rfl (Or.inl rfl) (pe_callRS GM hr rfl gM kM (fun σ => calmAt σ) (pa_cons (pe_tup (pa_cons (pv 1) (pa_cons pe_int pa_nil))) (pa_cons (pe_tup (pa_cons (pe_op op_add (pv 2) pe_int) (pa_cons pe_int pa_nil))) pa_nil))))
      (pss_cons (ps_if (PW.pt (pw_or (pt_cmpR (op_neD hr.units) (pv 4) (pe_tup (pa_cons (pe_op op_mul (pv 1) (pe_op op_add (pv 2) pe_int)) (pa_cons pe_int pa_nil))) (nomark _))
          (pw_or1 (pt_cmpR (op_neD hr.units) (pe_callRS GF2 hr3 rfl gF kF (fun σ => calmAt σ) (pa_cons (pe_ix ix_tup (pv 4) pe_int (fun _ _ => rfl)) (pa_cons (pv 3) pa_nil))) (pe_call GL hr2 rfl gL kL bL .nil pass0 (pa_cons (pe_ix ix_tup (pv 4) pe_int (fun _ _ => rfl)) (pa_cons (pv 3) pa_nil))) (nomark _))))) (pss_one (ps_ret pe_bl)) pss_nil)
      (pss_cons (ps_if (PW.pt (pw_and (pt_cmpR op_gt (pv 1) pe_int (nomark _))
          (pw_and1 (pt_cmpR (op_neD hr.units) (pe_callRS GF2 hr3 rfl gF kF (fun σ => calmAt σ) (pa_cons (pe_un un_neg (pv 3)) (pa_cons (pe_ix ix_tup (pv 4) pe_int (fun _ _ => rfl)) pa_nil))) (pe_call GL hr2 rfl gL kL bL .nil pass0 (pa_cons (pe_un un_neg (pv 3)) (pa_cons (pe_ix ix_tup (pv 4) pe_int (fun _ _ => rfl)) pa_nil))) (nomark _))))) (pss_one (ps_ret pe_bl)) pss_nil)
      (pss_cons (ps_set (i := 5) scBack.nd rfl (Or.inl rfl) (pe_tup (pa_cons pe_int (pa_cons (pv 3) pa_nil))))
      (pss_cons (ps_if (pt_cmpR (op_neD hr.units) (pe_callRS GS hr rfl gS kS (fun σ => calmAt σ) (pa_cons (pv 4) (pa_cons (pv 5) pa_nil))) (pe_call GP hr3 rfl gP kP bP .nil pass0 (pa_cons (pv 4) (pa_cons (pv 5) pa_nil))) (nomark _)) (pss_one (ps_ret pe_bl)) pss_nil)
      (pss_cons (ps_if (pt_cmpR (op_neD hr.units) (pe_callRS GM hr rfl gM kM (fun σ => calmAt σ) (pa_cons (pv 4) (pa_cons (pv 5) (pa_cons (pv 4) pa_nil)))) (pe_call GT hr3 rfl gT kT bT .nil pass0 (pa_cons (pv 4) (pa_cons (pe_call GT hr3 rfl gT kT bT .nil pass0 (pa_cons (pv 5) (pa_cons (pv 4) pa_nil))) pa_nil))) (nomark _)) (pss_one (ps_ret pe_bl)) pss_nil)
      (pss_one (ps_ret (pe_cmpR (op_eqD hr.units) (pe_callRS GS hr rfl gS kS (fun σ => calmAt σ) (pa_cons (pe_callRS GS hr rfl gS kS (fun σ => calmAt σ) (pa_cons (pv 4) (pa_cons (pv 4) pa_nil))) (pa_cons (pv 5) pa_nil)))
          (pe_call GP hr3 rfl gP kP bP .nil pass0 (pa_cons (pe_call GP hr3 rfl gP kP bP .nil pass0 (pa_cons (pv 4) (pa_cons (pv 4) pa_nil))) (pa_cons (pv 5) pa_nil))) (nomark _))))))))))), ?_⟩
    have pow3 : (10 : Int) ^ (12 : Int).toNat = 1000000000000 ∧ (10 : Int) ^ (6 : Int).toNat = 1000000 := by decide +kernel
    refine ⟨_, rfl, _, _, rfl, rfl, ⟨by decide, by decide, by decide⟩, p, _, b, L, rfl, (by decide +kernel), (by decide +kernel), hp, hL, fun x L1 H1 x0 x1 hL1 b1 hp1 => ?_⟩
    refine ⟨_, rfl, _, _, rfl, rfl, ⟨by decide, by decide, by decide⟩, _, _, rfl, rfl, p, _, b, L1, rfl, (by decide +kernel), (by decide +kernel), hp1, hL1, fun y L2 H2 y0 y1 hL2 b2 hp2 => ?_⟩
    rw [pow3.1] at x1 y1
    refine ⟨_, _, rfl, _, rfl, _, _, rfl, rfl, ⟨by decide, by decide, by decide⟩, p, _, b, L2, rfl, (by decide +kernel), (by decide +kernel), hp2, hL2, fun z L3 H3 z0 z1 hL3 b3 hp3 => ⟨_, _, rfl, rfl, ?_⟩⟩
    rw [pow3.2] at z1
    have sz : ∀ {i : Int}, i.natAbs ≤ 10 ^ 26 → i.natAbs < 2 ^ 1100 := fun {i} h => lt60 h (by decide)
    have f0 : 0 ≤ x * (y + 1) := Int.mul_nonneg x0 (by omega)
    have f1 : x * (y + 1) ≤ 1000000000000 * 1000000000000 := Int.mul_le_mul (by omega) (by omega) (by omega) (by decide)
    have fabs : (x * (y + 1)).natAbs ≤ 10 ^ 25 := by omega
    refine ⟨_, rfl, (by show 2 ≤ sizeLine; decide), fun ra ha => ⟨_, rfl, _, _, rfl, rfl, (by show 2 ≤ sizeLine; decide), fun rb hb => ?_⟩⟩
    have frA : FrAt K (upd (upd H3 ra (.tup [.int x, .int 1])) rb (.tup [.int (y + 1), .int 1])) ra x 1 := ⟨SqT.of ((same_new hb) _ _ upd_same), by decide, gz_one, sz (by omega), by decide⟩
    have frB : FrAt K (upd (upd H3 ra (.tup [.int x, .int 1])) rb (.tup [.int (y + 1), .int 1])) rb (y + 1) 1 := ⟨SqT.of upd_same, by decide, gz_one, sz (by omega), by decide⟩
    refine ⟨_, .cons frA.rd (.cons frB.rd .nil), (by show 2 ≤ 4; decide), sz2 frA frB, bad2 frA frB, fun _ q0 H4 s4 hq0 he0 => ?_⟩
    rw [fP2 (by decide) gz_one] at he0
    have e0 : stepP x 1 (y + 1) 1 = (x * (y + 1), 1) := by
      show low (x * (y + 1)) (1 * 1) = _
      exact low_id (by decide) gz_one
    rw [e0] at he0
    have S4 : Same H3 H4 := ((same_new ha).trans (same_new hb)).trans s4
    generalize hf : x * (y + 1) = f at f0 f1 fabs he0
    have FF : FrAt K H4 q0 f 1 := ⟨SqT.of he0, by decide, gz_one, sz (by omega), by decide⟩
    have far0 : (1 + z : Int) ≠ 0 := by omega
    have farS : (1 + z : Int).natAbs < 2 ^ 8000 := up_sz (sz (by omega)) (by decide)
    refine ⟨_, rfl, _, rfl, _, rfl, _, _, rfl, rfl, _, _, rfl, rfl, .inl ⟨by omega, by omega⟩, (by show 2 ≤ sizeLine; decide), fun r1 hr1 => ?_⟩
    have s1 := same_new (o := .tup [.int (x * (y + 1)), .int 1]) hr1
    refine ⟨_, _, dp_pair (FF.mono s1).at_, dp_pair (SqT.of (by rw [← hf]; exact upd_same)), rfl, rfl, _, rfl, it_f nev_pair ?_⟩
    refine ⟨_, rfl, q0, _, _, _, rfl, rfl, (FF.mono s1).at_, at0, _, rfl, .int f, .int (1 + z), .int f, .int (1 + z), rfl, .int _, .int _, noI, noB far0, int2 ⟨farS, fun r2 hr2 => ?_⟩⟩
    have s2 := s1.trans (same_new (o := .tup [.int (low f (1 + z)).1, .int (low f (1 + z)).2]) hr2)
    refine ⟨_, rfl, q0, _, _, _, rfl, rfl, (FF.mono s2).at_, at0, _, rfl, f, 1 + z, rfl, far0, farS, fun r3 hr3 => ?_⟩
    have s3 := s2.trans (same_new (o := .tup [.int (low f (1 + z)).1, .int (low f (1 + z)).2]) hr3)
    refine ⟨_, _, dp_pair (SqT.of ((same_new hr3) _ _ upd_same)), dp_pair (SqT.of upd_same), rfl, rfl, _, rfl, it_f nev_pair ?_⟩
    refine ⟨_, rfl, _, _, rfl, rfl, _, rfl, ite2 (fun hpos => ?_) (fun hneg => ?_)⟩
    · have xpos : 0 < x := of_decide_eq_true hpos
      have fpos : f ≠ 0 := by
        have := Int.mul_pos xpos (show (0 : Int) < y + 1 by omega)
        omega
      have fS : f.natAbs < 2 ^ 8000 := up_sz (sz (by omega)) (by decide)
      refine ⟨_, rfl, _, rfl, _, rfl, q0, _, _, _, rfl, rfl, (FF.mono s3).at_, at0, .int (-(1 + z)), .int f, .int (-(1 + z)), .int f, rfl, .int _, .int _, noI, noB fpos, int2 ⟨fS, fun r5 hr5 => ?_⟩⟩
      have s5 := s3.trans (same_new (o := .tup [.int (low (-(1 + z)) f).1, .int (low (-(1 + z)) f).2]) hr5)
      refine ⟨_, rfl, _, rfl, _, rfl, q0, _, _, _, rfl, rfl, (FF.mono s5).at_, at0, -(1 + z), f, rfl, fpos, fS, fun r6 hr6 => ?_⟩
      have s6 := s5.trans (same_new (o := .tup [.int (low (-(1 + z)) f).1, .int (low (-(1 + z)) f).2]) hr6)
      refine ⟨_, _, dp_pair (SqT.of ((same_new hr6) _ _ upd_same)), dp_pair (SqT.of upd_same), rfl, rfl, _, rfl, it_f nev_pair ?_⟩
      have sE := s6
      refine ⟨_, rfl, (by show 2 ≤ sizeLine; decide), fun rm hm => ?_⟩
      have sM := sE.trans (same_new (o := .tup [.int 1, .int (1 + z)]) hm)
      have FM := FF.mono sM
      have MM := (fun {G : Hp} (_ : Same H4 (upd G rm (.tup [.int 1, .int (1 + z)]))) => (⟨SqT.of upd_same, by omega, gz_one', by decide, sz (by omega)⟩ : FrAt K (upd G rm (.tup [.int 1, .int (1 + z)])) rm 1 (1 + z))) sM
      refine ⟨_, rfl, _, rfl, ?_⟩
      refine ⟨_, .cons (FrAt.rd (FM)) (.cons (FrAt.rd (MM)) .nil), (by show 2 ≤ 4; decide), sz2 (FM) (MM), bad2 (FM) (MM), fun _ k1 H5 t5 hk1 hv1 => ?_⟩
      rw [fT2 (by decide) gz_one] at hv1
      refine ⟨_, rfl, _, rfl, q0, rm, f, 1, 1, 1 + z, rfl, (FM.mono t5).at_, (MM.mono t5).at_, by decide, by omega, up_sz FM.s1 (by decide), by decide, by decide, MM.s2, fun k2 hk2 => ?_⟩
      have T5 := t5.trans (same_new (o := .tup [.int (stepT f 1 1 (1 + z)).1, .int (stepT f 1 1 (1 + z)).2]) hk2)
      refine ⟨_, _, dp_pair (SqT.of ((same_new hk2) _ _ hv1)), dp_pair (SqT.of upd_same), rfl, rfl, _, rfl, it_f nev_pair ?_⟩
      refine ⟨_, rfl, _, rfl, _, rfl, ?_⟩
      refine ⟨_, .cons (FrAt.rd ((FM.mono T5))) (.cons (FrAt.rd ((MM.mono T5))) (.cons (FrAt.rd ((FM.mono T5))) .nil)), (by show 3 ≤ 4; decide), sz3 ((FM.mono T5)) ((MM.mono T5)) ((FM.mono T5)), bad3 ((FM.mono T5)) ((MM.mono T5)) ((FM.mono T5)), fun _ k3 H6 t6 hk3 hv3 => ?_⟩
      rw [fP3 (by decide) gz_one, stepP_turn] at hv3
      have T6 := T5.trans t6
      have uv := low_abs1 (t := 1 * f) (b := (1 + z) * 1)
      have uv2 := low_abs2 (t := 1 * f) (b := (1 + z) * 1)
      have un := low_ne (t := 1 * f) (b := (1 + z) * 1) (by omega)
      refine ⟨_, rfl, _, rfl, _, rfl, rm, q0, 1, 1 + z, f, 1, rfl, (MM.mono T6).at_, (FM.mono T6).at_, by omega, by decide, by decide, up_sz MM.s2 (by decide), FM.s1, by decide, fun k4 hk4 => ?_⟩
      have U6 := T6.trans (same_new (o := .tup [.int (stepP 1 (1 + z) f 1).1, .int (stepP 1 (1 + z) f 1).2]) hk4)
      refine ⟨q0, k4, f, 1, (stepP 1 (1 + z) f 1).1, (stepP 1 (1 + z) f 1).2, rfl, (FM.mono U6).at_, SqT.of upd_same, by decide, un, up_sz FM.s1 (by decide), by decide, sz (by show (low (1 * f) ((1 + z) * 1)).1.natAbs ≤ _; omega), sz (by show (low (1 * f) ((1 + z) * 1)).2.natAbs ≤ _; omega), fun k5 hk5 => ?_⟩
      have hk5v := (same_new (o := .tup [.int (stepP f 1 (stepP 1 (1 + z) f 1).1 (stepP 1 (1 + z) f 1).2).1, .int (stepP f 1 (stepP 1 (1 + z) f 1).1 (stepP 1 (1 + z) f 1).2).2]) hk5)
      have W6 := U6.trans hk5v
      refine ⟨_, _, dp_pair (SqT.of (hk5v _ _ ((same_new hk4) _ _ hv3))), dp_pair (SqT.of upd_same), rfl, rfl, _, rfl, it_f nev_pair ?_⟩
      refine ⟨_, rfl, _, rfl, ?_⟩
      refine ⟨_, .cons (FrAt.rd ((FM.mono W6))) (.cons (FrAt.rd ((FM.mono W6))) .nil), (by show 2 ≤ 4; decide), sz2 ((FM.mono W6)) ((FM.mono W6)), bad2 ((FM.mono W6)) ((FM.mono W6)), fun _ k6 H7 t7 hk6 hv6 => ?_⟩
      rw [fT2 (by decide) gz_one] at hv6
      have T7 := W6.trans t7
      have gl := gz_low (t := f * 1 + f * 1) (b := 1 * 1) (by decide)
      have ga1 := low_abs1 (t := f * 1 + f * 1) (b := 1 * 1)
      have ga2 := low_abs2 (t := f * 1 + f * 1) (b := 1 * 1)
      have DD : FrAt K H7 k6 (stepT f 1 f 1).1 (stepT f 1 f 1).2 := ⟨SqT.of hv6, gl.2, gl.1, sz (by show (low (f * 1 + f * 1) (1 * 1)).1.natAbs ≤ _; omega), sz (by show (low (f * 1 + f * 1) (1 * 1)).2.natAbs ≤ _; omega)⟩
      refine ⟨_, rfl, ?_⟩
      refine ⟨_, .cons (FrAt.rd (DD)) (.cons (FrAt.rd ((MM.mono T7))) .nil), (by show 2 ≤ 4; decide), sz2 (DD) ((MM.mono T7)), bad2 (DD) ((MM.mono T7)), fun _ k7 H8 t8 hk7 hv7 => ?_⟩
      rw [fT2 DD.pos DD.low_] at hv7
      have T8 := T7.trans t8
      refine ⟨_, rfl, _, rfl, q0, q0, f, 1, f, 1, rfl, (FM.mono T8).at_, (FM.mono T8).at_, by decide, by decide, up_sz FM.s1 (by decide), by decide, FM.s1, by decide, fun k8 hk8 => ?_⟩
      have U8 := T8.trans (same_new (o := .tup [.int (stepT f 1 f 1).1, .int (stepT f 1 f 1).2]) hk8)
      refine ⟨_, rfl, k8, rm, (stepT f 1 f 1).1, (stepT f 1 f 1).2, 1, 1 + z, rfl, SqT.of upd_same, (MM.mono U8).at_, by have := DD.pos; omega, by omega, up_sz DD.s1 (by decide), up_sz DD.s2 (by decide), by decide, MM.s2, fun k9 hk9 => ?_⟩
      have s9 := same_new (o := .tup [.int (stepT (stepT f 1 f 1).1 (stepT f 1 f 1).2 1 (1 + z)).1, .int (stepT (stepT f 1 f 1).1 (stepT f 1 f 1).2 1 (1 + z)).2]) hk9
      refine ⟨_, _, dp_pair (SqT.of (s9 _ _ ((same_new hk8) _ _ hv7))), dp_pair (SqT.of upd_same), rfl, rfl, ?_⟩
      rw [eqv_pair]
      have all := (S4.trans sM).trans (U8.trans s9)
      exact q L3 _ (((b1.trans b2).trans b3).trans (same_but all)) (all _ _ hp3) hL3
    · have sE := s3
      refine ⟨_, rfl, (by show 2 ≤ sizeLine; decide), fun rm hm => ?_⟩
      have sM := sE.trans (same_new (o := .tup [.int 1, .int (1 + z)]) hm)
      have FM := FF.mono sM
      have MM := (fun {G : Hp} (_ : Same H4 (upd G rm (.tup [.int 1, .int (1 + z)]))) => (⟨SqT.of upd_same, by omega, gz_one', by decide, sz (by omega)⟩ : FrAt K (upd G rm (.tup [.int 1, .int (1 + z)])) rm 1 (1 + z))) sM
      refine ⟨_, rfl, _, rfl, ?_⟩
      refine ⟨_, .cons (FrAt.rd (FM)) (.cons (FrAt.rd (MM)) .nil), (by show 2 ≤ 4; decide), sz2 (FM) (MM), bad2 (FM) (MM), fun _ k1 H5 t5 hk1 hv1 => ?_⟩
      rw [fT2 (by decide) gz_one] at hv1
      refine ⟨_, rfl, _, rfl, q0, rm, f, 1, 1, 1 + z, rfl, (FM.mono t5).at_, (MM.mono t5).at_, by decide, by omega, up_sz FM.s1 (by decide), by decide, by decide, MM.s2, fun k2 hk2 => ?_⟩
      have T5 := t5.trans (same_new (o := .tup [.int (stepT f 1 1 (1 + z)).1, .int (stepT f 1 1 (1 + z)).2]) hk2)
      refine ⟨_, _, dp_pair (SqT.of ((same_new hk2) _ _ hv1)), dp_pair (SqT.of upd_same), rfl, rfl, _, rfl, it_f nev_pair ?_⟩
      refine ⟨_, rfl, _, rfl, _, rfl, ?_⟩
      refine ⟨_, .cons (FrAt.rd ((FM.mono T5))) (.cons (FrAt.rd ((MM.mono T5))) (.cons (FrAt.rd ((FM.mono T5))) .nil)), (by show 3 ≤ 4; decide), sz3 ((FM.mono T5)) ((MM.mono T5)) ((FM.mono T5)), bad3 ((FM.mono T5)) ((MM.mono T5)) ((FM.mono T5)), fun _ k3 H6 t6 hk3 hv3 => ?_⟩
      rw [fP3 (by decide) gz_one, stepP_turn] at hv3
      have T6 := T5.trans t6
      have uv := low_abs1 (t := 1 * f) (b := (1 + z) * 1)
      have uv2 := low_abs2 (t := 1 * f) (b := (1 + z) * 1)
      have un := low_ne (t := 1 * f) (b := (1 + z) * 1) (by omega)
      refine ⟨_, rfl, _, rfl, _, rfl, rm, q0, 1, 1 + z, f, 1, rfl, (MM.mono T6).at_, (FM.mono T6).at_, by omega, by decide, by decide, up_sz MM.s2 (by decide), FM.s1, by decide, fun k4 hk4 => ?_⟩
      have U6 := T6.trans (same_new (o := .tup [.int (stepP 1 (1 + z) f 1).1, .int (stepP 1 (1 + z) f 1).2]) hk4)
      refine ⟨q0, k4, f, 1, (stepP 1 (1 + z) f 1).1, (stepP 1 (1 + z) f 1).2, rfl, (FM.mono U6).at_, SqT.of upd_same, by decide, un, up_sz FM.s1 (by decide), by decide, sz (by show (low (1 * f) ((1 + z) * 1)).1.natAbs ≤ _; omega), sz (by show (low (1 * f) ((1 + z) * 1)).2.natAbs ≤ _; omega), fun k5 hk5 => ?_⟩
      have hk5v := (same_new (o := .tup [.int (stepP f 1 (stepP 1 (1 + z) f 1).1 (stepP 1 (1 + z) f 1).2).1, .int (stepP f 1 (stepP 1 (1 + z) f 1).1 (stepP 1 (1 + z) f 1).2).2]) hk5)
      have W6 := U6.trans hk5v
      refine ⟨_, _, dp_pair (SqT.of (hk5v _ _ ((same_new hk4) _ _ hv3))), dp_pair (SqT.of upd_same), rfl, rfl, _, rfl, it_f nev_pair ?_⟩
      refine ⟨_, rfl, _, rfl, ?_⟩
      refine ⟨_, .cons (FrAt.rd ((FM.mono W6))) (.cons (FrAt.rd ((FM.mono W6))) .nil), (by show 2 ≤ 4; decide), sz2 ((FM.mono W6)) ((FM.mono W6)), bad2 ((FM.mono W6)) ((FM.mono W6)), fun _ k6 H7 t7 hk6 hv6 => ?_⟩
      rw [fT2 (by decide) gz_one] at hv6
      have T7 := W6.trans t7
      have gl := gz_low (t := f * 1 + f * 1) (b := 1 * 1) (by decide)
      have ga1 := low_abs1 (t := f * 1 + f * 1) (b := 1 * 1)
      have ga2 := low_abs2 (t := f * 1 + f * 1) (b := 1 * 1)
      have DD : FrAt K H7 k6 (stepT f 1 f 1).1 (stepT f 1 f 1).2 := ⟨SqT.of hv6, gl.2, gl.1, sz (by show (low (f * 1 + f * 1) (1 * 1)).1.natAbs ≤ _; omega), sz (by show (low (f * 1 + f * 1) (1 * 1)).2.natAbs ≤ _; omega)⟩
      refine ⟨_, rfl, ?_⟩
      refine ⟨_, .cons (FrAt.rd (DD)) (.cons (FrAt.rd ((MM.mono T7))) .nil), (by show 2 ≤ 4; decide), sz2 (DD) ((MM.mono T7)), bad2 (DD) ((MM.mono T7)), fun _ k7 H8 t8 hk7 hv7 => ?_⟩
      rw [fT2 DD.pos DD.low_] at hv7
      have T8 := T7.trans t8
      refine ⟨_, rfl, _, rfl, q0, q0, f, 1, f, 1, rfl, (FM.mono T8).at_, (FM.mono T8).at_, by decide, by decide, up_sz FM.s1 (by decide), by decide, FM.s1, by decide, fun k8 hk8 => ?_⟩
      have U8 := T8.trans (same_new (o := .tup [.int (stepT f 1 f 1).1, .int (stepT f 1 f 1).2]) hk8)
      refine ⟨_, rfl, k8, rm, (stepT f 1 f 1).1, (stepT f 1 f 1).2, 1, 1 + z, rfl, SqT.of upd_same, (MM.mono U8).at_, by have := DD.pos; omega, by omega, up_sz DD.s1 (by decide), up_sz DD.s2 (by decide), by decide, MM.s2, fun k9 hk9 => ?_⟩
      have s9 := same_new (o := .tup [.int (stepT (stepT f 1 f 1).1 (stepT f 1 f 1).2 1 (1 + z)).1, .int (stepT (stepT f 1 f 1).1 (stepT f 1 f 1).2 1 (1 + z)).2]) hk9
      refine ⟨_, _, dp_pair (SqT.of (s9 _ _ ((same_new hk8) _ _ hv7))), dp_pair (SqT.of upd_same), rfl, rfl, ?_⟩
      rw [eqv_pair]
      have all := (S4.trans sM).trans (U8.trans s9)
      exact q L3 _ (((b1.trans b2).trans b3).trans (same_but all)) (all _ _ hp3) hL3
end
end Paw

set_option maxRecDepth 100000
set_option maxHeartbeats 4000000
namespace Paw
open PySem PySem.Spec PyProof.Rows L2
/-- the neighbours behind i sums -/
structure Nb (i : Nat) (a b : Int) : Prop where
  a1 : 1 ≤ a
  b1 : 1 ≤ b
  g : Nat.gcd a.natAbs b.natAbs = 1
  ba : a.natAbs * 8 ^ i ≤ 13 ^ i
  bb : b.natAbs * 8 ^ (i + 1) ≤ 13 ^ (i + 1)
theorem nb_zero : Nb 0 1 1 := ⟨by decide, by decide, by decide, by decide, by decide⟩
theorem nb_next {i : Nat} {a b : Int} (h : Nb i a b) : Nb (i + 1) b (a + b) := by
  obtain ⟨a1, b1, g, ba, bb⟩ := h
  refine ⟨b1, by omega, ?_, bb, ?_⟩
  · have e : (a + b).natAbs = a.natAbs + b.natAbs := by omega
    rw [e, Nat.gcd_comm, Nat.gcd_add_self_left]
    exact g
  · have e : (a + b).natAbs = a.natAbs + b.natAbs := by omega
    have e8 : (8 : Nat) ^ (i + 1 + 1) = 8 ^ i * 64 := by rw [Nat.pow_succ, Nat.pow_succ, Nat.mul_assoc]
    have e8b : (8 : Nat) ^ (i + 1) = 8 ^ i * 8 := Nat.pow_succ ..
    have e13 : (13 : Nat) ^ (i + 1 + 1) = 13 ^ i * 169 := by rw [Nat.pow_succ, Nat.pow_succ, Nat.mul_assoc]
    have e13b : (13 : Nat) ^ (i + 1) = 13 ^ i * 13 := Nat.pow_succ ..
    rw [e8b, e13b, ← Nat.mul_assoc] at bb
    rw [e, e8, e13, Nat.add_mul, ← Nat.mul_assoc, ← Nat.mul_assoc]
    generalize a.natAbs * 8 ^ i = u at ba ⊢
    generalize b.natAbs * 8 ^ i = v at bb ⊢
    generalize 13 ^ i = w at ba bb ⊢
    omega
theorem big_pow : 13 ^ 1500 < 2 ^ 1100 * 8 ^ 1500 ∧ 13 ^ 1501 < 2 ^ 1100 * 8 ^ 1501 := by decide +kernel
theorem nb_small {a b : Int} (h : Nb 1500 a b) : a.natAbs < 2 ^ 1100 ∧ b.natAbs < 2 ^ 1100 := by
  have z := big_pow
  constructor
  · exact Nat.lt_of_mul_lt_mul_right (Nat.lt_of_le_of_lt h.ba z.1)
  · exact Nat.lt_of_mul_lt_mul_right (Nat.lt_of_le_of_lt h.bb z.2)
theorem Nb.gab {i : Nat} {a b : Int} (h : Nb i a b) : gz a b = 1 := by
  unfold gz
  rw [h.g]
  rfl
theorem Nb.gba {i : Nat} {a b : Int} (h : Nb i a b) : gz b a = 1 := by
  unfold gz
  rw [Nat.gcd_comm, h.g]
  rfl
section
variable {P : Program} {w : World} {K : PySem.W.Frag} {mg : Str → Option Value} {base : Heap}
theorem scNb : FnScope ["one", "other", "turn"] [] (defScope sNb) := ⟨rfl, rfl, rfl, by decide +kernel, rfl, by decide +kernel, by decide +kernel⟩
theorem ok_nb {C f fF fM : Addr} {fd fdF : FuncData} {ds1 : List Value} (F : Fun K "_law_neighbours_right" "_law_neighbours_right" sNb f fd)
    (GF : FnOk P w K mg base (L2.CX P w) 3 fF fdF ["top", "bottom"] (spFraction K C)) (gF : mg "fraction" = some (.ref fF)) (kF : PySem.W.keepIn K (.ref fF) = true) (bF : Binds K fdF ["top", "bottom"] []) (b1 : Binds K fdF ["top", "bottom"] ds1) (v1 : Vals [V.int 1] ds1)
    (GM : FnR P w K mg base (L2.CX P w) 4 fM (spSum K C stepP 1)) (gM : mg "product" = some (.ref fM)) (kM : PySem.W.keepIn K (.ref fM) = true) (zr : mg "range" = none) :
    FnOk P w K mg base CX0 5 f fd [] spNb := by
  refine F.ok scNb (fun vs H Q E h => ?_) (fun cdv A outer s H vs Q E hr h => ?_)
  · obtain ⟨rfl, _⟩ := h
    rfl
  · obtain ⟨rfl, q⟩ := h
    have hr3 := hr.mono (show 3 ≤ 4 by decide)
    have GF2 := fnR_of GF bF .nil
    have GF1 := fnR_of GF b1 v1
    refine ⟨_, pss_cons (ps_par (i := 0) (j := 1) rfl scNb.nd rfl rfl (by decide) rfl rfl (pa_cons (pe_ix ix_tup (pe_callRS GF1 hr3 rfl gF kF (fun σ => calmAt σ) (pa_cons pe_int pa_nil)) pe_int (fun _ _ => rfl)) (pa_cons (pe_ix ix_tup (pe_callRS GF1 hr3 rfl gF kF (fun σ => calmAt σ) (pa_cons pe_int pa_nil)) pe_int (fun _ _ => rfl)) pa_nil)) (by rfl))
      (pss_cons (ps_for PassesOwn.never rfl (pi_range1 rfl zr (pa_cons pe_int pa_nil)) (pg_name (i := 2) scNb.nd rfl (Or.inl rfl)) (pss_one (ps_par (i := 0) (j := 1) rfl scNb.nd rfl rfl (by decide) rfl rfl (pa_cons (pv 1) (pa_cons (pe_op op_add (pv 0) (pv 1)) pa_nil)) (by rfl))))
      (pss_cons (ps_if (pt_cmpR (op_neD hr.units) (pe_callRS GF2 hr3 rfl gF kF (fun σ => calmAt σ) (pa_cons (pe_op op_mul pe_int (pv 1)) (pa_cons (pe_op op_mul pe_int (pv 0)) pa_nil))) (pe_tup (pa_cons (pv 1) (pa_cons (pv 0) pa_nil))) (nomark _)) (pss_one (ps_ret pe_bl)) pss_nil)
      (pss_one (ps_ret (pe_cmpR (op_eqD hr.units) (pe_callRS GM hr rfl gM kM (fun σ => calmAt σ) (pa_cons (pe_tup (pa_cons (pv 0) (pa_cons (pv 1) pa_nil))) (pa_cons (pe_tup (pa_cons (pv 1) (pa_cons (pv 0) pa_nil))) pa_nil))) (pe_tup (pa_cons pe_int (pa_cons pe_int pa_nil))) (nomark _)))))), ?_⟩
    have l11 : low 1 1 = (1, 1) := low_id (by decide) gz_one
    refine ⟨.int 1, .int 1, .int 1, .int 1, rfl, .int _, .int _, noI, noB (by decide), int2 ⟨by decide, fun r1 hr1 => ?_⟩⟩
    refine ⟨r1, _, _, _, rfl, rfl, SqT.of upd_same, at0, .int 1, .int 1, .int 1, .int 1, rfl, .int _, .int _, noI, noB (by decide), int2 ⟨by decide, fun r2 hr2 => ?_⟩⟩
    refine ⟨r2, _, _, _, rfl, rfl, SqT.of upd_same, at0, _, _, rfl, 1500, rfl, by decide, by decide, ?_⟩
    have s2 := (same_new (o := .tup [.int (low 1 1).1, .int (low 1 1).2]) hr1).trans (same_new (o := .tup [.int (low 1 1).1, .int (low 1 1).2]) hr2)
    refine for_range (n := 1500) (fun i σ H' => Same H H' ∧ ∃ (a b : Int) (v2 : Option V), σ = [some (.int a), some (.int b), v2] ∧ Nb i a b) ⟨s2, 1, 1, none, by rw [l11]; rfl, nb_zero⟩ ?_ ?_
    · rintro i σ H' hi ⟨s', a, b, v2, rfl, nb⟩
      exact ⟨_, rfl, _, rfl, _, rfl, _, _, rfl, rfl, _, _, rfl, s', b, a + b, _, rfl, nb_next nb⟩
    · rintro σ H' ⟨s', a, b, v2, rfl, nb⟩
      obtain ⟨sa, sb⟩ := nb_small nb
      have a1 := nb.a1
      have b1' := nb.b1
      have a0 : 6 * a ≠ 0 := by omega
      have aS : (6 * a).natAbs < 2 ^ 8000 := up_sz (wide_lt (a := 3) (b := 1100) (by decide) sa) (by decide)
      refine ⟨_, rfl, _, _, rfl, rfl, .inl ⟨by decide, by decide⟩, _, rfl, _, _, rfl, rfl, .inl ⟨by decide, by decide⟩, .int (6 * b), .int (6 * a), .int (6 * b), .int (6 * a), rfl, .int _, .int _, noI, noB a0, int2 ⟨aS, fun r3 hr3 => ?_⟩⟩
      refine ⟨_, rfl, _, rfl, (by show 2 ≤ sizeLine; decide), fun r4 hr4 => ?_⟩
      have e6 : low (6 * b) (6 * a) = (b, a) := low_six a1 nb.gba
      have s3 := same_new (o := .tup [.int (low (6 * b) (6 * a)).1, .int (low (6 * b) (6 * a)).2]) hr3
      have s4 := same_new (o := .tup [.int b, .int a]) hr4
      have h3 := (same_new (o := .tup [.int b, .int a]) hr4) r3 _ upd_same
      rw [e6] at h3
      refine ⟨_, _, dp_pair (SqT.of (by rw [e6]; exact h3)), dp_pair (SqT.of upd_same), rfl, rfl, _, rfl, it_f nev_pair ?_⟩
      have sE := (s'.trans s3).trans s4
      refine ⟨_, rfl, _, rfl, (by show 2 ≤ sizeLine; decide), fun ra ha => ⟨_, rfl, _, rfl, (by show 2 ≤ sizeLine; decide), fun rb hb => ?_⟩⟩
      have sA := same_new (o := .tup [.int a, .int b]) ha
      have sB := same_new (o := .tup [.int b, .int a]) hb
      have frA : FrAt K _ ra a b := ⟨SqT.of (sB _ _ upd_same), b1', nb.gab, sa, sb⟩
      have frB := (fun {G : Hp} (_ : Same G (upd G rb (.tup [.int b, .int a]))) => (⟨SqT.of upd_same, a1, nb.gba, sb, sa⟩ : FrAt K (upd G rb (.tup [.int b, .int a])) rb b a)) sB
      refine ⟨_, .cons frA.rd (.cons frB.rd .nil), (by show 2 ≤ 4; decide), sz2 frA frB, bad2 frA frB, fun _ k1 H7 t7 hk1 hv1 => ?_⟩
      have e1 : stepP a b b a = (1, 1) := by
        show low (a * b) (b * a) = _
        rw [Int.mul_comm b a]
        exact low_self (Int.mul_pos (by omega) (by omega))
      rw [fP2 b1' nb.gab, e1] at hv1
      refine ⟨(by show 2 ≤ sizeLine; decide), fun r hr => ?_⟩
      have sR := same_new (o := .tup [.int 1, .int 1]) hr
      refine ⟨_, _, dp_pair (SqT.of (sR _ _ hv1)), dp_pair (SqT.of upd_same), rfl, rfl, ?_⟩
      rw [eqv_pair]
      exact q _ (((sE.trans sA).trans sB).trans (t7.trans sR))
end
end Paw

set_option maxRecDepth 100000
set_option maxHeartbeats 4000000
namespace Paw
open PySem PySem.Spec PyProof.Rows L2
def StepB (step : Int → Int → Int → Int → Int × Int) : Prop := ∀ (k : Nat) (t b m c : Int), t.natAbs < 2 ^ k → b.natAbs < 2 ^ k → m.natAbs < 2 ^ 200 → c.natAbs < 2 ^ 200 → (step t b m c).1.natAbs < 2 ^ (k + 201) ∧ (step t b m c).2.natAbs < 2 ^ (k + 201)
theorem stepB_t : StepB stepT := fun k t b m c h1 h2 h3 h4 => by
  have a1 := wide_lt h1 h4
  have a2 : (m * b).natAbs < 2 ^ (k + 200) := by
    rw [Int.mul_comm]
    exact wide_lt h2 h3
  have a3 := wide_lt h2 h4
  exact ⟨Nat.lt_of_le_of_lt low_abs1 (add_sz a1 a2), up_sz (Nat.lt_of_le_of_lt low_abs2 a3) (by omega)⟩
theorem stepB_p : StepB stepP := fun k t b m c h1 h2 h3 h4 => ⟨up_sz (Nat.lt_of_le_of_lt low_abs1 (wide_lt h1 h3)) (by omega), up_sz (Nat.lt_of_le_of_lt low_abs2 (wide_lt h2 h4)) (by omega)⟩
theorem fold_small {step : Int → Int → Int → Int → Int × Int} (hs : StepB step) : ∀ (ds : List PyData) (t b : Int) (k : Nat), (∀ d ∈ ds, tinyD d = true) → t.natAbs < 2 ^ k → b.natAbs < 2 ^ k → (foldS step ds t b).1.natAbs < 2 ^ (k + 201 * ds.length) ∧ (foldS step ds t b).2.natAbs < 2 ^ (k + 201 * ds.length)
  | [], t, b, k, _, h1, h2 => ⟨up_sz h1 (by omega), up_sz h2 (by omega)⟩
  | d :: ds, t, b, k, ht, h1, h2 => by
    have up : t.natAbs < 2 ^ (k + 201 * (d :: ds).length) ∧ b.natAbs < 2 ^ (k + 201 * (d :: ds).length) := ⟨up_sz h1 (by omega), up_sz h2 (by omega)⟩
    unfold foldS
    split
    · next m c ds' e =>
      injection e with e1 e2
      subst e1
      subst e2
      obtain ⟨l1, l2⟩ := tiny_log (ht _ List.mem_cons_self)
      obtain ⟨s1, s2⟩ := hs k _ _ m c h1 h2 (lt_log l1) (lt_log l2)
      have ih := fold_small hs ds _ _ (k + 201) (fun d hd => ht d (List.mem_cons_of_mem _ hd)) s1 s2
      have e3 : k + 201 * (PyData.tuple [.int m, .int c] :: ds).length = k + 201 + 201 * ds.length := by
        rw [List.length_cons]
        omega
      rw [e3]
      exact ih
    · exact up
theorem good_small {n : Nat} {ds : List PyData} (h : Fine n ds) : (goodOf n ds).1.natAbs < 2 ^ 1000 ∧ (goodOf n ds).2.natAbs < 2 ^ 1000 := by
  have m := h.most
  unfold goodOf
  split
  · unfold good0
    split
    · exact ⟨up_sz (Nat.lt_of_le_of_lt low_abs1 (tiny_int_log (h.tiny _ (by simp)))) (by decide), up_sz (m := 1) (Nat.lt_of_le_of_lt low_abs2 (by decide)) (by decide)⟩
    · exact ⟨up_sz (Nat.lt_of_le_of_lt low_abs1 (tiny_int_log (h.tiny _ (by simp)))) (by decide), up_sz (Nat.lt_of_le_of_lt low_abs2 (tiny_int_log (h.tiny _ (by simp)))) (by decide)⟩
    · exact ⟨by decide, by decide⟩
  · split
    · have z := fold_small stepB_t ds 0 1 1 h.tiny (by decide) (by decide)
      exact ⟨up_sz z.1 (by omega), up_sz z.2 (by omega)⟩
    · have z := fold_small stepB_p ds 1 1 1 h.tiny (by decide) (by decide)
      exact ⟨up_sz z.1 (by omega), up_sz z.2 (by omega)⟩
theorem bad_first {K : PySem.W.Frag} {H : Hp} : ∀ {xs : List V} {ds : List PyData} {v : V}, RDs K H xs ds → firstBad xs ds = some v → ∃ d ∈ ds, RD K H v d
  | [], _, _, _, h => by
    unfold firstBad at h
    cases h
  | x :: xs, _, v, hr, h => by
    cases hr with
    | @cons _ _ d ds h1 h2 =>
      have e : firstBad (x :: xs) (d :: ds) = if isF d then firstBad xs ds else some x := rfl
      rw [e] at h
      cases hF : isF d with
      | true =>
        rw [hF, if_pos rfl] at h
        obtain ⟨d', hd, hr⟩ := bad_first h2 h
        exact ⟨d', List.mem_cons_of_mem _ hd, hr⟩
      | false =>
        rw [hF, if_neg Bool.false_ne_true] at h
        cases h
        exact ⟨d, List.mem_cons_self, h1⟩
theorem bad_data {K : PySem.W.Frag} {H : Hp} {n : Nat} {xs : List V} {ds : List PyData} {v : V} (hr : RDs K H xs ds) (h : badOf n xs ds = some v) : ∃ d ∈ ds, RD K H v d := by
  unfold badOf at h
  split at h
  · cases hr with
    | nil => cases h
    | @cons x xs d ds h1 h2 =>
      cases h2 with
      | nil =>
        have h' : (if isI d then none else some x) = some v := h
        cases hI : isI d with
        | false =>
          rw [hI, if_neg Bool.false_ne_true] at h'
          cases h'
          exact ⟨d, List.mem_cons_self, h1⟩
        | true =>
          rw [hI, if_pos rfl] at h'
          cases h'
      | @cons y ys e es h3 h4 =>
        have h' : (if isI d then (if okB e then none else some y) else some x) = some v := h
        cases hI : isI d with
        | false =>
          rw [hI, if_neg Bool.false_ne_true] at h'
          cases h'
          exact ⟨d, List.mem_cons_self, h1⟩
        | true =>
          rw [hI, if_pos rfl] at h'
          cases hB : okB e with
          | true =>
            rw [hB, if_pos rfl] at h'
            cases h'
          | false =>
            rw [hB, if_neg Bool.false_ne_true] at h'
            cases h'
            exact ⟨e, List.mem_cons_of_mem _ List.mem_cons_self, h3⟩
  · exact bad_first hr h
theorem str_small : siz (.str "wrong") = 52 ∧ siz (.str "told") = 42 ∧ plainD (.str "wrong") = true ∧ plainD (.str "told") = true := by decide +kernel
theorem fit_wrong {d : PyData} (h : tinyD d = true) : Fit (.list [.str "wrong", d]) := by
  unfold tinyD at h
  simp only [Bool.and_eq_true] at h
  obtain ⟨⟨⟨h1, h2⟩, h3⟩, h4⟩ := h
  have h3 := of_decide_eq_true h3
  have h4 := of_decide_eq_true h4
  obtain ⟨s1, _, p1, _⟩ := str_small
  refine ⟨?_, ?_, ?_, ?_⟩
  · show (plainD (.str "wrong") && (plainD d && true)) = true
    rw [p1, h1]
    rfl
  · simp [PyData.showable, PyData.showableAll, h2]
  · have e : siz (.list [.str "wrong", d]) = 2 + (siz (.str "wrong") + 2 + (siz d + 2 + 0)) := rfl
    rw [e, s1]
    omega
  · simp only [PyData.depth, PyData.depthAll]
    omega
theorem fit_told {a b : Int} (h : a.natAbs < 2 ^ 1000) (g : b.natAbs < 2 ^ 1000) : Fit (.list [.str "told", .tuple [.int a, .int b]]) := by
  have h1 := log_lt h (by decide)
  have g1 := log_lt g (by decide)
  obtain ⟨_, s1, _, p1⟩ := str_small
  refine ⟨?_, ?_, ?_, ?_⟩
  · show (plainD (.str "told") && (true && true)) = true
    rw [p1]
    rfl
  · simp [PyData.showable, PyData.showableAll]
    omega
  · have e : siz (.list [.str "told", .tuple [.int a, .int b]]) = 2 + (siz (.str "told") + 2 + (4 + (a.natAbs.log2 + 2 + 2 + (b.natAbs.log2 + 2 + 2 + 0)) + 2 + 0)) := rfl
    rw [e, s1]
    omega
  · simp [PyData.depth, PyData.depthAll]
/-- what both lists of a call show -/
theorem said_data {K : PySem.W.Frag} {H0 : Hp} {n : Nat} {xs : List V} {ds : List PyData} (hds : RDs K H0 xs ds) (fine : Fine n ds) : ∃ d, Fit d ∧ ∀ (H H' : Hp) (p : Addr), Same H0 H → Said H p n xs ds → Same H H' → RD K H' (.ref p) d := by
  cases hb : badOf n xs ds with
  | some v =>
    obtain ⟨d, hd, hr⟩ := bad_data hds hb
    refine ⟨_, fit_wrong (fine.tiny d hd), fun H H' p s said s' => ?_⟩
    exact .lst (SqL.of (s' _ _ (said.1 v hb))) (.cons (.str _) (.cons (RD.mono (s.trans s') _ _ hr) .nil))
  | none =>
    obtain ⟨g1, g2⟩ := good_small fine
    refine ⟨_, fit_told g1 g2, fun H H' p s said s' => ?_⟩
    obtain ⟨q, h1, h2⟩ := said.2 hb
    exact .lst (SqL.of (s' _ _ h1)) (.cons (.str _) (.cons (.tup (SqT.of (s' _ _ h2)) (.cons (.int _) (.cons (.int _) .nil))) .nil))
/-- a list of values, ready to be asked -/
def ValL (K : PySem.W.Frag) (H : Hp) (n : Nat) (x : V) : Prop := ∃ (l : Addr) (ys : List V) (ds : List PyData), x = .ref l ∧ H l = some (.lst ys) ∧ RDs K H ys ds ∧ Fine n ds
theorem ValL.mono {K : PySem.W.Frag} {H H' : Hp} {n : Nat} {x : V} (h : ValL K H n x) (s : Same H H') : ValL K H' n x := by
  obtain ⟨l, ys, ds, e, h1, h2, h3⟩ := h
  exact ⟨l, ys, ds, e, s _ _ h1, RDs.mono s _ _ h2, h3⟩
theorem drawn {K : PySem.W.Frag} {p : Addr} {H H1 H2 : Hp} {v : V} {d : PyData} {o : HO} (hp : H p = some o) (rd : RD K (newer H H1) v d) (b : But p H1 H2) : RD K H2 v d :=
  RD.mono cut_same _ _ (RD.mono (cut_but b) _ _ (RD.mono (newer_cut (S := [p]) fun c hc => by rw [List.mem_singleton.mp hc, hp]; exact fun z => nomatch z) _ _ rd))
theorem RDs.append {K : PySem.W.Frag} {H : Hp} : ∀ {xs ys : List V} {ds es : List PyData}, RDs K H xs ds → RDs K H ys es → RDs K H (xs ++ ys) (ds ++ es)
  | [], _, _, _, h, g => by
    cases h
    exact g
  | x :: xs, _, _, _, h, g => by
    cases h with
    | cons h1 h2 => exact .cons h1 (RDs.append h2 g)
theorem RDs.set {K : PySem.W.Frag} {H : Hp} {v : V} {d : PyData} (hv : RD K H v d) : ∀ {xs : List V} {ds : List PyData} (i : Nat), RDs K H xs ds → RDs K H (xs.set i v) (ds.set i d)
  | [], _, _, h => by
    cases h
    exact .nil
  | x :: xs, _, 0, h => by
    cases h with
    | cons h1 h2 => exact .cons hv h2
  | x :: xs, _, i + 1, h => by
    cases h with
    | cons h1 h2 => exact .cons h1 (RDs.set hv i h2)
theorem mem_set {ds : List PyData} {d x : PyData} {i : Nat} (h : x ∈ ds.set i d) : x ∈ ds ∨ x = d := List.mem_or_eq_of_mem_set h
theorem ixN_nat {n i : Nat} (h : i < n) : ixN n (0 + (i : Int)) = some i := by
  unfold ixN
  rw [Int.zero_add, if_pos (by omega), if_pos (by omega)]
  rfl
end Paw

set_option maxRecDepth 100000
set_option maxHeartbeats 8000000
namespace Paw
open PySem PySem.Spec PyProof.Rows L2
abbrev sLaw : Stmt := top 33
def spLaw (K : PySem.W.Frag) : Sp := fun vs H Q _ => ∃ (a : Addr) (ns : List Int), vs = [.ref a] ∧ SqL K H a (ns.map V.int) ∧ ∀ H', Q (.bl true) H'
/-- a list D of drawn values, i of them, behind the heap Hr -/
def PvS (K : PySem.W.Frag) (p D : Addr) (b : Bool) (Hr : Hp) (i : Nat) (H' : Hp) : Prop := (∃ L', H' p = some (.lst L') ∧ Pile b L') ∧ But p Hr H' ∧ ∃ (vs : List V) (ds : List PyData), H' D = some (.lst vs) ∧ vs.length = i ∧ RDs K (cut [p, D] H') vs ds ∧ ∀ d ∈ ds, tinyD d = true
section
variable {K : PySem.W.Frag} {p D : Addr} {b : Bool} {Hr H1 H2 : Hp} {i : Nat}
theorem cut2 {c : Addr} {H : Hp} (h1 : c ≠ p) (h2 : c ≠ D) : cut [p, D] H c = H c := cut_out (by simp [h1, h2])
theorem cut2_some {c : Addr} {H : Hp} {o : HO} (e : cut [p, D] H c = some o) : c ≠ p ∧ c ≠ D ∧ H c = some o := by
  by_cases h1 : c = p
  · rw [cut_in (by rw [h1]; exact List.mem_cons_self)] at e
    cases e
  · by_cases h2 : c = D
    · rw [cut_in (by rw [h2]; exact List.mem_cons_of_mem _ List.mem_cons_self)] at e
      cases e
    · rw [cut2 h1 h2] at e
      exact ⟨h1, h2, e⟩
theorem pvs_start {L : List V} (hp : Hr p = some (.lst L)) (hL : Pile b L) (hD : Hr D = none) : PvS K p D b Hr 0 (upd Hr D (.lst [])) :=
  ⟨⟨L, (same_new hD) _ _ hp, hL⟩, same_but (same_new hD), [], [], upd_same, rfl, .nil, fun _ z => nomatch z⟩
theorem pvs_keep {L : List V} (h : PvS K p D b Hr i H1) (nD : D ≠ p) (bu : But p H1 H2) (hp : H2 p = some (.lst L)) (hL : Pile b L) : PvS K p D b Hr i H2 := by
  obtain ⟨_, h2, vs, ds, h3, h4, h5, h6⟩ := h
  refine ⟨⟨L, hp, hL⟩, h2.trans bu, vs, ds, bu _ _ nD h3, h4, RDs.mono (fun c o e => ?_) _ _ h5, h6⟩
  obtain ⟨e1, e2, e3⟩ := cut2_some e
  rw [cut2 e1 e2]
  exact bu _ _ e1 e3
theorem pvs_put {L : List V} {zs : List V} {es : List PyData} (h : PvS K p D b Hr i H2) (nD : D ≠ p) (hr : Hr D = none) (hz : RDs K (cut [p, D] H2) zs es) (ht : ∀ d ∈ es, tinyD d = true) : PvS K p D b Hr zs.length (upd H2 D (.lst zs)) := by
  obtain ⟨⟨L', h0, h1⟩, h2, _⟩ := h
  refine ⟨⟨L', (upd_ne nD.symm).trans h0, h1⟩, fun c o nc e => (upd_ne (ne_of_none e hr)).trans (h2 c o nc e), zs, es, upd_same, rfl, RDs.mono (fun c o e => ?_) _ _ hz, ht⟩
  obtain ⟨e1, e2, e3⟩ := cut2_some e
  rw [cut2 e1 e2]
  exact (upd_ne e2).trans e3
theorem pvs_new {v : V} {d : PyData} (h : PvS K p D b Hr i H1) (rd : RD K (newer H1 H2) v d) : RD K (cut [p, D] H2) v d := by
  obtain ⟨⟨L', h0, _⟩, _, vs, ds, h3, _⟩ := h
  refine RD.mono (newer_cut (S := [p, D]) fun c hc => ?_) _ _ rd
  rcases List.mem_cons.mp hc with rfl | hc
  · rw [h0]
    exact fun z => nomatch z
  · rw [List.mem_singleton.mp hc, h3]
    exact fun z => nomatch z
theorem pvs_step {v : V} {d : PyData} {L : List V} (h : PvS K p D b Hr i H1) (nD : D ≠ p) (hr : Hr D = none) (bu : But p H1 H2) (hp : H2 p = some (.lst L)) (hL : Pile b L) (rd : RD K (newer H1 H2) v d) (ti : tinyD d = true) (hi : i < 1000) :
    ∃ acc, H2 D = some (.lst acc) ∧ acc.length < sizeLine ∧ PvS K p D b Hr (i + 1) (upd H2 D (.lst (acc ++ [v]))) := by
  have k := pvs_keep h nD bu hp hL
  have k' := k
  obtain ⟨_, _, vs, ds, h3, h4, h5, h6⟩ := k
  refine ⟨vs, h3, Nat.lt_of_lt_of_le (by omega : vs.length < 1000) (by decide), ?_⟩
  have z := pvs_put (L := L) k' nD hr (RDs.append h5 (.cons (pvs_new h rd) .nil)) (es := ds ++ [d]) (fun x hx => ?_)
  · rw [List.length_append, h4] at z
    exact z
  · rcases List.mem_append.mp hx with hx | hx
    · exact h6 x hx
    · rw [List.mem_singleton.mp hx]
      exact ti
theorem pvs_set {v : V} {d : PyData} {L : List V} (h : PvS K p D b Hr i H1) (nD : D ≠ p) (hr : Hr D = none) (bu : But p H1 H2) (hp : H2 p = some (.lst L)) (hL : Pile b L) (rd : RD K (newer H1 H2) v d) (ti : tinyD d = true) (j : Nat) :
    ∃ acc, H2 D = some (.lst acc) ∧ acc.length = i ∧ PvS K p D b Hr i (upd H2 D (.lst (acc.set j v))) := by
  have k := pvs_keep h nD bu hp hL
  have k' := k
  obtain ⟨_, _, vs, ds, h3, h4, h5, h6⟩ := k
  refine ⟨vs, h3, h4, ?_⟩
  have z := pvs_put (L := L) k' nD hr (RDs.set (pvs_new h rd) j h5) (fun x hx => ?_)
  · rw [List.length_set, h4] at z
    exact z
  · rcases mem_set hx with hx | hx
    · exact h6 x hx
    · rw [hx]
      exact ti
end
theorem same_via {p : Addr} {H1 G0 H2 : Hp} (s : Same H1 G0) (n : H1 p = none) (b : But p G0 H2) : Same H1 H2 := fun c o e => b c o (ne_of_none e n) (s c o e)
theorem step_new {p T : Addr} {G0 H Hx H2 : Hp} {u : HO} (b : But p G0 H) (hp : H p = some u) (nT : H T = none) (hx : ∀ c, c ≠ T → Hx c = H c) (b2 : But T Hx H2) : But p G0 H2 ∧ H2 p = some u :=
  ⟨fun c o nc e => by
    have e1 := b c o nc e
    have n := ne_of_none e1 nT
    exact b2 c o n ((hx c n).trans e1), by
    have n := ne_of_none hp nT
    exact b2 p _ n ((hx p n).trans hp)⟩
theorem alike_yes {d : PyData} : decide (V.str d.shown = V.str d.shown) = true := decide_eq_true rfl
section
variable {P : Program} {wd : World} {K : PySem.W.Frag} {mg : Str → Option Value} {base : Heap}
theorem scLaw : FnScope ["script", "k", "pile", "lists", "values", "some", "bent", "at", "which", "turn"] ["script"] (defScope sLaw) := ⟨rfl, rfl, rfl, by decide +kernel, rfl, by decide +kernel, by decide +kernel⟩
theorem ok_law {f fP fT fI fO fF fW fC fD fA fH fB fN : Addr} {fd fdP fdT fdI fdO fdF fdW fdC fdD fdA fdH fdB fdN : FuncData} (F : Fun K "law" "law" sLaw f fd)
    (GP : FnOk P wd K mg base CX0 1 fP fdP ["script", "k"] (spPile K)) (gP : mg "_law_pile" = some (.ref fP)) (kP : PySem.W.keepIn K (.ref fP) = true) (bP : Binds K fdP ["script", "k"] [])
    (GT : FnOk P wd K mg base CX0 2 fT fdT ["pile", "many"] spTake) (gT : mg "_law_take" = some (.ref fT)) (kT : PySem.W.keepIn K (.ref fT) = true) (bT : Binds K fdT ["pile", "many"] [])
    (GI : FnOk P wd K mg base CX0 3 fI fdI ["pile"] (spDraw K)) (gI : mg "_law_integer" = some (.ref fI)) (kI : PySem.W.keepIn K (.ref fI) = true) (bI : Binds K fdI ["pile"] [])
    (GO : FnOk P wd K mg base CX0 3 fO fdO ["pile"] (spDraw K)) (gO : mg "_law_odd" = some (.ref fO)) (kO : PySem.W.keepIn K (.ref fO) = true) (bO : Binds K fdO ["pile"] [])
    (GF : FnOk P wd K mg base CX0 3 fF fdF ["pile"] (spDraw K)) (gF : mg "_law_fraction" = some (.ref fF)) (kF : PySem.W.keepIn K (.ref fF) = true) (bF : Binds K fdF ["pile"] [])
    (GW : FnOk P wd K mg base CX0 3 fW fdW ["pile"] (spDraw K)) (gW : mg "_law_wrong_fraction" = some (.ref fW)) (kW : PySem.W.keepIn K (.ref fW) = true) (bW : Binds K fdW ["pile"] [])
    (GC : FnOk P wd K mg base CX0 5 fC fdC ["which", "values"] (spCaught K)) (gC : mg "_law_caught" = some (.ref fC)) (kC : PySem.W.keepIn K (.ref fC) = true) (bC : Binds K fdC ["which", "values"] [])
    (GD : FnOk P wd K mg base CX0 4 fD fdD ["which", "values"] (spDue K)) (gD : mg "_law_due" = some (.ref fD)) (kD : PySem.W.keepIn K (.ref fD) = true) (bD : Binds K fdD ["which", "values"] [])
    (GA : FnG P wd K mg base CX0 1 fA fdA ["one", "other"] (spAlike K)) (gA : mg "_law_alike" = some (.ref fA)) (kA : PySem.W.keepIn K (.ref fA) = true) (bA : Binds K fdA ["one", "other"] [])
    (GH : FnG P wd K mg base CX0 6 fH fdH ["which", "thing"] spHeld) (gH : mg "_law_held" = some (.ref fH)) (kH : PySem.W.keepIn K (.ref fH) = true) (bH : Binds K fdH ["which", "thing"] [])
    (GB : FnOk P wd K mg base CX0 5 fB fdB ["pile"] spBack) (gB : mg "_law_back_right" = some (.ref fB)) (kB : PySem.W.keepIn K (.ref fB) = true) (bB : Binds K fdB ["pile"] [])
    (GN : FnOk P wd K mg base CX0 5 fN fdN [] spNb) (gN : mg "_law_neighbours_right" = some (.ref fN)) (kN : PySem.W.keepIn K (.ref fN) = true) (bN : Binds K fdN [] [])
    (zr : mg "range" = none) (zl : mg "len" = none) (zt : mg "list" = none) : FnG P wd K mg base CX0 7 f fd ["script"] (spLaw K) := by
  refine funG0 F scLaw (fun vs H Q E h => ?_) (fun cdv A hG outer s H vs Q E hS hr h => ?_)
  · obtain ⟨a, ns, rfl, _⟩ := h
    rfl
  · obtain ⟨a, ns, rfl, hns, q⟩ := h
    have g : Gd (cxOf CX0 P wd K mg base ["script", "k", "pile", "lists", "values", "some", "bent", "at", "which", "turn"] "law" (defScope sLaw) f cdv A outer s H E).nox := ⟨hG, hS, rfl⟩
    have hr1 : Room 1 (cxOf CX0 P wd K mg base ["script", "k", "pile", "lists", "values", "some", "bent", "at", "which", "turn"] "law" (defScope sLaw) f cdv A outer s H E).nox.A := hr.mono (by decide)
    have hr2 : Room 2 (cxOf CX0 P wd K mg base ["script", "k", "pile", "lists", "values", "some", "bent", "at", "which", "turn"] "law" (defScope sLaw) f cdv A outer s H E).nox.A := hr.mono (by decide)
    have hr3 : Room 3 (cxOf CX0 P wd K mg base ["script", "k", "pile", "lists", "values", "some", "bent", "at", "which", "turn"] "law" (defScope sLaw) f cdv A outer s H E).nox.A := hr.mono (by decide)
    have hr4 : Room 4 (cxOf CX0 P wd K mg base ["script", "k", "pile", "lists", "values", "some", "bent", "at", "which", "turn"] "law" (defScope sLaw) f cdv A outer s H E).nox.A := hr.mono (by decide)
    have hr5 : Room 5 (cxOf CX0 P wd K mg base ["script", "k", "pile", "lists", "values", "some", "bent", "at", "which", "turn"] "law" (defScope sLaw) f cdv A outer s H E).nox.A := hr.mono (by decide)
    refine ⟨_, (pss_cons (ps_for PassesOwn.never rfl (pi_range1 rfl zr (pa_cons pe_int pa_nil)) (pg_name (i := 1) scLaw.nd rfl (Or.inl rfl)) (pss_cons (ps_set (i := 2) scLaw.nd rfl (Or.inr rfl) (pe_call GP hr1 rfl gP kP bP .nil pass0 (pa_cons (pv 0) (pa_cons (pv 1) pa_nil))))
      (pss_cons (ps_set (i := 3) scLaw.nd rfl (Or.inl rfl) (pe_lst (pa_cons (pe_lst (pa_cons (pe_call GI hr3 rfl gI kI bI .nil pass0 (pa_cons (pv 2) pa_nil)) pa_nil)) (pa_cons (pe_lst (pa_cons (pe_call GI hr3 rfl gI kI bI .nil pass0 (pa_cons (pv 2) pa_nil)) (pa_cons (pe_call GI hr3 rfl gI kI bI .nil pass0 (pa_cons (pv 2) pa_nil)) pa_nil))) (pa_cons (pe_lst (pa_cons (pe_call GI hr3 rfl gI kI bI .nil pass0 (pa_cons (pv 2) pa_nil)) (pa_cons (pe_call GO hr3 rfl gO kO bO .nil pass0 (pa_cons (pv 2) pa_nil)) pa_nil))) pa_nil)))))
      (pss_cons (ps_set (i := 3) scLaw.nd rfl (Or.inl rfl) (pe_op op_cat (pv 3) (pe_lst (pa_cons (pe_lst (pa_cons (pe_call GO hr3 rfl gO kO bO .nil pass0 (pa_cons (pv 2) pa_nil)) (pa_cons (pe_call GI hr3 rfl gI kI bI .nil pass0 (pa_cons (pv 2) pa_nil)) pa_nil))) (pa_cons (pe_lst (pa_cons (pe_call GO hr3 rfl gO kO bO .nil pass0 (pa_cons (pv 2) pa_nil)) (pa_cons (pe_call GO hr3 rfl gO kO bO .nil pass0 (pa_cons (pv 2) pa_nil)) pa_nil))) (pa_cons (pe_lst (pa_cons (pe_call GO hr3 rfl gO kO bO .nil pass0 (pa_cons (pv 2) pa_nil)) pa_nil)) pa_nil))))))
      (pss_cons (ps_for PassesOwn.never rfl (pi_list (pe_op op_cat (pv 3) (pe_lst (pa_cons (pe_lst (pa_cons (pe_call GI hr3 rfl gI kI bI .nil pass0 (pa_cons (pv 2) pa_nil)) (pa_cons pe_int pa_nil))) (pa_cons (pe_lst (pa_cons pe_int (pa_cons (pe_call GI hr3 rfl gI kI bI .nil pass0 (pa_cons (pv 2) pa_nil)) pa_nil))) (pa_cons (pe_lst (pa_cons pe_int (pa_cons pe_bl pa_nil))) (pa_cons (pe_lst (pa_cons pe_bl (pa_cons pe_int pa_nil))) pa_nil))))))) (pg_name (i := 4) scLaw.nd rfl (Or.inl rfl)) (pss_one (ps_if (pt_not (pt_val (pe_callG GA g hr1 rfl gA kA bA .nil pass0 (pa_cons (pe_call GC hr5 rfl gC kC bC .nil pass0 (pa_cons pe_int (pa_cons (pv 4) pa_nil))) (pa_cons (pe_call GD hr4 rfl gD kD bD .nil pass0 (pa_cons pe_int (pa_cons (pv 4) pa_nil))) pa_nil))))) (pss_one (ps_ret pe_bl)) pss_nil)))
      (pss_cons (ps_setLc (i := 5) (own := [("turn", 9)]) (g := gName 9) (tt := tYes) (te := tCall (spDraw K) [] E0 (tCons (tVar 2) tNil)) rfl scLaw.nd rfl rfl (sw_true rfl rfl rfl (by decide +kernel)) (pi_range1 rfl zr (pa_cons (pe_call GT hr2 rfl gT kT bT .nil pass0 (pa_cons (pv 2) (pa_cons pe_int pa_nil))) pa_nil)) (blkOk_by (N := ["script", "k", "pile", "lists", "values", "some", "bent", "at", "which", "turn"]) (sc := defScope sLaw) (by decide +kernel)) (fun _ _ _ _ _ => (pg_name (i := 9) scLaw.nd rfl (Or.inl rfl))) (fun _ _ _ _ _ => pts_nil) (fun _ _ _ _ _ => (pe_call GF hr3 rfl gF kF bF .nil pass0 (pa_cons (pv 2) pa_nil))))
      (pss_cons (ps_set (i := 6) scLaw.nd rfl (Or.inl rfl) (pe_callTy call_list_of (by rfl) zt bt_list (pa_cons (pv 5) pa_nil)))
      (pss_cons (ps_for PassesOwn.never rfl (pi_range1 rfl zr (pa_cons (pe_callB call_len_seq (by rfl) zl bt_len (pa_cons (pv 5) pa_nil)) pa_nil)) (pg_name (i := 7) scLaw.nd rfl (Or.inl rfl)) (pss_one (ps_if (pt_cmpR op_eq (pe_call GT hr2 rfl gT kT bT .nil pass0 (pa_cons (pv 2) (pa_cons pe_int pa_nil))) pe_int (nomark _)) (pss_one (ps_asg (pe_call GW hr3 rfl gW kW bW .nil pass0 (pa_cons (pv 2) pa_nil)) (pg_sub (pv 6) (pv 7) set_list))) pss_nil)))
      (pss_cons (ps_for PassesOwn.never rfl (pi_list (pe_lst (pa_cons (pv 5) (pa_cons (pv 6) (pa_cons (pe_lst pa_nil) pa_nil))))) (pg_name (i := 4) scLaw.nd rfl (Or.inl rfl)) (pss_one (ps_for PassesOwn.never rfl (pi_list (pe_lst (pa_cons pe_int (pa_cons pe_int pa_nil)))) (pg_name (i := 8) scLaw.nd rfl (Or.inl rfl)) (pss_one (ps_if (pt_not (pt_val (pe_callG GA g hr1 rfl gA kA bA .nil pass0 (pa_cons (pe_call GC hr5 rfl gC kC bC .nil pass0 (pa_cons (pv 8) (pa_cons (pv 4) pa_nil))) (pa_cons (pe_call GD hr4 rfl gD kD bD .nil pass0 (pa_cons (pv 8) (pa_cons (pv 4) pa_nil))) pa_nil))))) (pss_one (ps_ret pe_bl)) pss_nil)))))
      (pss_cons (ps_for PassesOwn.never rfl (pi_list (pe_lst (pa_cons pe_int (pa_cons pe_int pa_nil)))) (pg_name (i := 8) scLaw.nd rfl (Or.inl rfl)) (pss_one (ps_if (PW.pt (pw_or (pt_not (pt_val (pe_callG GH g hr rfl gH kH bH .nil pass0 (pa_cons (pv 8) (pa_cons (pe_lst (pa_cons pe_int (pa_cons pe_int pa_nil))) pa_nil))))) (pw_or1 (pt_not (pt_val (pe_callG GH g hr rfl gH kH bH .nil pass0 (pa_cons (pv 8) (pa_cons pe_dnewK pa_nil)))))))) (pss_one (ps_ret pe_bl)) pss_nil)))
      (pss_one (ps_if (PW.pt (pw_or (pt_not (pt_val (pe_callG GH g hr rfl gH kH bH .nil pass0 (pa_cons pe_int (pa_cons (pe_lst (pa_cons pe_int pa_nil)) pa_nil))))) (pw_or (pt_not (pt_val (pe_callG GH g hr rfl gH kH bH .nil pass0 (pa_cons pe_int (pa_cons (pe_disp (pps_cons pe_str pe_int pps_nil) (by rfl) (by rfl) (fun z => by cases z) (by decide)) pa_nil))))) (pw_or1 (pt_not (pt_val (pe_call GB hr5 rfl gB kB bB .nil pass0 (pa_cons (pv 2) pa_nil)))))))) (pss_one (ps_ret pe_bl)) pss_nil))))))))))))
      (pss_one (ps_ret (pe_callG0 (FnG.of GN) g hr5 rfl gN kN bN .nil pass0)))), ?_⟩
    refine ⟨24, rfl, by decide, by decide, for_range (n := 24) (fun k σ H' => (∃ v1 v2 v3 v4 v5 v6 v7 v8 v9 : Option V, σ = [some (.ref a), v1, v2, v3, v4, v5, v6, v7, v8, v9]) ∧ SqL K H' a (ns.map V.int)) ⟨⟨_, _, _, _, _, _, _, _, _, rfl⟩, hns⟩ ?_ ?_⟩
    · rintro k σ H1 hk ⟨⟨v1, v2, v3, v4, v5, v6, v7, v8, v9, rfl⟩, sq1⟩
      rw [Int.zero_add]
      refine ⟨_, rfl, _, rfl, a, ns, k, rfl, sq1, fun G0 p L0 sP nP hp0 hL0 => ?_⟩
      generalize decide ((k : Int) < 2) = b at hL0
      refine ⟨_, rfl, p, b, _, rfl, hp0, hL0, fun x1 d1 M1 G1 r1 ti1 b1 hp1 hL1 => ?_⟩
      refine ⟨(by show 1 ≤ sizeLine; decide), fun l1 nl1 => ?_⟩
      have sl1 := same_new (o := .lst [x1]) nl1
      have b2 := same_but (p := p) sl1
      have el1 : l1 ≠ p := (ne_of_none hp1 nl1).symm
      have hp2 := sl1 _ _ hp1
      refine ⟨_, rfl, p, b, _, rfl, hp2, hL1, fun x2 d2 M2 G3 r2 ti2 b3 hp3 hL3 => ?_⟩
      refine ⟨_, rfl, p, b, _, rfl, hp3, hL3, fun x3 d3 M3 G4 r3 ti3 b4 hp4 hL4 => ?_⟩
      refine ⟨(by show 2 ≤ sizeLine; decide), fun l2 nl2 => ?_⟩
      have sl2 := same_new (o := .lst [x2, x3]) nl2
      have b5 := same_but (p := p) sl2
      have el2 : l2 ≠ p := (ne_of_none hp4 nl2).symm
      have hp5 := sl2 _ _ hp4
      refine ⟨_, rfl, p, b, _, rfl, hp5, hL4, fun x4 d4 M4 G6 r4 ti4 b6 hp6 hL6 => ?_⟩
      refine ⟨_, rfl, p, b, _, rfl, hp6, hL6, fun x5 d5 M5 G7 r5 ti5 b7 hp7 hL7 => ?_⟩
      refine ⟨(by show 2 ≤ sizeLine; decide), fun l3 nl3 => ?_⟩
      have sl3 := same_new (o := .lst [x4, x5]) nl3
      have b8 := same_but (p := p) sl3
      have el3 : l3 ≠ p := (ne_of_none hp7 nl3).symm
      have hp8 := sl3 _ _ hp7
      refine ⟨(by show 3 ≤ sizeLine; decide), fun A1 nA1 => ?_⟩
      have sA1 := same_new (o := .lst [.ref l1, .ref l2, .ref l3]) nA1
      have b9 := same_but (p := p) sA1
      have eA1 : A1 ≠ p := (ne_of_none hp8 nA1).symm
      have hp9 := sA1 _ _ hp8
      refine ⟨_, rfl, ?_⟩
      refine ⟨_, rfl, p, b, _, rfl, hp9, hL7, fun x6 d6 M6 G10 r6 ti6 b10 hp10 hL10 => ?_⟩
      refine ⟨_, rfl, p, b, _, rfl, hp10, hL10, fun x7 d7 M7 G11 r7 ti7 b11 hp11 hL11 => ?_⟩
      refine ⟨(by show 2 ≤ sizeLine; decide), fun l4 nl4 => ?_⟩
      have sl4 := same_new (o := .lst [x6, x7]) nl4
      have b12 := same_but (p := p) sl4
      have el4 : l4 ≠ p := (ne_of_none hp11 nl4).symm
      have hp12 := sl4 _ _ hp11
      refine ⟨_, rfl, p, b, _, rfl, hp12, hL11, fun x8 d8 M8 G13 r8 ti8 b13 hp13 hL13 => ?_⟩
      refine ⟨_, rfl, p, b, _, rfl, hp13, hL13, fun x9 d9 M9 G14 r9 ti9 b14 hp14 hL14 => ?_⟩
      refine ⟨(by show 2 ≤ sizeLine; decide), fun l5 nl5 => ?_⟩
      have sl5 := same_new (o := .lst [x8, x9]) nl5
      have b15 := same_but (p := p) sl5
      have el5 : l5 ≠ p := (ne_of_none hp14 nl5).symm
      have hp15 := sl5 _ _ hp14
      refine ⟨_, rfl, p, b, _, rfl, hp15, hL14, fun x10 d10 M10 G16 r10 ti10 b16 hp16 hL16 => ?_⟩
      refine ⟨(by show 1 ≤ sizeLine; decide), fun l6 nl6 => ?_⟩
      have sl6 := same_new (o := .lst [x10]) nl6
      have b17 := same_but (p := p) sl6
      have el6 : l6 ≠ p := (ne_of_none hp16 nl6).symm
      have hp17 := sl6 _ _ hp16
      refine ⟨(by show 3 ≤ sizeLine; decide), fun A2 nA2 => ?_⟩
      have sA2 := same_new (o := .lst [.ref l4, .ref l5, .ref l6]) nA2
      have b18 := same_but (p := p) sA2
      have eA2 : A2 ≠ p := (ne_of_none hp17 nA2).symm
      have hp18 := sA2 _ _ hp17
      refine ⟨A1, A2, _, _, rfl, rfl, (((((((((b10.trans b11).trans b12).trans b13).trans b14).trans b15).trans b16).trans b17).trans b18) _ _ eA1 upd_same), upd_same, (by show 6 ≤ sizeLine; decide), fun A3 nA3 => ?_⟩
      have sA3 := same_new (o := .lst [.ref l1, .ref l2, .ref l3, .ref l4, .ref l5, .ref l6]) nA3
      have b19 := same_but (p := p) sA3
      have eA3 : A3 ≠ p := (ne_of_none hp18 nA3).symm
      have hp19 := sA3 _ _ hp18
      refine ⟨_, rfl, ?_⟩
      refine ⟨_, rfl, p, b, _, rfl, hp19, hL16, fun x11 d11 M11 G20 r11 ti11 b20 hp20 hL20 => ?_⟩
      refine ⟨(by show 2 ≤ sizeLine; decide), fun l7 nl7 => ?_⟩
      have sl7 := same_new (o := .lst [x11, .int 0]) nl7
      have b21 := same_but (p := p) sl7
      have el7 : l7 ≠ p := (ne_of_none hp20 nl7).symm
      have hp21 := sl7 _ _ hp20
      refine ⟨_, rfl, p, b, _, rfl, hp21, hL20, fun x12 d12 M12 G22 r12 ti12 b22 hp22 hL22 => ?_⟩
      refine ⟨(by show 2 ≤ sizeLine; decide), fun l8 nl8 => ?_⟩
      have sl8 := same_new (o := .lst [.int 0, x12]) nl8
      have b23 := same_but (p := p) sl8
      have el8 : l8 ≠ p := (ne_of_none hp22 nl8).symm
      have hp23 := sl8 _ _ hp22
      refine ⟨(by show 2 ≤ sizeLine; decide), fun l9 nl9 => ?_⟩
      have sl9 := same_new (o := .lst [.int 1, .bl true]) nl9
      have b24 := same_but (p := p) sl9
      have el9 : l9 ≠ p := (ne_of_none hp23 nl9).symm
      have hp24 := sl9 _ _ hp23
      refine ⟨(by show 2 ≤ sizeLine; decide), fun l0 nl0 => ?_⟩
      have sl0 := same_new (o := .lst [.bl false, .int 1]) nl0
      have b25 := same_but (p := p) sl0
      have el0 : l0 ≠ p := (ne_of_none hp24 nl0).symm
      have hp25 := sl0 _ _ hp24
      refine ⟨(by show 4 ≤ sizeLine; decide), fun A4 nA4 => ?_⟩
      have sA4 := same_new (o := .lst [.ref l7, .ref l8, .ref l9, .ref l0]) nA4
      have b26 := same_but (p := p) sA4
      have eA4 : A4 ≠ p := (ne_of_none hp25 nA4).symm
      have hp26 := sA4 _ _ hp25
      refine ⟨A3, A4, _, _, rfl, rfl, (((((((b20.trans b21).trans b22).trans b23).trans b24).trans b25).trans b26) _ _ eA3 upd_same), upd_same, (by show 10 ≤ sizeLine; decide), fun A5 nA5 => ?_⟩
      have sA5 := same_new (o := .lst [.ref l1, .ref l2, .ref l3, .ref l4, .ref l5, .ref l6, .ref l7, .ref l8, .ref l9, .ref l0]) nA5
      have b27 := same_but (p := p) sA5
      have eA5 : A5 ≠ p := (ne_of_none hp26 nA5).symm
      have hp27 := sA5 _ _ hp26
      have q1 := drawn hp0 r1 ((((((((((((((((((((((((((b2.trans b3).trans b4).trans b5).trans b6).trans b7).trans b8).trans b9).trans b10).trans b11).trans b12).trans b13).trans b14).trans b15).trans b16).trans b17).trans b18).trans b19).trans b20).trans b21).trans b22).trans b23).trans b24).trans b25).trans b26).trans b27))
      have q2 := drawn hp2 r2 ((((((((((((((((((((((((b4.trans b5).trans b6).trans b7).trans b8).trans b9).trans b10).trans b11).trans b12).trans b13).trans b14).trans b15).trans b16).trans b17).trans b18).trans b19).trans b20).trans b21).trans b22).trans b23).trans b24).trans b25).trans b26).trans b27))
      have q3 := drawn hp3 r3 (((((((((((((((((((((((b5.trans b6).trans b7).trans b8).trans b9).trans b10).trans b11).trans b12).trans b13).trans b14).trans b15).trans b16).trans b17).trans b18).trans b19).trans b20).trans b21).trans b22).trans b23).trans b24).trans b25).trans b26).trans b27))
      have q4 := drawn hp5 r4 (((((((((((((((((((((b7.trans b8).trans b9).trans b10).trans b11).trans b12).trans b13).trans b14).trans b15).trans b16).trans b17).trans b18).trans b19).trans b20).trans b21).trans b22).trans b23).trans b24).trans b25).trans b26).trans b27))
      have q5 := drawn hp6 r5 ((((((((((((((((((((b8.trans b9).trans b10).trans b11).trans b12).trans b13).trans b14).trans b15).trans b16).trans b17).trans b18).trans b19).trans b20).trans b21).trans b22).trans b23).trans b24).trans b25).trans b26).trans b27))
      have q6 := drawn hp9 r6 (((((((((((((((((b11.trans b12).trans b13).trans b14).trans b15).trans b16).trans b17).trans b18).trans b19).trans b20).trans b21).trans b22).trans b23).trans b24).trans b25).trans b26).trans b27))
      have q7 := drawn hp10 r7 ((((((((((((((((b12.trans b13).trans b14).trans b15).trans b16).trans b17).trans b18).trans b19).trans b20).trans b21).trans b22).trans b23).trans b24).trans b25).trans b26).trans b27))
      have q8 := drawn hp12 r8 ((((((((((((((b14.trans b15).trans b16).trans b17).trans b18).trans b19).trans b20).trans b21).trans b22).trans b23).trans b24).trans b25).trans b26).trans b27))
      have q9 := drawn hp13 r9 (((((((((((((b15.trans b16).trans b17).trans b18).trans b19).trans b20).trans b21).trans b22).trans b23).trans b24).trans b25).trans b26).trans b27))
      have q10 := drawn hp15 r10 (((((((((((b17.trans b18).trans b19).trans b20).trans b21).trans b22).trans b23).trans b24).trans b25).trans b26).trans b27))
      have q11 := drawn hp19 r11 (((((((b21.trans b22).trans b23).trans b24).trans b25).trans b26).trans b27))
      have q12 := drawn hp21 r12 (((((b23.trans b24).trans b25).trans b26).trans b27))
      have wl1 : ValL K _ 0 (V.ref l1) := ⟨l1, [x1], [d1], rfl, ((((((((((((((((((((((((b3.trans b4).trans b5).trans b6).trans b7).trans b8).trans b9).trans b10).trans b11).trans b12).trans b13).trans b14).trans b15).trans b16).trans b17).trans b18).trans b19).trans b20).trans b21).trans b22).trans b23).trans b24).trans b25).trans b26).trans b27) _ _ el1 upd_same, (.cons q1 .nil), ⟨(by show 1 ≤ 4; decide), fun _ => .inl rfl, List.forall_mem_cons.mpr ⟨ti1, fun _ z => nomatch z⟩⟩⟩
      have wl2 : ValL K _ 0 (V.ref l2) := ⟨l2, [x2, x3], [d2, d3], rfl, (((((((((((((((((((((b6.trans b7).trans b8).trans b9).trans b10).trans b11).trans b12).trans b13).trans b14).trans b15).trans b16).trans b17).trans b18).trans b19).trans b20).trans b21).trans b22).trans b23).trans b24).trans b25).trans b26).trans b27) _ _ el2 upd_same, (.cons q2 (.cons q3 .nil)), ⟨(by show 2 ≤ 4; decide), fun _ => .inr rfl, List.forall_mem_cons.mpr ⟨ti2, List.forall_mem_cons.mpr ⟨ti3, fun _ z => nomatch z⟩⟩⟩⟩
      have wl3 : ValL K _ 0 (V.ref l3) := ⟨l3, [x4, x5], [d4, d5], rfl, ((((((((((((((((((b9.trans b10).trans b11).trans b12).trans b13).trans b14).trans b15).trans b16).trans b17).trans b18).trans b19).trans b20).trans b21).trans b22).trans b23).trans b24).trans b25).trans b26).trans b27) _ _ el3 upd_same, (.cons q4 (.cons q5 .nil)), ⟨(by show 2 ≤ 4; decide), fun _ => .inr rfl, List.forall_mem_cons.mpr ⟨ti4, List.forall_mem_cons.mpr ⟨ti5, fun _ z => nomatch z⟩⟩⟩⟩
      have wl4 : ValL K _ 0 (V.ref l4) := ⟨l4, [x6, x7], [d6, d7], rfl, ((((((((((((((b13.trans b14).trans b15).trans b16).trans b17).trans b18).trans b19).trans b20).trans b21).trans b22).trans b23).trans b24).trans b25).trans b26).trans b27) _ _ el4 upd_same, (.cons q6 (.cons q7 .nil)), ⟨(by show 2 ≤ 4; decide), fun _ => .inr rfl, List.forall_mem_cons.mpr ⟨ti6, List.forall_mem_cons.mpr ⟨ti7, fun _ z => nomatch z⟩⟩⟩⟩
      have wl5 : ValL K _ 0 (V.ref l5) := ⟨l5, [x8, x9], [d8, d9], rfl, (((((((((((b16.trans b17).trans b18).trans b19).trans b20).trans b21).trans b22).trans b23).trans b24).trans b25).trans b26).trans b27) _ _ el5 upd_same, (.cons q8 (.cons q9 .nil)), ⟨(by show 2 ≤ 4; decide), fun _ => .inr rfl, List.forall_mem_cons.mpr ⟨ti8, List.forall_mem_cons.mpr ⟨ti9, fun _ z => nomatch z⟩⟩⟩⟩
      have wl6 : ValL K _ 0 (V.ref l6) := ⟨l6, [x10], [d10], rfl, (((((((((b18.trans b19).trans b20).trans b21).trans b22).trans b23).trans b24).trans b25).trans b26).trans b27) _ _ el6 upd_same, (.cons q10 .nil), ⟨(by show 1 ≤ 4; decide), fun _ => .inl rfl, List.forall_mem_cons.mpr ⟨ti10, fun _ z => nomatch z⟩⟩⟩
      have wl7 : ValL K _ 0 (V.ref l7) := ⟨l7, [x11, .int 0], [d11, .int 0], rfl, (((((b22.trans b23).trans b24).trans b25).trans b26).trans b27) _ _ el7 upd_same, (.cons q11 (.cons (.int _) .nil)), ⟨(by show 2 ≤ 4; decide), fun _ => .inr rfl, List.forall_mem_cons.mpr ⟨ti11, List.forall_mem_cons.mpr ⟨(by decide +kernel), fun _ z => nomatch z⟩⟩⟩⟩
      have wl8 : ValL K _ 0 (V.ref l8) := ⟨l8, [.int 0, x12], [.int 0, d12], rfl, (((b24.trans b25).trans b26).trans b27) _ _ el8 upd_same, (.cons (.int _) (.cons q12 .nil)), ⟨(by show 2 ≤ 4; decide), fun _ => .inr rfl, List.forall_mem_cons.mpr ⟨(by decide +kernel), List.forall_mem_cons.mpr ⟨ti12, fun _ z => nomatch z⟩⟩⟩⟩
      have wl9 : ValL K _ 0 (V.ref l9) := ⟨l9, [.int 1, .bl true], [.int 1, .bool true], rfl, ((b25.trans b26).trans b27) _ _ el9 upd_same, (.cons (.int _) (.cons (.bl _) .nil)), ⟨(by show 2 ≤ 4; decide), fun _ => .inr rfl, List.forall_mem_cons.mpr ⟨(by decide +kernel), List.forall_mem_cons.mpr ⟨(by decide +kernel), fun _ z => nomatch z⟩⟩⟩⟩
      have wl0 : ValL K _ 0 (V.ref l0) := ⟨l0, [.bl false, .int 1], [.bool false, .int 1], rfl, (b26.trans b27) _ _ el0 upd_same, (.cons (.bl _) (.cons (.int _) .nil)), ⟨(by show 2 ≤ 4; decide), fun _ => .inr rfl, List.forall_mem_cons.mpr ⟨(by decide +kernel), List.forall_mem_cons.mpr ⟨(by decide +kernel), fun _ z => nomatch z⟩⟩⟩⟩
      have all : ∀ x ∈ [V.ref l1, V.ref l2, V.ref l3, V.ref l4, V.ref l5, V.ref l6, V.ref l7, V.ref l8, V.ref l9, V.ref l0], ValL K _ 0 x := List.forall_mem_cons.mpr ⟨wl1, List.forall_mem_cons.mpr ⟨wl2, List.forall_mem_cons.mpr ⟨wl3, List.forall_mem_cons.mpr ⟨wl4, List.forall_mem_cons.mpr ⟨wl5, List.forall_mem_cons.mpr ⟨wl6, List.forall_mem_cons.mpr ⟨wl7, List.forall_mem_cons.mpr ⟨wl8, List.forall_mem_cons.mpr ⟨wl9, List.forall_mem_cons.mpr ⟨wl0, fun _ z => nomatch z⟩⟩⟩⟩⟩⟩⟩⟩⟩⟩
      have BN : But p G0 _ := ((((((((((((((((((((((((((b1.trans b2).trans b3).trans b4).trans b5).trans b6).trans b7).trans b8).trans b9).trans b10).trans b11).trans b12).trans b13).trans b14).trans b15).trans b16).trans b17).trans b18).trans b19).trans b20).trans b21).trans b22).trans b23).trans b24).trans b25).trans b26).trans b27)
      have hpN := hp27
      have hLN := hL22
      refine ⟨A5, rfl, ⟨_, SqL.of upd_same⟩, for_list (xs := [.ref l1, .ref l2, .ref l3, .ref l4, .ref l5, .ref l6, .ref l7, .ref l8, .ref l9, .ref l0]) (fun i σ H' => (∃ u4 : Option V, σ = [some (.ref a), some (.int (k : Int)), some (.ref p), some (.ref A3), u4, v5, v6, v7, v8, v9]) ∧ But p G0 H' ∧ H' p = some (.lst M12) ∧ H' A5 = some (.lst [.ref l1, .ref l2, .ref l3, .ref l4, .ref l5, .ref l6, .ref l7, .ref l8, .ref l9, .ref l0]) ∧ ∀ x ∈ [V.ref l1, V.ref l2, V.ref l3, V.ref l4, V.ref l5, V.ref l6, V.ref l7, V.ref l8, V.ref l9, V.ref l0], ValL K H' 0 x)
        ⟨⟨_, rfl⟩, BN, hpN, upd_same, all⟩ (fun i σ H' _ hP => SqL.of hP.2.2.2.1) ?_ ?_⟩
      · rintro i x σ H' hx ⟨⟨u4, rfl⟩, bn, hpx, hA, al⟩
        obtain ⟨l, ys, ds, rfl, hl, hds, fine⟩ := al x (List.mem_of_getElem? hx)
        obtain ⟨dd, fit, hd⟩ := said_data hds fine
        refine ⟨_, rfl, 0, l, ys, ds, rfl, (by decide), SqL.of hl, hds, fine, fun K1 p1 s1 np1 sd1 => ⟨_, rfl, 0, l, ys, ds, rfl, (by decide), s1 _ _ hl, RDs.mono s1 _ _ hds, fine, fun K2 p2 s2 np2 sd2 => ⟨.ref p1, .ref p2, dd, dd, rfl, hd K1 K2 p1 s1 sd1 s2, hd K2 K2 p2 (s1.trans s2) sd2 (Same.refl _), fit, fit, _, rfl, ?_⟩⟩⟩
        rw [alike_yes]
        refine it_f rfl ?_
        have ss := s1.trans s2
        exact ⟨⟨_, rfl⟩, bn.trans (same_but ss), ss _ _ hpx, ss _ _ hA, fun y hy => (al y hy).mono ss⟩
      · rintro σ H2 ⟨⟨u4, rfl⟩, bn2, hp2, _, _⟩
        refine ⟨_, rfl, p, _, b, _, rfl, (by decide), (by decide +kernel), hp2, hLN, fun r Lr Hr r0 r1 hLr bur hpr => ?_⟩
        obtain ⟨j, rfl⟩ : ∃ j : Nat, r = (j : Int) := ⟨r.toNat, by omega⟩
        have bnr := bn2.trans bur
        refine ⟨(j : Int), rfl, by omega, by omega, fun D hD => ?_⟩
        have nD : D ≠ p := (ne_of_none hpr hD).symm
        refine lc_range (lo := 0) (PvS K p D b Hr) (pvs_start hpr hLr hD) ?_ ?_
        · intro i H3 hi hP
          have hP' := hP
          obtain ⟨⟨L3, hp3, hL3⟩, _⟩ := hP'
          exact ⟨rfl, _, rfl, p, b, L3, rfl, hp3, hL3, fun v d L4 H4 rd ti bu hp4 hL4 => pvs_step hP nD hD bu hp4 hL4 rd ti (by omega)⟩
        · intro H3 hP3
          obtain ⟨⟨L3, hp3, hL3⟩, bn3, vs, ds, hD3, len3, hds3, ti3⟩ := hP3
          have len4 : vs.length ≤ 4 := by
            rw [len3]
            omega
          refine ⟨_, rfl, D, vs, rfl, .inl (SqL.of hD3), fun Bt hBt => ?_⟩
          have nB : Bt ≠ p := (ne_of_none hp3 hBt).symm
          have nBD : D ≠ Bt := ne_of_none hD3 hBt
          have sB := same_new (o := .lst vs) hBt
          have hT : PvS K p Bt b H3 vs.length (upd H3 Bt (.lst vs)) := ⟨⟨L3, sB _ _ hp3, hL3⟩, same_but sB, vs, ds, upd_same, rfl, RDs.mono (fun c o e => by
            obtain ⟨e1, e2, e3⟩ := cut2_some e
            rw [cut2 e1 (ne_of_none e3 hBt)]
            exact sB _ _ e3) _ _ hds3, ti3⟩
          refine ⟨_, rfl, D, vs, rfl, .inl (SqL.of (sB _ _ hD3)), (vs.length : Int), rfl, by omega, by omega, for_range (fun i σ H' => (∃ u7 : Option V, σ = [some (.ref a), some (.int (k : Int)), some (.ref p), some (.ref A3), u4, some (.ref D), some (.ref Bt), u7, v8, v9]) ∧ PvS K p Bt b H3 vs.length H') ⟨⟨_, rfl⟩, hT⟩ ?_ ?_⟩
          · rintro i σ H4 hi ⟨⟨u7, rfl⟩, hP4⟩
            have hP4' := hP4
            obtain ⟨⟨L4, hp4, hL4⟩, _⟩ := hP4'
            refine ⟨_, rfl, p, _, b, L4, rfl, (by decide), (by decide +kernel), hp4, hL4, fun r L5 H5 r0 r1 hL5 bu5 hp5 => ?_⟩
            have hP5 := pvs_keep hP4 nB bu5 hp5 hL5
            refine ⟨rfl, _, rfl, ite2 (fun h => ?_) (fun h => ⟨⟨_, rfl⟩, hP5⟩)⟩
            refine ⟨_, rfl, p, b, L5, rfl, hp5, hL5, fun v d L6 H6 rd ti bu6 hp6 hL6 => ?_⟩
            obtain ⟨acc, hacc, lacc, hP6⟩ := pvs_set hP5 nB hBt bu6 hp6 hL6 rd ti i
            exact ⟨_, rfl, _, rfl, Bt, acc, _, i, rfl, rfl, hacc, ixN_nat (by omega), ⟨_, rfl⟩, hP6⟩
          · rintro σ H4 ⟨⟨u7, rfl⟩, ⟨L4, hp4, hL4⟩, bn4, ws, es, hB4, lenw, hes, tie⟩
            have hD4 := bn4 _ _ nD hD3
            have hds4 : RDs K H4 vs ds := RDs.mono (fun c o e => by
              obtain ⟨e1, e2, e3⟩ := cut2_some e
              exact bn4 _ _ e1 e3) _ _ hds3
            have hes4 : RDs K H4 ws es := RDs.mono cut_same _ _ hes
            have B4 : But p G0 H4 := (bnr.trans bn3).trans bn4
            have val : ∀ {n : Nat} {l : Addr} {ys : List V} {ds : List PyData}, n ≠ 0 → H4 l = some (.lst ys) → RDs K H4 ys ds → ys.length ≤ 4 → (∀ d ∈ ds, tinyD d = true) → ValL K H4 n (.ref l) := fun {n l ys ds} n0 h1 h2 h3 h4 => ⟨l, ys, ds, rfl, h1, h2, ⟨by rw [← h2.length]; exact h3, fun z => absurd z n0, h4⟩⟩
            refine ⟨_, rfl, _, rfl, (by show 0 ≤ sizeLine; decide), fun e0 ne0 => ⟨(by show 3 ≤ sizeLine; decide), fun A6 nA6 => ?_⟩⟩
            have se := same_new (o := .lst []) ne0
            have sA := same_new (o := .lst [.ref D, .ref Bt, .ref e0]) nA6
            have sEA := se.trans sA
            have v3 : ∀ n : Nat, n ≠ 0 → ∀ x ∈ [V.ref D, V.ref Bt, V.ref e0], ValL K _ n x := fun n n0 => List.forall_mem_cons.mpr ⟨(val n0 hD4 hds4 len4 ti3).mono sEA, List.forall_mem_cons.mpr ⟨(val n0 hB4 hes4 (by omega) tie).mono sEA, List.forall_mem_cons.mpr ⟨⟨e0, [], [], rfl, sA _ _ upd_same, .nil, ⟨by decide, fun z => absurd z n0, fun _ z => nomatch z⟩⟩, fun _ z => nomatch z⟩⟩⟩
            refine ⟨A6, rfl, ⟨_, SqL.of upd_same⟩, for_list (xs := [.ref D, .ref Bt, .ref e0]) (fun i σ H' => (∃ u4 u8 : Option V, σ = [some (.ref a), some (.int (k : Int)), some (.ref p), some (.ref A3), u4, some (.ref D), some (.ref Bt), u7, u8, v9]) ∧ But p G0 H' ∧ H' p = some (.lst L4) ∧ H' A6 = some (.lst [.ref D, .ref Bt, .ref e0]) ∧ ∀ n : Nat, n ≠ 0 → ∀ x ∈ [V.ref D, V.ref Bt, V.ref e0], ValL K H' n x)
              ⟨⟨_, _, rfl⟩, B4.trans (same_but sEA), sEA _ _ hp4, upd_same, v3⟩ (fun i σ H' _ hP => SqL.of hP.2.2.2.1) ?_ ?_⟩
            · rintro i x σ H5 hx ⟨⟨w4, w8, rfl⟩, bn5, hp5, hA5, al5⟩
              have hmem := List.mem_of_getElem? hx
              refine ⟨(by show 2 ≤ sizeLine; decide), fun Lw nLw => ?_⟩
              have sL := same_new (o := .lst [.int 1, .int 2]) nLw
              refine ⟨Lw, rfl, ⟨_, SqL.of upd_same⟩, for_list (xs := [.int 1, .int 2]) (fun i σ H' => (∃ u8 : Option V, σ = [some (.ref a), some (.int (k : Int)), some (.ref p), some (.ref A3), some x, some (.ref D), some (.ref Bt), u7, u8, v9]) ∧ But p G0 H' ∧ H' p = some (.lst L4) ∧ H' Lw = some (.lst [.int 1, .int 2]) ∧ H' A6 = some (.lst [.ref D, .ref Bt, .ref e0]) ∧ ∀ n : Nat, n ≠ 0 → ∀ x ∈ [V.ref D, V.ref Bt, V.ref e0], ValL K H' n x)
                ⟨⟨_, rfl⟩, bn5.trans (same_but sL), sL _ _ hp5, upd_same, sL _ _ hA5, fun n n0 y hy => (al5 n n0 y hy).mono sL⟩ (fun i σ H' _ hP => SqL.of hP.2.2.2.1) ?_ ?_⟩
              · rintro m y σ H6 hy ⟨⟨u8, rfl⟩, bn6, hp6, hL6, hA6, al6⟩
                obtain ⟨n, rfl, n0, n3⟩ : ∃ n : Nat, y = .int (n : Int) ∧ n ≠ 0 ∧ n < 3 := by
                  match m, hy with
                  | 0, hy => exact ⟨1, by cases hy; rfl, by decide, by decide⟩
                  | 1, hy => exact ⟨2, by cases hy; rfl, by decide, by decide⟩
                  | _ + 2, hy => cases hy
                obtain ⟨l, ys, ds, rfl, hl, hds, fine⟩ := al6 n n0 x hmem
                obtain ⟨dd, fit, hd⟩ := said_data hds fine
                refine ⟨_, rfl, _, rfl, n, l, ys, ds, rfl, n3, SqL.of hl, hds, fine, fun K1 p1 s1 np1 sd1 => ⟨_, rfl, _, rfl, n, l, ys, ds, rfl, n3, s1 _ _ hl, RDs.mono s1 _ _ hds, fine, fun K2 p2 s2 np2 sd2 => ⟨.ref p1, .ref p2, dd, dd, rfl, hd K1 K2 p1 s1 sd1 s2, hd K2 K2 p2 (s1.trans s2) sd2 (Same.refl _), fit, fit, _, rfl, ?_⟩⟩⟩
                rw [alike_yes]
                refine it_f rfl ?_
                have ss := s1.trans s2
                exact ⟨⟨_, rfl⟩, bn6.trans (same_but ss), ss _ _ hp6, ss _ _ hL6, ss _ _ hA6, fun n n0 y hy => (al6 n n0 y hy).mono ss⟩
              · rintro σ H6 ⟨⟨u8, rfl⟩, bn6, hp6, hL6, hA6, al6⟩
                exact ⟨⟨_, _, rfl⟩, bn6, hp6, hA6, al6⟩
            · rintro σ H5 ⟨⟨w4, w8, rfl⟩, bn5, hp5, _, _⟩
              refine ⟨(by show 2 ≤ sizeLine; decide), fun Lw nLw => ?_⟩
              have sL := same_new (o := .lst [.int 1, .int 2]) nLw
              refine ⟨Lw, rfl, ⟨_, SqL.of upd_same⟩, for_list (xs := [.int 1, .int 2]) (fun i σ H' => (∃ u8 : Option V, σ = [some (.ref a), some (.int (k : Int)), some (.ref p), some (.ref A3), w4, some (.ref D), some (.ref Bt), u7, u8, v9]) ∧ But p G0 H' ∧ H' p = some (.lst L4) ∧ H' Lw = some (.lst [.int 1, .int 2]))
                ⟨⟨_, rfl⟩, bn5.trans (same_but sL), sL _ _ hp5, upd_same⟩ (fun i σ H' _ hP => SqL.of hP.2.2.2) ?_ ?_⟩
              · rintro m y σ H6 hy ⟨⟨u8, rfl⟩, bn6, hp6, hL6⟩
                obtain ⟨n, rfl, n3⟩ : ∃ n : Nat, y = .int (n : Int) ∧ n < 3 := by
                  match m, hy with
                  | 0, hy => exact ⟨1, by cases hy; rfl, by decide⟩
                  | 1, hy => exact ⟨2, by cases hy; rfl, by decide⟩
                  | _ + 2, hy => cases hy
                refine ⟨_, rfl, (by show 2 ≤ sizeLine; decide), fun T nT => ⟨n, T, _, _, _, _, rfl, n3, upd_same, .l2, fun H7 b7 => ⟨true, rfl, it_f rfl ?_⟩⟩⟩
                have nLT := ne_of_none hL6 nT
                have hL7 := b7 _ _ nLT ((upd_ne nLT).trans hL6)
                obtain ⟨bn7, hp7⟩ := step_new bn6 hp6 nT (fun c hc => upd_ne hc) b7
                refine ⟨_, rfl, fun T2 nT2 => ⟨n, T2, _, _, _, _, rfl, n3, upd_same, .d0, fun H8 b8 => ⟨true, rfl, it_f rfl ?_⟩⟩⟩
                have nLT2 := ne_of_none hL7 nT2
                obtain ⟨bn8, hp8⟩ := step_new bn7 hp7 nT2 (fun c hc => upd_ne hc) b8
                exact ⟨⟨_, rfl⟩, bn8, hp8, b8 _ _ nLT2 ((upd_ne nLT2).trans hL7)⟩
              · rintro σ H6 ⟨⟨u8, rfl⟩, bn6, hp6, _⟩
                refine ⟨(by show 1 ≤ sizeLine; decide), fun T nT => ⟨0, T, _, _, _, _, rfl, by decide, upd_same, .l1, fun H7 b7 => ⟨true, rfl, it_f rfl ?_⟩⟩⟩
                obtain ⟨bn7, hp7⟩ := step_new bn6 hp6 nT (fun c hc => upd_ne hc) b7
                refine fun T2 nT2 => ⟨upd_same, [(Sum.inr "a", .int 1)], rfl, (by show 1 ≤ 15; decide), 0, T2, _, _, _, _, rfl, by decide, upd_same, .d1, fun H8 b8 => ⟨true, rfl, it_f rfl ?_⟩⟩
                obtain ⟨bn8, hp8⟩ := step_new bn7 hp7 nT2 (fun c hc => (upd_ne hc).trans (upd_ne hc)) b8
                refine ⟨_, rfl, p, b, L4, rfl, hp8, hL4, fun L9 H9 b9 hp9 hL9 => ⟨true, rfl, it_f rfl ?_⟩⟩
                exact ⟨⟨_, _, _, _, _, _, _, _, _, rfl⟩, Same.seq (same_via sP nP (bn8.trans b9)) sq1⟩
    · rintro σ H1 ⟨⟨v1, v2, v3, v4, v5, v6, v7, v8, v9, rfl⟩, sq1⟩
      exact ⟨rfl, fun H' _ => q H'⟩
end
end Paw

set_option maxRecDepth 100000
set_option maxHeartbeats 4000000
namespace Paw
open PySem PySem.Spec PyProof.Rows L2
abbrev bmOf (CH : Addr) : List Value := [.ref CH, .type "ValueError", .type "Exception", .type "BaseException", .type "object"]
section
variable {K : PySem.W.Frag} {mg : Str → Option Value} {h : Heap} {C CH : Addr} {nm q : Str} {N : Addr} {bs : List Value} {sn : List Str} {sub : List Value} {ab : Bool} {col : Option Bool} {dd : Option Addr} {m0 m1 m2 m3 m5 : Option Value}
/-- a class of errors, by what the written part says -/
theorem exv_mk (xL : K.lookup C = some (excClassObj nm q C N bs (bmOf CH) true sn sub ab col dd m0 m1 m2 m3 m5 "ValueError.__new__"))
    (sa : PySem.W.findIn K (.ref C) "__setattr__" = some (some (.builtin "object.__setattr__"))) (ga : PySem.W.findIn K (.ref C) "__getattribute__" = some (some (.builtin "BaseException.__getattribute__"))) (gg : PySem.W.findIn K (.ref C) "__getattr__" = some none)
    (kC : PySem.W.keepIn K (.ref C) = true) (tC : PySem.W.typeIn K (.ref C) = some (.type "type")) (ca : PySem.W.findIn K (.ref C) "__class__" = some (some (.builtin "object.__class__")))
    (cg : PySem.W.specialIn K (.builtin "object.__class__") "__get__" = some (some (.builtin "getset_descriptor.__get__"))) (ct : PySem.W.takesIn K (.builtin "object.__class__") = some true) : ExV K C := by
  have cl : PySem.W.clsIn K C = some { name := nm, bases := bs, mro := .ref C :: bmOf CH, ns := N, qualname := q, hasDict := true, slotNames := sn, subclasses := sub, abstract := ab, collection := col, hasDel := false } := by
    unfold PySem.W.clsIn
    rw [xL] <;> rfl
  have ob : PySem.W.mroIn K C (.type "object") = some true := by
    unfold PySem.W.mroIn
    rw [cl] <;> rfl
  have ex : PySem.W.subIn K (.ref C) (.type "BaseException") = some true := by
    show PySem.W.mroIn K C (.type "BaseException") = some true
    unfold PySem.W.mroIn
    rw [cl] <;> rfl
  have hd : PySem.W.hasDictIn K C = true := by
    unfold PySem.W.hasDictIn
    rw [cl] <;> rfl
  exact ⟨⟨⟨nm, q, N, bs, bmOf CH, sn, sub, ab, col, dd, m0, m1, m2, m3, m5, xL, by rfl⟩, sa, ex, tC, kC⟩, ga, gg, hd, ca, cg, ct, ob⟩
end
theorem exm_self {K : PySem.W.Frag} {C : Addr} (ex : PySem.W.subIn K (.ref C) (.type "BaseException") = some true) (ic : PySem.W.isClsIn K C = true) (tC : PySem.W.typeIn K (.ref C) = some (.type "type")) (sc : PySem.W.subIn K (.ref C) (.ref C) = some true) : PySem.W.exmOne K (.ref C) (.ref C) = some true := by
  have ic' : (PySem.W.clsIn K C).isSome = true := ic
  unfold PySem.W.exmOne
  rw [ex, if_pos (by rfl)]
  show (if ((PySem.W.clsIn K C).isSome && PySem.W.typeIn K (.ref C) == some (.type "type")) = true then PySem.W.subIn K (.ref C) (.ref C) else none) = some true
  rw [ic', tC, if_pos (by rfl)]
  exact sc
abbrev sInit : Stmt := inClass (top 3) 0
theorem fd_binds1 {K : PySem.W.Frag} {f : Addr} {fd : FuncData} (F : FunD K "fraction" "fraction" (defArgs sFraction) (defBody sFraction) (defScope sFraction) [.int 1] [] f fd) : ∃ ds, Vals [V.int 1] ds ∧ Binds K fd ["top", "bottom"] ds :=
  F.binds1 (ps := ["top", "bottom"]) 1 0 (by simp) (by rfl) fun T kV doc pm an cdv ct us its h1 h2 => match us, its, h1, h2 with | [_], [_], _, _ => ⟨_, rfl, rfl⟩
theorem fd_binds0 {K : PySem.W.Frag} {f : Addr} {fd : FuncData} (F : FunD K "fraction" "fraction" (defArgs sFraction) (defBody sFraction) (defScope sFraction) [.int 1] [] f fd) : Binds K fd ["top", "bottom"] [] := by
  obtain ⟨ds, h1, h2⟩ := F.binds1 (ps := ["top", "bottom"]) 2 1 (by simp) (by rfl) fun T kV doc pm an cdv ct us its h1 h2 => match us, its, h1, h2 with | [_, _], [_], _, _ => ⟨_, rfl, rfl⟩
  cases h1
  exact h2
theorem all_mk {l : PySem.W.OpenLaw} {wd : World} {K : PySem.W.Frag} {h : Heap} {mg : Str → Option Value} {fa : Addr} (X : K.In h) (G : h.Ns mainGlobals mg) (hfa : mg "law" = some (.ref fa))
    {CH : Addr}
    {C0 N0 : Addr} {nm0 q0 : Str} {bs0 : List Value} {sn0 : List Str} {sb0 : List Value} {ab0 : Bool} {co0 : Option Bool} {dd0 : Option Addr} {ma0 mb0 mc0 md0 me0 : Option Value}
    {f0 : Addr} {od0 an0 : Option Addr} {sl0 : Array (Option Value)} {oc0 kV0 dc0 pm0 cd0 ct0 : Value}
    {gq TD : Addr} {Odq Anq dT : Option Addr} {Slq sT : Array (Option Value)} {Ocq KVq Dcq Pmq Cdq Ctq cT : Value} {tT : Tok} {nT : Nat}
    {g0 : Addr} {Od0 An0 : Option Addr} {Sl0 : Array (Option Value)} {Oc0 KV0 Dc0 Pm0 Cd0 Ct0 : Value}
    {g1 : Addr} {Od1 An1 : Option Addr} {Sl1 : Array (Option Value)} {Oc1 KV1 Dc1 Pm1 Cd1 Ct1 : Value}
    {g2 : Addr} {Od2 An2 : Option Addr} {Sl2 : Array (Option Value)} {Oc2 KV2 Dc2 Pm2 Cd2 Ct2 : Value}
    {g3 : Addr} {Od3 An3 : Option Addr} {Sl3 : Array (Option Value)} {Oc3 KV3 Dc3 Pm3 Cd3 Ct3 : Value}
    {g4 : Addr} {Od4 An4 : Option Addr} {Sl4 : Array (Option Value)} {Oc4 KV4 Dc4 Pm4 Cd4 Ct4 : Value}
    {g5 : Addr} {Od5 An5 : Option Addr} {Sl5 : Array (Option Value)} {Oc5 KV5 Dc5 Pm5 Cd5 Ct5 : Value}
    {g6 : Addr} {Od6 An6 : Option Addr} {Sl6 : Array (Option Value)} {Oc6 KV6 Dc6 Pm6 Cd6 Ct6 : Value}
    {g7 : Addr} {Od7 An7 : Option Addr} {Sl7 : Array (Option Value)} {Oc7 KV7 Dc7 Pm7 Cd7 Ct7 : Value}
    {g8 : Addr} {Od8 An8 : Option Addr} {Sl8 : Array (Option Value)} {Oc8 KV8 Dc8 Pm8 Cd8 Ct8 : Value}
    {g9 : Addr} {Od9 An9 : Option Addr} {Sl9 : Array (Option Value)} {Oc9 KV9 Dc9 Pm9 Cd9 Ct9 : Value}
    {g10 : Addr} {Od10 An10 : Option Addr} {Sl10 : Array (Option Value)} {Oc10 KV10 Dc10 Pm10 Cd10 Ct10 : Value}
    {g11 : Addr} {Od11 An11 : Option Addr} {Sl11 : Array (Option Value)} {Oc11 KV11 Dc11 Pm11 Cd11 Ct11 : Value}
    {g12 : Addr} {Od12 An12 : Option Addr} {Sl12 : Array (Option Value)} {Oc12 KV12 Dc12 Pm12 Cd12 Ct12 : Value}
    {g13 : Addr} {Od13 An13 : Option Addr} {Sl13 : Array (Option Value)} {Oc13 KV13 Dc13 Pm13 Cd13 Ct13 : Value}
    {g14 : Addr} {Od14 An14 : Option Addr} {Sl14 : Array (Option Value)} {Oc14 KV14 Dc14 Pm14 Cd14 Ct14 : Value}
    {g15 : Addr} {Od15 An15 : Option Addr} {Sl15 : Array (Option Value)} {Oc15 KV15 Dc15 Pm15 Cd15 Ct15 : Value}
    {g16 : Addr} {Od16 An16 : Option Addr} {Sl16 : Array (Option Value)} {Oc16 KV16 Dc16 Pm16 Cd16 Ct16 : Value}
    {g17 : Addr} {Od17 An17 : Option Addr} {Sl17 : Array (Option Value)} {Oc17 KV17 Dc17 Pm17 Cd17 Ct17 : Value}
    {g18 : Addr} {Od18 An18 : Option Addr} {Sl18 : Array (Option Value)} {Oc18 KV18 Dc18 Pm18 Cd18 Ct18 : Value}
    {g19 : Addr} {Od19 An19 : Option Addr} {Sl19 : Array (Option Value)} {Oc19 KV19 Dc19 Pm19 Cd19 Ct19 : Value}
    {g20 : Addr} {Od20 An20 : Option Addr} {Sl20 : Array (Option Value)} {Oc20 KV20 Dc20 Pm20 Cd20 Ct20 : Value}
    {g21 : Addr} {Od21 An21 : Option Addr} {Sl21 : Array (Option Value)} {Oc21 KV21 Dc21 Pm21 Cd21 Ct21 : Value}
    {g22 : Addr} {Od22 An22 : Option Addr} {Sl22 : Array (Option Value)} {Oc22 KV22 Dc22 Pm22 Cd22 Ct22 : Value}
    {g23 : Addr} {Od23 An23 : Option Addr} {Sl23 : Array (Option Value)} {Oc23 KV23 Dc23 Pm23 Cd23 Ct23 : Value}
    {g24 : Addr} {Od24 An24 : Option Addr} {Sl24 : Array (Option Value)} {Oc24 KV24 Dc24 Pm24 Cd24 Ct24 : Value}
    {g25 : Addr} {Od25 An25 : Option Addr} {Sl25 : Array (Option Value)} {Oc25 KV25 Dc25 Pm25 Cd25 Ct25 : Value}
    (cg : PySem.W.specialIn K (.builtin "object.__class__") "__get__" = some (some (.builtin "getset_descriptor.__get__")))
    (ct : PySem.W.takesIn K (.builtin "object.__class__") = some true)
    (aH : PySem.W.nsIn K mainGlobals "HallError" = some (some (.ref CH)))
    (aC0 : PySem.W.nsIn K mainGlobals "NoFraction" = some (some (.ref C0)))
    (x0 : K.lookup C0 = some (excClassObj nm0 q0 C0 N0 bs0 (bmOf CH) true sn0 sb0 ab0 co0 dd0 ma0 mb0 mc0 md0 me0 "ValueError.__new__"))
    (sa0 : PySem.W.findIn K (.ref C0) "__setattr__" = some (some (.builtin "object.__setattr__")))
    (ga0 : PySem.W.findIn K (.ref C0) "__getattribute__" = some (some (.builtin "BaseException.__getattribute__")))
    (gg0 : PySem.W.findIn K (.ref C0) "__getattr__" = some none)
    (kC0 : PySem.W.keepIn K (.ref C0) = true)
    (tC0 : PySem.W.typeIn K (.ref C0) = some (.type "type"))
    (ca0 : PySem.W.findIn K (.ref C0) "__class__" = some (some (.builtin "object.__class__")))
    (no0 : PySem.W.findIn K (.ref C0) "value" = some none)
    (i0 : PySem.W.findIn K (.ref C0) "__init__" = some (some (.ref f0)))
    (t0 : PySem.W.typeIn K (.ref f0) = some (.type "function"))
    (l0 : K.lookup f0 = some ⟨oc0, od0, .func (PySem.W.fnOf "__init__" "NoFraction.__init__" (defArgs sInit) (defBody sInit) (defScope sInit) .none kV0 dc0 pm0 an0 cd0 ct0), sl0⟩)
    (c0 : PySem.W.codeIn K cd0 "NoFraction.__init__" = true)
    (k0 : PySem.W.keepIn K (.ref f0) = true)
    (ic : PySem.W.isClsIn K C0 = true)
    (scC : PySem.W.subIn K (.ref C0) (.ref C0) = some true)
    (sb : PySem.W.subIn K (.ref C0) (.type "BaseException") = some true)
    (gcd : PySem.W.nsIn K mainGlobals "gcd" = some (some (.builtin "math.gcd")))
    (Aq : PySem.W.nsIn K mainGlobals "fraction" = some (some (.ref gq)))
    (Lq : K.lookup gq = some ⟨Ocq, Odq, .func (PySem.W.fnOf "fraction" "fraction" (defArgs sFraction) (defBody sFraction) (defScope sFraction) (.ref TD) KVq Dcq Pmq Anq Cdq Ctq), Slq⟩)
    (Dq : PySem.W.codeIn K Cdq "fraction" = true)
    (Eq : PySem.W.keepIn K (.ref gq) = true)
    (lT : K.lookup TD = some ⟨cT, dT, .seq #[.int 1 tT] nT, sT⟩)
    (A0 : PySem.W.nsIn K mainGlobals "_law_mixed" = some (some (.ref g0)))
    (L0 : K.lookup g0 = some ⟨Oc0, Od0, .func (PySem.W.fnOf "_law_mixed" "_law_mixed" (defArgs sMixed) (defBody sMixed) (defScope sMixed) .none KV0 Dc0 Pm0 An0 Cd0 Ct0), Sl0⟩)
    (D0 : PySem.W.codeIn K Cd0 "_law_mixed" = true)
    (E0 : PySem.W.keepIn K (.ref g0) = true)
    (A1 : PySem.W.nsIn K mainGlobals "_law_pile" = some (some (.ref g1)))
    (L1 : K.lookup g1 = some ⟨Oc1, Od1, .func (PySem.W.fnOf "_law_pile" "_law_pile" (defArgs sPile) (defBody sPile) (defScope sPile) .none KV1 Dc1 Pm1 An1 Cd1 Ct1), Sl1⟩)
    (D1 : PySem.W.codeIn K Cd1 "_law_pile" = true)
    (E1 : PySem.W.keepIn K (.ref g1) = true)
    (A2 : PySem.W.nsIn K mainGlobals "_law_take" = some (some (.ref g2)))
    (L2 : K.lookup g2 = some ⟨Oc2, Od2, .func (PySem.W.fnOf "_law_take" "_law_take" (defArgs sTake) (defBody sTake) (defScope sTake) .none KV2 Dc2 Pm2 An2 Cd2 Ct2), Sl2⟩)
    (D2 : PySem.W.codeIn K Cd2 "_law_take" = true)
    (E2 : PySem.W.keepIn K (.ref g2) = true)
    (A3 : PySem.W.nsIn K mainGlobals "_law_odd" = some (some (.ref g3)))
    (L3 : K.lookup g3 = some ⟨Oc3, Od3, .func (PySem.W.fnOf "_law_odd" "_law_odd" (defArgs sOdd) (defBody sOdd) (defScope sOdd) .none KV3 Dc3 Pm3 An3 Cd3 Ct3), Sl3⟩)
    (D3 : PySem.W.codeIn K Cd3 "_law_odd" = true)
    (E3 : PySem.W.keepIn K (.ref g3) = true)
    (A4 : PySem.W.nsIn K mainGlobals "_law_alike" = some (some (.ref g4)))
    (L4 : K.lookup g4 = some ⟨Oc4, Od4, .func (PySem.W.fnOf "_law_alike" "_law_alike" (defArgs sAlike) (defBody sAlike) (defScope sAlike) .none KV4 Dc4 Pm4 An4 Cd4 Ct4), Sl4⟩)
    (D4 : PySem.W.codeIn K Cd4 "_law_alike" = true)
    (E4 : PySem.W.keepIn K (.ref g4) = true)
    (A5 : PySem.W.nsIn K mainGlobals "is_int" = some (some (.ref g5)))
    (L5 : K.lookup g5 = some ⟨Oc5, Od5, .func (PySem.W.fnOf "is_int" "is_int" (defArgs sIsInt) (defBody sIsInt) (defScope sIsInt) .none KV5 Dc5 Pm5 An5 Cd5 Ct5), Sl5⟩)
    (D5 : PySem.W.codeIn K Cd5 "is_int" = true)
    (E5 : PySem.W.keepIn K (.ref g5) = true)
    (A6 : PySem.W.nsIn K mainGlobals "is_fraction" = some (some (.ref g6)))
    (L6 : K.lookup g6 = some ⟨Oc6, Od6, .func (PySem.W.fnOf "is_fraction" "is_fraction" (defArgs sIsFrac) (defBody sIsFrac) (defScope sIsFrac) .none KV6 Dc6 Pm6 An6 Cd6 Ct6), Sl6⟩)
    (D6 : PySem.W.codeIn K Cd6 "is_fraction" = true)
    (E6 : PySem.W.keepIn K (.ref g6) = true)
    (A7 : PySem.W.nsIn K mainGlobals "_lowest" = some (some (.ref g7)))
    (L7 : K.lookup g7 = some ⟨Oc7, Od7, .func (PySem.W.fnOf "_lowest" "_lowest" (defArgs sLowest) (defBody sLowest) (defScope sLowest) .none KV7 Dc7 Pm7 An7 Cd7 Ct7), Sl7⟩)
    (D7 : PySem.W.codeIn K Cd7 "_lowest" = true)
    (E7 : PySem.W.keepIn K (.ref g7) = true)
    (A8 : PySem.W.nsIn K mainGlobals "_check_fractions" = some (some (.ref g8)))
    (L8 : K.lookup g8 = some ⟨Oc8, Od8, .func (PySem.W.fnOf "_check_fractions" "_check_fractions" (defArgs sCheck) (defBody sCheck) (defScope sCheck) .none KV8 Dc8 Pm8 An8 Cd8 Ct8), Sl8⟩)
    (D8 : PySem.W.codeIn K Cd8 "_check_fractions" = true)
    (E8 : PySem.W.keepIn K (.ref g8) = true)
    (A9 : PySem.W.nsIn K mainGlobals "total" = some (some (.ref g9)))
    (L9 : K.lookup g9 = some ⟨Oc9, Od9, .func (PySem.W.fnOf "total" "total" (defArgs sTotal) (defBody sTotal) (defScope sTotal) .none KV9 Dc9 Pm9 An9 Cd9 Ct9), Sl9⟩)
    (D9 : PySem.W.codeIn K Cd9 "total" = true)
    (E9 : PySem.W.keepIn K (.ref g9) = true)
    (A10 : PySem.W.nsIn K mainGlobals "product" = some (some (.ref g10)))
    (L10 : K.lookup g10 = some ⟨Oc10, Od10, .func (PySem.W.fnOf "product" "product" (defArgs sProduct) (defBody sProduct) (defScope sProduct) .none KV10 Dc10 Pm10 An10 Cd10 Ct10), Sl10⟩)
    (D10 : PySem.W.codeIn K Cd10 "product" = true)
    (E10 : PySem.W.keepIn K (.ref g10) = true)
    (A11 : PySem.W.nsIn K mainGlobals "_law_whole" = some (some (.ref g11)))
    (L11 : K.lookup g11 = some ⟨Oc11, Od11, .func (PySem.W.fnOf "_law_whole" "_law_whole" (defArgs sWhole) (defBody sWhole) (defScope sWhole) .none KV11 Dc11 Pm11 An11 Cd11 Ct11), Sl11⟩)
    (D11 : PySem.W.codeIn K Cd11 "_law_whole" = true)
    (E11 : PySem.W.keepIn K (.ref g11) = true)
    (A12 : PySem.W.nsIn K mainGlobals "_law_divisor" = some (some (.ref g12)))
    (L12 : K.lookup g12 = some ⟨Oc12, Od12, .func (PySem.W.fnOf "_law_divisor" "_law_divisor" (defArgs sDivisor) (defBody sDivisor) (defScope sDivisor) .none KV12 Dc12 Pm12 An12 Cd12 Ct12), Sl12⟩)
    (D12 : PySem.W.codeIn K Cd12 "_law_divisor" = true)
    (E12 : PySem.W.keepIn K (.ref g12) = true)
    (A13 : PySem.W.nsIn K mainGlobals "_law_lowest" = some (some (.ref g13)))
    (L13 : K.lookup g13 = some ⟨Oc13, Od13, .func (PySem.W.fnOf "_law_lowest" "_law_lowest" (defArgs sLLow) (defBody sLLow) (defScope sLLow) .none KV13 Dc13 Pm13 An13 Cd13 Ct13), Sl13⟩)
    (D13 : PySem.W.codeIn K Cd13 "_law_lowest" = true)
    (E13 : PySem.W.keepIn K (.ref g13) = true)
    (A14 : PySem.W.nsIn K mainGlobals "_law_plus" = some (some (.ref g14)))
    (L14 : K.lookup g14 = some ⟨Oc14, Od14, .func (PySem.W.fnOf "_law_plus" "_law_plus" (defArgs sPlus) (defBody sPlus) (defScope sPlus) .none KV14 Dc14 Pm14 An14 Cd14 Ct14), Sl14⟩)
    (D14 : PySem.W.codeIn K Cd14 "_law_plus" = true)
    (E14 : PySem.W.keepIn K (.ref g14) = true)
    (A15 : PySem.W.nsIn K mainGlobals "_law_times" = some (some (.ref g15)))
    (L15 : K.lookup g15 = some ⟨Oc15, Od15, .func (PySem.W.fnOf "_law_times" "_law_times" (defArgs sTimes) (defBody sTimes) (defScope sTimes) .none KV15 Dc15 Pm15 An15 Cd15 Ct15), Sl15⟩)
    (D15 : PySem.W.codeIn K Cd15 "_law_times" = true)
    (E15 : PySem.W.keepIn K (.ref g15) = true)
    (A16 : PySem.W.nsIn K mainGlobals "_law_is_fraction" = some (some (.ref g16)))
    (L16 : K.lookup g16 = some ⟨Oc16, Od16, .func (PySem.W.fnOf "_law_is_fraction" "_law_is_fraction" (defArgs sLFrac) (defBody sLFrac) (defScope sLFrac) .none KV16 Dc16 Pm16 An16 Cd16 Ct16), Sl16⟩)
    (D16 : PySem.W.codeIn K Cd16 "_law_is_fraction" = true)
    (E16 : PySem.W.keepIn K (.ref g16) = true)
    (A17 : PySem.W.nsIn K mainGlobals "_law_fraction" = some (some (.ref g17)))
    (L17 : K.lookup g17 = some ⟨Oc17, Od17, .func (PySem.W.fnOf "_law_fraction" "_law_fraction" (defArgs sLFra) (defBody sLFra) (defScope sLFra) .none KV17 Dc17 Pm17 An17 Cd17 Ct17), Sl17⟩)
    (D17 : PySem.W.codeIn K Cd17 "_law_fraction" = true)
    (E17 : PySem.W.keepIn K (.ref g17) = true)
    (A18 : PySem.W.nsIn K mainGlobals "_law_integer" = some (some (.ref g18)))
    (L18 : K.lookup g18 = some ⟨Oc18, Od18, .func (PySem.W.fnOf "_law_integer" "_law_integer" (defArgs sLInt) (defBody sLInt) (defScope sLInt) .none KV18 Dc18 Pm18 An18 Cd18 Ct18), Sl18⟩)
    (D18 : PySem.W.codeIn K Cd18 "_law_integer" = true)
    (E18 : PySem.W.keepIn K (.ref g18) = true)
    (A19 : PySem.W.nsIn K mainGlobals "_law_wrong_fraction" = some (some (.ref g19)))
    (L19 : K.lookup g19 = some ⟨Oc19, Od19, .func (PySem.W.fnOf "_law_wrong_fraction" "_law_wrong_fraction" (defArgs sWrong) (defBody sWrong) (defScope sWrong) .none KV19 Dc19 Pm19 An19 Cd19 Ct19), Sl19⟩)
    (D19 : PySem.W.codeIn K Cd19 "_law_wrong_fraction" = true)
    (E19 : PySem.W.keepIn K (.ref g19) = true)
    (A20 : PySem.W.nsIn K mainGlobals "_law_caught" = some (some (.ref g20)))
    (L20 : K.lookup g20 = some ⟨Oc20, Od20, .func (PySem.W.fnOf "_law_caught" "_law_caught" (defArgs sCaught) (defBody sCaught) (defScope sCaught) .none KV20 Dc20 Pm20 An20 Cd20 Ct20), Sl20⟩)
    (D20 : PySem.W.codeIn K Cd20 "_law_caught" = true)
    (E20 : PySem.W.keepIn K (.ref g20) = true)
    (A21 : PySem.W.nsIn K mainGlobals "_law_due" = some (some (.ref g21)))
    (L21 : K.lookup g21 = some ⟨Oc21, Od21, .func (PySem.W.fnOf "_law_due" "_law_due" (defArgs sDue) (defBody sDue) (defScope sDue) .none KV21 Dc21 Pm21 An21 Cd21 Ct21), Sl21⟩)
    (D21 : PySem.W.codeIn K Cd21 "_law_due" = true)
    (E21 : PySem.W.keepIn K (.ref g21) = true)
    (A22 : PySem.W.nsIn K mainGlobals "_law_held" = some (some (.ref g22)))
    (L22 : K.lookup g22 = some ⟨Oc22, Od22, .func (PySem.W.fnOf "_law_held" "_law_held" (defArgs sHeld) (defBody sHeld) (defScope sHeld) .none KV22 Dc22 Pm22 An22 Cd22 Ct22), Sl22⟩)
    (D22 : PySem.W.codeIn K Cd22 "_law_held" = true)
    (E22 : PySem.W.keepIn K (.ref g22) = true)
    (A23 : PySem.W.nsIn K mainGlobals "_law_back_right" = some (some (.ref g23)))
    (L23 : K.lookup g23 = some ⟨Oc23, Od23, .func (PySem.W.fnOf "_law_back_right" "_law_back_right" (defArgs sBack) (defBody sBack) (defScope sBack) .none KV23 Dc23 Pm23 An23 Cd23 Ct23), Sl23⟩)
    (D23 : PySem.W.codeIn K Cd23 "_law_back_right" = true)
    (E23 : PySem.W.keepIn K (.ref g23) = true)
    (A24 : PySem.W.nsIn K mainGlobals "_law_neighbours_right" = some (some (.ref g24)))
    (L24 : K.lookup g24 = some ⟨Oc24, Od24, .func (PySem.W.fnOf "_law_neighbours_right" "_law_neighbours_right" (defArgs sNb) (defBody sNb) (defScope sNb) .none KV24 Dc24 Pm24 An24 Cd24 Ct24), Sl24⟩)
    (D24 : PySem.W.codeIn K Cd24 "_law_neighbours_right" = true)
    (E24 : PySem.W.keepIn K (.ref g24) = true)
    (A25 : PySem.W.nsIn K mainGlobals "law" = some (some (.ref g25)))
    (L25 : K.lookup g25 = some ⟨Oc25, Od25, .func (PySem.W.fnOf "law" "law" (defArgs sLaw) (defBody sLaw) (defScope sLaw) .none KV25 Dc25 Pm25 An25 Cd25 Ct25), Sl25⟩)
    (D25 : PySem.W.codeIn K Cd25 "law" = true)
    (E25 : PySem.W.keepIn K (.ref g25) = true)
    (zint : PySem.W.nsIn K mainGlobals "int" = some none)
    (zlen : PySem.W.nsIn K mainGlobals "len" = some none)
    (zabs : PySem.W.nsIn K mainGlobals "abs" = some none)
    (zrepr : PySem.W.nsIn K mainGlobals "repr" = some none)
    (zisinstance : PySem.W.nsIn K mainGlobals "isinstance" = some none)
    (zenumerate : PySem.W.nsIn K mainGlobals "enumerate" = some none)
    (zlist : PySem.W.nsIn K mainGlobals "list" = some none)
    (zrange : PySem.W.nsIn K mainGlobals "range" = some none)
    (zbool : PySem.W.nsIn K mainGlobals "bool" = some none)
    (ztuple : PySem.W.nsIn K mainGlobals "tuple" = some none) :
    ∃ fd : FuncData, (∀ (s : Shared) (v : Value), BindsTo s fd ⟨[v], []⟩ [("script", v)]) ∧ ∀ base : Heap, K.In base → base.Ns mainGlobals mg → FnG l.prog wd K mg base CX0 7 fa fd ["script"] (spLaw K) := by
  have e := hfa.symm.trans (PySem.W.mg_of X G A25)
  cases e
  have v0 : ExV K C0 := exv_mk x0 sa0 ga0 gg0 kC0 tC0 ca0 cg ct
  have te : PySem.W.exmOne K (.ref C0) (.ref C0) = some true := exm_self sb ic tC0 scC
  have F0 := fun_mk (st := sInit) l0 c0 k0
  have J0 := fun_mk (st := sMixed) L0 D0 E0
  have b0 := J0.binds (ps := ["cell", "k"]) fun _ _ _ _ _ _ us hl => match us, hl with | [_, _], _ => rfl
  have m0 := PySem.W.mg_of X G A0
  have J1 := fun_mk (st := sPile) L1 D1 E1
  have b1 := J1.binds (ps := ["script", "k"]) fun _ _ _ _ _ _ us hl => match us, hl with | [_, _], _ => rfl
  have m1 := PySem.W.mg_of X G A1
  have J2 := fun_mk (st := sTake) L2 D2 E2
  have b2 := J2.binds (ps := ["pile", "many"]) fun _ _ _ _ _ _ us hl => match us, hl with | [_, _], _ => rfl
  have m2 := PySem.W.mg_of X G A2
  have J3 := fun_mk (st := sOdd) L3 D3 E3
  have b3 := J3.binds (ps := ["pile"]) fun _ _ _ _ _ _ us hl => match us, hl with | [_], _ => rfl
  have m3 := PySem.W.mg_of X G A3
  have J4 := fun_mk (st := sAlike) L4 D4 E4
  have b4 := J4.binds (ps := ["one", "other"]) fun _ _ _ _ _ _ us hl => match us, hl with | [_, _], _ => rfl
  have m4 := PySem.W.mg_of X G A4
  have J5 := fun_mk (st := sIsInt) L5 D5 E5
  have b5 := J5.binds (ps := ["value"]) fun _ _ _ _ _ _ us hl => match us, hl with | [_], _ => rfl
  have m5 := PySem.W.mg_of X G A5
  have J6 := fun_mk (st := sIsFrac) L6 D6 E6
  have b6 := J6.binds (ps := ["value"]) fun _ _ _ _ _ _ us hl => match us, hl with | [_], _ => rfl
  have m6 := PySem.W.mg_of X G A6
  have J7 := fun_mk (st := sLowest) L7 D7 E7
  have b7 := J7.binds (ps := ["top", "bottom"]) fun _ _ _ _ _ _ us hl => match us, hl with | [_, _], _ => rfl
  have m7 := PySem.W.mg_of X G A7
  have J8 := fun_mk (st := sCheck) L8 D8 E8
  have b8 := J8.binds (ps := ["values"]) fun _ _ _ _ _ _ us hl => match us, hl with | [_], _ => rfl
  have m8 := PySem.W.mg_of X G A8
  have J9 := fun_mk (st := sTotal) L9 D9 E9
  have m9 := PySem.W.mg_of X G A9
  have J10 := fun_mk (st := sProduct) L10 D10 E10
  have m10 := PySem.W.mg_of X G A10
  have J11 := fun_mk (st := sWhole) L11 D11 E11
  have b11 := J11.binds (ps := ["thing"]) fun _ _ _ _ _ _ us hl => match us, hl with | [_], _ => rfl
  have m11 := PySem.W.mg_of X G A11
  have J12 := fun_mk (st := sDivisor) L12 D12 E12
  have b12 := J12.binds (ps := ["one", "other"]) fun _ _ _ _ _ _ us hl => match us, hl with | [_, _], _ => rfl
  have m12 := PySem.W.mg_of X G A12
  have J13 := fun_mk (st := sLLow) L13 D13 E13
  have b13 := J13.binds (ps := ["top", "bottom"]) fun _ _ _ _ _ _ us hl => match us, hl with | [_, _], _ => rfl
  have m13 := PySem.W.mg_of X G A13
  have J14 := fun_mk (st := sPlus) L14 D14 E14
  have b14 := J14.binds (ps := ["one", "other"]) fun _ _ _ _ _ _ us hl => match us, hl with | [_, _], _ => rfl
  have m14 := PySem.W.mg_of X G A14
  have J15 := fun_mk (st := sTimes) L15 D15 E15
  have b15 := J15.binds (ps := ["one", "other"]) fun _ _ _ _ _ _ us hl => match us, hl with | [_, _], _ => rfl
  have m15 := PySem.W.mg_of X G A15
  have J16 := fun_mk (st := sLFrac) L16 D16 E16
  have b16 := J16.binds (ps := ["thing"]) fun _ _ _ _ _ _ us hl => match us, hl with | [_], _ => rfl
  have m16 := PySem.W.mg_of X G A16
  have J17 := fun_mk (st := sLFra) L17 D17 E17
  have b17 := J17.binds (ps := ["pile"]) fun _ _ _ _ _ _ us hl => match us, hl with | [_], _ => rfl
  have m17 := PySem.W.mg_of X G A17
  have J18 := fun_mk (st := sLInt) L18 D18 E18
  have b18 := J18.binds (ps := ["pile"]) fun _ _ _ _ _ _ us hl => match us, hl with | [_], _ => rfl
  have m18 := PySem.W.mg_of X G A18
  have J19 := fun_mk (st := sWrong) L19 D19 E19
  have b19 := J19.binds (ps := ["pile"]) fun _ _ _ _ _ _ us hl => match us, hl with | [_], _ => rfl
  have m19 := PySem.W.mg_of X G A19
  have J20 := fun_mk (st := sCaught) L20 D20 E20
  have b20 := J20.binds (ps := ["which", "values"]) fun _ _ _ _ _ _ us hl => match us, hl with | [_, _], _ => rfl
  have m20 := PySem.W.mg_of X G A20
  have J21 := fun_mk (st := sDue) L21 D21 E21
  have b21 := J21.binds (ps := ["which", "values"]) fun _ _ _ _ _ _ us hl => match us, hl with | [_, _], _ => rfl
  have m21 := PySem.W.mg_of X G A21
  have J22 := fun_mk (st := sHeld) L22 D22 E22
  have b22 := J22.binds (ps := ["which", "thing"]) fun _ _ _ _ _ _ us hl => match us, hl with | [_, _], _ => rfl
  have m22 := PySem.W.mg_of X G A22
  have J23 := fun_mk (st := sBack) L23 D23 E23
  have b23 := J23.binds (ps := ["pile"]) fun _ _ _ _ _ _ us hl => match us, hl with | [_], _ => rfl
  have m23 := PySem.W.mg_of X G A23
  have J24 := fun_mk (st := sNb) L24 D24 E24
  have b24 := J24.binds (ps := []) fun _ _ _ _ _ _ us hl => match us, hl with | [], _ => rfl
  have m24 := PySem.W.mg_of X G A24
  have J25 := fun_mk (st := sLaw) L25 D25 E25
  have b25 := J25.binds (ps := ["script"]) fun _ _ _ _ _ _ us hl => match us, hl with | [_], _ => rfl
  have m25 := PySem.W.mg_of X G A25
  have yint := PySem.W.mg_none_of X G zint
  have ylen := PySem.W.mg_none_of X G zlen
  have yabs := PySem.W.mg_none_of X G zabs
  have yrepr := PySem.W.mg_none_of X G zrepr
  have yisinstance := PySem.W.mg_none_of X G zisinstance
  have yenumerate := PySem.W.mg_none_of X G zenumerate
  have ylist := PySem.W.mg_none_of X G zlist
  have yrange := PySem.W.mg_none_of X G zrange
  have ybool := PySem.W.mg_none_of X G zbool
  have ytuple := PySem.W.mg_none_of X G ztuple
  have mgcd := PySem.W.mg_of X G gcd
  have mq := PySem.W.mg_of X G Aq
  have FQ : FunD K "fraction" "fraction" (defArgs sFraction) (defBody sFraction) (defScope sFraction) [.int 1] [] gq (PySem.W.fnOf "fraction" "fraction" (defArgs sFraction) (defBody sFraction) (defScope sFraction) (.ref TD) KVq Dcq Pmq Anq Cdq Ctq) :=
    ⟨⟨Ocq, Odq, .ref TD, KVq, Dcq, Pmq, Anq, Cdq, Ctq, Slq, rfl, Lq, Dq, .inr ⟨by simp, TD, _, [.int 1 tT], nT, rfl, lT, rfl, .cons ⟨tT, rfl⟩ .nil⟩, .inl rfl⟩, Eq⟩
  obtain ⟨ds1, hv1, bq1⟩ := fd_binds1 FQ
  have bq0 := fd_binds0 FQ
  refine ⟨PySem.W.fnOf "law" "law" (defArgs sLaw) (defBody sLaw) (defScope sLaw) .none KV25 Dc25 Pm25 An25 Cd25 Ct25, fun s v => .of_eq rfl, fun base _ _ => ?_⟩
  have SI : FnScope ["self", "value"] ["self", "value"] (defScope sInit) := ⟨rfl, rfl, rfl, by decide +kernel, rfl, by decide +kernel, by decide +kernel⟩
  have GJ : FnOk l.prog wd K mg base CX0 1 f0 _ ["self", "value"] (spI1 K "value") := ok_init1 F0 SI rfl rfl ⟨_, _, _, _, rfl⟩ (by decide +kernel) (by decide +kernel)
  have bI0 := F0.binds (ps := ["self", "value"]) fun _ _ _ _ _ _ us hl => match us, hl with | [_, _], _ => rfl
  have T : Kv l.prog wd K mg base "NoFraction" "value" C0 := ⟨PySem.W.mg_of X G aC0, v0, no0, ⟨f0, _, i0, t0, GJ, bI0⟩⟩
  have GM := ok_mixed (P := l.prog) (w := wd) (base := base) J0 yint
  have GP := ok_pile (P := l.prog) (w := wd) (base := base) J1 yint ylen yabs
  have GT := ok_take (P := l.prog) (w := wd) (base := base) J2 yint GM m0 E0 b0
  have GO := ok_oddD (K := K) (ok_odd (P := l.prog) (w := wd) (base := base) J3 GT m2 E2 b2)
  have GA := ok_alike (P := l.prog) (w := wd) (base := base) J4 yrepr
  have GII := ok_is_int (P := l.prog) (w := wd) (base := base) J5 yisinstance yint ybool
  have GIF := ok_is_fraction (P := l.prog) (w := wd) (base := base) J6 yisinstance ytuple ylen mgcd GII m5 E5 b5
  have GLo := ok_lowest (P := l.prog) (w := wd) (base := base) J7 mgcd
  have GQ := ok_fraction (P := l.prog) (w := wd) (base := base) FQ T GII m5 E5 b5 GLo m7 E7 b7
  have GCh := ok_check (P := l.prog) (w := wd) (base := base) J8 T GIF m6 E6 b6
  have GTo := ok_total (P := l.prog) (w := wd) (base := base) J9 GCh m8 E8 b8 GLo m7 E7 b7
  have GPr := ok_product (P := l.prog) (w := wd) (base := base) J10 GCh m8 E8 b8 GLo m7 E7 b7
  have GWh := ok_whole (P := l.prog) (w := wd) (base := base) J11 yisinstance yint ybool
  have GDi := ok_divisor (P := l.prog) (w := wd) (base := base) J12 yint yabs
  have GLL := ok_llow (P := l.prog) (w := wd) (base := base) J13 GDi m12 E12 b12
  have GPl := ok_plus (K := K) (P := l.prog) (w := wd) (base := base) J14 GLL m13 E13 b13
  have GTi := ok_times (K := K) (P := l.prog) (w := wd) (base := base) J15 GLL m13 E13 b13
  have GLF := ok_lfrac (P := l.prog) (w := wd) (base := base) J16 yisinstance ytuple ylen GWh m11 E11 b11 GDi m12 E12 b12
  have GFr := ok_fra (K := K) (P := l.prog) (w := wd) (base := base) J17 GT m2 E2 b2 GLL m13 E13 b13
  have GIn := ok_integer (K := K) (P := l.prog) (w := wd) (base := base) J18 GT m2 E2 b2
  have GWr := ok_wrong (K := K) (P := l.prog) (w := wd) (base := base) J19 GT m2 E2 b2
  have hA : ∀ n, n < 3 → FnR l.prog wd K mg base (_root_.L2.CX l.prog wd) 4 (fsOf gq g9 g10 n) (spAll K C0 n) ∧ PySem.W.keepIn K (.ref (fsOf gq g9 g10 n)) = true
    | 0, _ => ⟨all_fraction GQ bq1 hv1 bq0, Eq⟩
    | 1, _ => ⟨all_total GTo, E9⟩
    | 2, _ => ⟨all_product GPr, E10⟩
    | n + 3, h => absurd h (by omega)
  have GCa := ok_caught (P := l.prog) (w := wd) (base := base) J20 T te ylen hA mq m9 m10
  have GDu := ok_due (P := l.prog) (w := wd) (base := base) J21 yenumerate GWh m11 E11 b11 GLF m16 E16 b16 GLL m13 E13 b13 GPl m14 E14 b14 GTi m15 E15 b15
  have GHe := ok_held (P := l.prog) (wd := wd) (base := base) J22 GCa m20 E20 b20 GA m4 E4 b4 yisinstance ylist
  have GBa := ok_back (P := l.prog) (w := wd) (base := base) J23 GT m2 E2 b2 GQ mq Eq bq0 GTo m9 E9 GPr m10 E10 GLL m13 E13 b13 GPl m14 E14 b14 GTi m15 E15 b15
  have GNb := ok_nb (P := l.prog) (w := wd) (base := base) J24 GQ mq Eq bq0 bq1 hv1 GPr m10 E10 yrange
  exact ok_law (P := l.prog) (wd := wd) (base := base) J25 GP m1 E1 b1 GT m2 E2 b2 GIn m18 E18 b18 GO m3 E3 b3 GFr m17 E17 b17 GWr m19 E19 b19 GCa m20 E20 b20 GDu m21 E21 b21 GA m4 E4 b4 GHe m22 E22 b22 GBa m23 E23 b23 GNb m24 E24 b24 yrange ylen ylist
end Paw

open PySem PySem.W PyProof.Rows in
set_option maxRecDepth 100000 in
set_option maxHeartbeats 0 in
theorem PySem.Challenge.cw_pawlhall_k01_fractions_holds : PySem.Challenge.rw_pawlhall_k01_fractions.Holds := by
  w_on; o_law; k_head; (case hw => w_witness2)
  k_fill
  refine Paw.walkG (l := PySem.Challenge.rw_pawlhall_k01_fractions) (n := 63) (k := 7) (CX := fun _ => L2.CX0) (sp := Paw.spLaw) (x := "script") rfl (by decide) rfl ⟨rfl, by decide, by decide⟩ (by decide +kernel) (fun w h Y => PySem.W.kIn_of Y) ?F (fun K H a ns _ _ hS => ⟨a, ns, rfl, hS, fun _ => rfl⟩) (fun _ _ _ _ _ z => z)
  case F =>
    intro w mg fa h KX G hmg
    refine' Paw.all_mk KX G hmg ?cg ?ct ?aH ?aC0 ?x0 ?sa0 ?ga0 ?gg0 ?kC0 ?tC0 ?ca0 ?no0 ?i0 ?t0 ?l0 ?c0 ?k0 ?ic ?scC ?sb ?gcd ?Aq ?Lq ?Dq ?Eq ?lT ?A0 ?L0 ?D0 ?E0 ?A1 ?L1 ?D1 ?E1 ?A2 ?L2 ?D2 ?E2 ?A3 ?L3 ?D3 ?E3 ?A4 ?L4 ?D4 ?E4 ?A5 ?L5 ?D5 ?E5 ?A6 ?L6 ?D6 ?E6 ?A7 ?L7 ?D7 ?E7 ?A8 ?L8 ?D8 ?E8 ?A9 ?L9 ?D9 ?E9 ?A10 ?L10 ?D10 ?E10 ?A11 ?L11 ?D11 ?E11 ?A12 ?L12 ?D12 ?E12 ?A13 ?L13 ?D13 ?E13 ?A14 ?L14 ?D14 ?E14 ?A15 ?L15 ?D15 ?E15 ?A16 ?L16 ?D16 ?E16 ?A17 ?L17 ?D17 ?E17 ?A18 ?L18 ?D18 ?E18 ?A19 ?L19 ?D19 ?E19 ?A20 ?L20 ?D20 ?E20 ?A21 ?L21 ?D21 ?E21 ?A22 ?L22 ?D22 ?E22 ?A23 ?L23 ?D23 ?E23 ?A24 ?L24 ?D24 ?E24 ?A25 ?L25 ?D25 ?E25 ?zint ?zlen ?zabs ?zrepr ?zisinstance ?zenumerate ?zlist ?zrange ?zbool ?ztuple
    (case cg => k_is)
    (case ct => k_is)
    (case aH => k_is)
    (case aC0 => k_is)
    (case x0 => k_is)
    (case sa0 => k_is)
    (case ga0 => k_is)
    (case gg0 => k_is)
    (case kC0 => k_is)
    (case tC0 => k_is)
    (case ca0 => k_is)
    (case no0 => k_is)
    (case i0 => k_is)
    (case t0 => k_is)
    (case l0 => k_is)
    (case c0 => k_is)
    (case k0 => k_is)
    (case ic => k_is)
    (case scC => k_is)
    (case sb => k_is)
    (case gcd => k_is)
    (case Aq => k_is)
    (case Lq => k_is)
    (case Dq => k_is)
    (case Eq => k_is)
    (case lT => k_is)
    (case A0 => k_is)
    (case L0 => k_is)
    (case D0 => k_is)
    (case E0 => k_is)
    (case A1 => k_is)
    (case L1 => k_is)
    (case D1 => k_is)
    (case E1 => k_is)
    (case A2 => k_is)
    (case L2 => k_is)
    (case D2 => k_is)
    (case E2 => k_is)
    (case A3 => k_is)
    (case L3 => k_is)
    (case D3 => k_is)
    (case E3 => k_is)
    (case A4 => k_is)
    (case L4 => k_is)
    (case D4 => k_is)
    (case E4 => k_is)
    (case A5 => k_is)
    (case L5 => k_is)
    (case D5 => k_is)
    (case E5 => k_is)
    (case A6 => k_is)
    (case L6 => k_is)
    (case D6 => k_is)
    (case E6 => k_is)
    (case A7 => k_is)
    (case L7 => k_is)
    (case D7 => k_is)
    (case E7 => k_is)
    (case A8 => k_is)
    (case L8 => k_is)
    (case D8 => k_is)
    (case E8 => k_is)
    (case A9 => k_is)
    (case L9 => k_is)
    (case D9 => k_is)
    (case E9 => k_is)
    (case A10 => k_is)
    (case L10 => k_is)
    (case D10 => k_is)
    (case E10 => k_is)
    (case A11 => k_is)
    (case L11 => k_is)
    (case D11 => k_is)
    (case E11 => k_is)
    (case A12 => k_is)
    (case L12 => k_is)
    (case D12 => k_is)
    (case E12 => k_is)
    (case A13 => k_is)
    (case L13 => k_is)
    (case D13 => k_is)
    (case E13 => k_is)
    (case A14 => k_is)
    (case L14 => k_is)
    (case D14 => k_is)
    (case E14 => k_is)
    (case A15 => k_is)
    (case L15 => k_is)
    (case D15 => k_is)
    (case E15 => k_is)
    (case A16 => k_is)
    (case L16 => k_is)
    (case D16 => k_is)
    (case E16 => k_is)
    (case A17 => k_is)
    (case L17 => k_is)
    (case D17 => k_is)
    (case E17 => k_is)
    (case A18 => k_is)
    (case L18 => k_is)
    (case D18 => k_is)
    (case E18 => k_is)
    (case A19 => k_is)
    (case L19 => k_is)
    (case D19 => k_is)
    (case E19 => k_is)
    (case A20 => k_is)
    (case L20 => k_is)
    (case D20 => k_is)
    (case E20 => k_is)
    (case A21 => k_is)
    (case L21 => k_is)
    (case D21 => k_is)
    (case E21 => k_is)
    (case A22 => k_is)
    (case L22 => k_is)
    (case D22 => k_is)
    (case E22 => k_is)
    (case A23 => k_is)
    (case L23 => k_is)
    (case D23 => k_is)
    (case E23 => k_is)
    (case A24 => k_is)
    (case L24 => k_is)
    (case D24 => k_is)
    (case E24 => k_is)
    (case A25 => k_is)
    (case L25 => k_is)
    (case D25 => k_is)
    (case E25 => k_is)
    (case zint => k_is)
    (case zlen => k_is)
    (case zabs => k_is)
    (case zrepr => k_is)
    (case zisinstance => k_is)
    (case zenumerate => k_is)
    (case zlist => k_is)
    (case zrange => k_is)
    (case zbool => k_is)
    (case ztuple => k_is)

import PyProof.Rows.All
import Wide.All
import OpenK.AllK
import Wide.FinOn
import HandS.ForMost
import HandS.ForExc
import HandS.ExcInit
import HandS.ExcValue
import HandS.ExcIs
import HandS.IsInst
import HandS.Wide
import HandS.Defaults
import HandS.MakeKw
import KE.KExcIs
import HandS.Walk
import PySem.Challenge.RW_pawlhall_k92_errors_made
set_option Elab.async false
set_option linter.all false
set_option maxRecDepth 100000
set_option maxHeartbeats 2000000
namespace Paw
open PySem PySem.Spec PyProof.Rows L2

/-! ### defs that want to know that no repr is under way around them -/
/-- the table of modules is where it was booted, and nobody tracks it -/
def Sys (h : Heap) (H : Hp) : Prop := H sysModules = none ∧ ∃ (o : Obj) (es : Array DictEntry) (ep : Nat), h.get? sysModules = some o ∧ o.data = .dict es ep
structure FnG (P : Program) (w : World) (K : PySem.W.Frag) (mg : Str → Option Value) (base : Heap) (CX : CXT) (k : Nat) (f : Addr) (fd : FuncData) (ps : List Str) (sp : Sp) : Prop where
  arity : ∀ vs H Q E, sp vs H Q E → vs.length = ps.length
  goes : ∀ (A : Around), A.guards = some [] → ∀ (outer : List Env) (s : Shared) (H : Hp) (args : Args) (us : List Value) (vs : List V) (Q : VK) (E : XK),
    Sys s.heap H → Room k A → Env0 P w K mg base A outer s H → BindsTo s fd args (ps.zip us) → Vals vs us → sp vs H Q E →
      codeAny (model P w) A (.call (.ref f) args) (CR CX outer P w H s Q E) s

section
variable {P : Program} {w : World} {K : PySem.W.Frag} {mg : Str → Option Value} {base : Heap} {CX : CXT} {k j : Nat} {f : Addr} {fd : FuncData} {ps : List Str} {sp : Sp}
theorem FnG.of (F : FnOk P w K mg base CX k f fd ps sp) : FnG P w K mg base CX k f fd ps sp := ⟨F.len, fun A _ o s H args us vs Q E _ => F.run A o s H args us vs Q E⟩
theorem FnG.up (F : FnG P w K mg base CX j f fd ps sp) (h : j ≤ k) : FnG P w K mg base CX k f fd ps sp :=
  ⟨F.arity, fun A g o s H args us vs Q E hS hr => F.goes A g o s H args us vs Q E hS (hr.mono h)⟩
end

theorem fnG_of {CX : CXT} {P : Program} {w : World} {K : PySem.W.Frag} {mg : Str → Option Value} {base : Heap} {k : Nat} {f : Addr} {name qual : Str} {params : Arguments} {body : List Stmt} {scope : Scope}
    {dV kV doc pm cdv ct oc : Value} {an od : Option Addr} {osl : Array (Option Value)} {N ps : List Str} {sp : Sp}
    (here : K.lookup f = some ⟨oc, od, .func (PySem.W.fnOf name qual params body scope dV kV doc pm an cdv ct), osl⟩) (code : PySem.W.codeIn K cdv qual = true) (S : FnScope N ps scope)
    (arity : ∀ vs H Q E, sp vs H Q E → vs.length = ps.length)
    (inner : ∀ (A : Around), A.guards = some [] → ∀ (outer : List Env) (s : Shared) (H : Hp) (vs : List V) (Q : VK) (E : XK), Sys s.heap H → Room k (A.deeper (envOfC qual scope s.heap.objs.size f cdv)) → sp vs H Q E →
      ∃ t, PSs (cxOf CX P w K mg base N qual scope f cdv A outer s H E) body t ∧ t { nx := fun _ H' => Q .non H', rt := Q } (start N vs) H) :
    FnG P w K mg base CX (k + 1) f (PySem.W.fnOf name qual params body scope dV kV doc pm an cdv ct) ps sp := by
  constructor
  · exact arity
  intro A hG outer s H args us vs Q E hS room e0 bound rel want
  have KIn : K.In s.heap := e0.mod.kin.keeps fun b o e => (e0.bs b o e).1
  have free : s.heap.NoLimit := e0.mod.nolimit.keeps fun b o e => (e0.bs b o e).1
  have places : ∀ y ∈ ps.zip us, scope.names.lookup y.1 = some .local ∨ (scope.names.lookup y.1 = some .cell ∧ ((cellsFrom (s.heap.objs.size + 1) scope.names []).lookup y.1).isSome = true) := by
    rintro ⟨n, v⟩ hy
    have hn := (List.of_mem_zip hy).1
    rcases S.par n hn with q | q
    · exact Or.inl q
    · exact Or.inr ⟨q, PySem.W.cellsFrom_some _ _ _ (Or.inl q)⟩
  apply codeAny_call_function room.depth (KIn _ _ here) rfl S.co S.gen rfl (PySem.W.codeRec_of KIn code) (bound _ _ _ _ _)
  apply wpAny_newFunctionEnv_cells S.kind places
  intro env he s1 x
  cases he
  refine ⟨free.keeps x.toInCall.keep, codeAny_func ?_⟩
  have ⟨t, ht, hq⟩ := inner A hG outer s H vs Q E hS (room.deeper _) want
  have I := inv_start (CX := CX) (E := E) S room.hd e0 (arity _ _ _ _ want) rel x
  apply wpAny_mono (ht.run [] s1 (start N vs) H _ I hq)
  · intro fl s' hs
    cases fl with
    | ret u =>
      have ⟨v, σ', H', J, rv, q⟩ := hs
      exact ⟨v, H', J.os, J.bare, J.base, J.hok, rv, q⟩
    | next =>
      have ⟨σ', H', J, q⟩ := hs
      exact ⟨V.non, H', J.os, J.bare, J.base, J.hok, rfl, q⟩
    | brk => exact hs.elim fun _ ⟨_, _, q⟩ => q.elim
    | cont => exact hs.elim fun _ ⟨_, _, q⟩ => q.elim
  · exact fun e s' hs => hs
section
variable {P : Program} {w : World} {K : PySem.W.Frag} {mg : Str → Option Value} {base : Heap}
/-- a def of the text that may look at repr -/
theorem funG {CX : CXT} {x qual : Str} {st : Stmt} {f : Addr} {fd : FuncData} {N ps : List Str} {k : Nat} {sp : Sp} (F : Fun K x qual st f fd) (S : FnScope N ps (defScope st)) (arity : ∀ vs H Q E, sp vs H Q E → vs.length = ps.length)
    (body : ∀ (cdv : Value) (A : Around), A.guards = some [] → ∀ (outer : List Env) (s : Shared) (H : Hp) (vs : List V) (Q : VK) (E : XK), Sys s.heap H → Room k (A.deeper (envOfC qual (defScope st) s.heap.objs.size f cdv)) → sp vs H Q E →
      ∃ t, PSs (cxOf CX P w K mg base N qual (defScope st) f cdv A outer s H E) (defBody st) t ∧ t { nx := fun _ H' => Q .non H', rt := Q } (start N vs) H) : FnG P w K mg base CX (k + 1) f fd ps sp := by
  have ⟨oc, od, kV, doc, pm, an, cdv, ct, osl, e, here, code⟩ := F.ex
  cases e
  exact fnG_of here code S arity (body cdv)
/-- .. out of which nothing is raised -/
theorem funG0 {x qual : Str} {st : Stmt} {f : Addr} {fd : FuncData} {N ps : List Str} {k : Nat} {sp : Sp} (F : Fun K x qual st f fd) (S : FnScope N ps (defScope st)) (arity : ∀ vs H Q E, sp vs H Q E → vs.length = ps.length)
    (body : ∀ (cdv : Value) (A : Around), A.guards = some [] → ∀ (outer : List Env) (s : Shared) (H : Hp) (vs : List V) (Q : VK) (E : XK), Sys s.heap H → Room k (A.deeper (envOfC qual (defScope st) s.heap.objs.size f cdv)) → sp vs H Q E →
      ∃ t, PSs (cxOf CX0 P w K mg base N qual (defScope st) f cdv A outer s H E).nox (defBody st) t ∧ t { nx := fun _ H' => Q .non H', rt := Q } (start N vs) H) : FnG P w K mg base CX0 (k + 1) f fd ps sp := by
  refine funG F S arity fun cdv A hG outer s H vs Q E hS room want => ?_
  obtain ⟨t, h, q⟩ := body cdv A hG outer s H vs Q E hS room want
  exact ⟨t, h.nox, q⟩
end
section
variable {X : Cx} {pins : List (Addr × Obj)} {σ : L2.St} {H : Hp} {s : Shared}
theorem sys_inv (I : Inv X pins σ H s) (S : Sys X.s_0.heap X.H_0) (hx : X.ex = []) : Sys s.heap H := by
  obtain ⟨h1, o, es, ep, h2, h3⟩ := S
  have nx : sysModules ∉ X.ex := by rw [hx]; exact List.not_mem_nil
  obtain ⟨sl, h4⟩ := I.base.any h2 h1 nx
  exact ⟨I.base.free _ o h2 h1 nx, _, es, ep, h4, h3⟩
/-- what a def that looks at repr must find around it -/
structure Gd (X : Cx) : Prop where
  g : X.A.guards = some []
  s : Sys X.s_0.heap X.H_0
  x : X.ex = []
variable {CX : CXT} {k : Nat} {f : Addr} {fd : FuncData} {ps : List Str} {sp : Sp} {dvs : List V} {ds : List Value} {E : XK} {x : Str} {p pos : Pos} {e : Expr} {es : List Expr} {t : TA}
theorem callee_goes {Q : VK} {us : List Value} {vs : List V} (F : FnG X.prog X.w X.K X.mg X.base CX k f fd ps sp) (g : Gd X) (hr : Room k X.A) (hb : Binds X.K fd ps ds) (hd : Vals dvs ds) (hx : Passes CX X E)
    (I : Inv X pins σ H s) (r : Vals vs us) (h : sp (vs ++ dvs) H Q E) : wpAny (model X.prog X.w) X.A (call (.ref f) us) (EP X pins σ Q) X.xe s := by
  have rel : Vals (vs ++ dvs) (us ++ ds) := r.append hd
  have many : (us ++ ds).length = ps.length := rel.length.symm.trans (F.arity _ _ _ _ h)
  apply wpAny_call
  apply codeAny_mono (F.goes X.A g.g X.stack s H ⟨us, []⟩ (us ++ ds) (vs ++ dvs) Q E (sys_inv I g.s g.x) hr I.env0 (hb s us I.kIn many) rel h)
  intro r s' q
  match r, q with
  | .error e, q => exact hx pins σ H s e s' I q
  | .ok (.ret u), q => exact I.after q
/-- f(e, ..), f a def that looks at repr -/
theorem pe_callG (F : FnG X.prog X.w X.K X.mg X.base CX k f fd ps sp) (g : Gd X) (hr : Room k X.A) (hg : Gl X x) (hm : X.mg x = some (.ref f)) (hk : PySem.W.keepIn X.K (.ref f) = true) (hb : Binds X.K fd ps ds) (hd : Vals dvs ds) (hx : Passes CX X E)
    (ha : PA X (e :: es) t) (hdb : (x == ("__debug__" : Str)) = false := by decide) (he : starEach (e :: es) X.env = (false, eval e X.env) :: starEach es X.env := by rfl) (hpl : (backTo pos (starEach es X.env)).any (·.1) = false := by rfl) :
    PE X (.Call (.Name x p) (e :: es) [] pos) (tCall sp dvs E t) := by
  constructor
  intro pins s σ H Q I h
  apply wpAny_Call_Name_kw
  apply ld_glob I hg hm _ hdb
  apply PySem.W.callWith_K (h₀ := X.base) I.ok.mod.kin hk _ he hpl
  apply thn (ha.run pos pins s σ H _ I h)
  rintro us s1 ⟨vs, H1, I1, r, q⟩
  exact ⟨I1.kIn, callee_goes F g hr hb hd hx I1 r q⟩
/-- f(), f a def that looks at repr -/
theorem pe_callG0 (F : FnG X.prog X.w X.K X.mg X.base CX k f fd ps sp) (g : Gd X) (hr : Room k X.A) (hg : Gl X x) (hm : X.mg x = some (.ref f)) (hk : PySem.W.keepIn X.K (.ref f) = true) (hb : Binds X.K fd ps ds) (hd : Vals dvs ds) (hx : Passes CX X E)
    (hdb : (x == ("__debug__" : Str)) = false := by decide) : PE X (.Call (.Name x p) [] [] pos) (tCall sp dvs E tNil) := by
  constructor
  intro pins s σ H Q I h
  apply wpAny_Call_Name_kw
  apply ld_glob I hg hm _ hdb
  exact PySem.W.callWith_K0 I.kIn hk (callee_goes (us := []) F g hr hb hd hx I .nil h)
end
end Paw

set_option maxRecDepth 100000
set_option maxHeartbeats 2000000
namespace Paw
open PySem PySem.Spec PyProof.Rows L2

/-! ### data on the heap, dicts too, and its repr -/
def dKey : Key → PyData
  | .inl i => .int i
  | .inr x => .str x
mutual
inductive RD (K : PySem.W.Frag) (H : Hp) : V → PyData → Prop
  | non : RD K H .non .none
  | bl (b : Bool) : RD K H (.bl b) (.bool b)
  | int (i : Int) : RD K H (.int i) (.int i)
  | str (x : Str) : RD K H (.str x) (.str x)
  | lst {a : Addr} {xs : List V} {ds : List PyData} (h : SqL K H a xs) (hs : RDs K H xs ds) : RD K H (.ref a) (.list ds)
  | tup {a : Addr} {xs : List V} {ds : List PyData} (h : SqT K H a xs) (hs : RDs K H xs ds) : RD K H (.ref a) (.tuple ds)
  | dic {a : Addr} {kvs : List (Key × V)} {ds : List (PyData × PyData)} (h : H a = some (.dK kvs)) (hs : RDk K H kvs ds) : RD K H (.ref a) (.dict ds)
inductive RDs (K : PySem.W.Frag) (H : Hp) : List V → List PyData → Prop
  | nil : RDs K H [] []
  | cons {v : V} {vs : List V} {d : PyData} {ds : List PyData} (h : RD K H v d) (hs : RDs K H vs ds) : RDs K H (v :: vs) (d :: ds)
inductive RDk (K : PySem.W.Frag) (H : Hp) : List (Key × V) → List (PyData × PyData) → Prop
  | nil : RDk K H [] []
  | cons {k : Key} {v : V} {vs : List (Key × V)} {d : PyData} {ds : List (PyData × PyData)} (h : RD K H v d) (hs : RDk K H vs ds) : RDk K H ((k, v) :: vs) ((dKey k, d) :: ds)
end
section
variable {X : Cx} {pins : List (Addr × Obj)} {σ : L2.St} {H : Hp} {s : Shared}
theorem key_reads {h : Heap} {P : Program} {w : World} {k : Key} {v : Value} (e : (mixKind P w).is k v = true) : Reads h v (dKey k) [] := by
  rcases keyIs_shape (show keyIs k v = true from e) with ⟨i, t, rfl, rfl⟩ | ⟨x, t, rfl, rfl⟩
  · exact Reads.int i t
  · exact Reads.str x t
theorem app_no {as bs : List Addr} {a : Addr} (h1 : a ∉ as) (h2 : a ∉ bs) : a ∉ as ++ bs := fun z => (List.mem_append.mp z).elim h1 h2
theorem cons_no {bs : List Addr} {a b : Addr} (h1 : a ≠ b) (h2 : a ∉ bs) : a ∉ b :: bs := fun z => (List.mem_cons.mp z).elim h1 h2
mutual
theorem RD.reads (I : Inv X pins σ H s) (S : Sys s.heap H) : ∀ (d : PyData) (v : V) (u : Value), RD X.K H v d → RelV v u → ∃ as, Reads s.heap u d as ∧ sysModules ∉ as
  | .none, _, _, h, r => by
    cases h
    cases r
    exact ⟨[], Reads.none, List.not_mem_nil⟩
  | .bool b, _, _, h, r => by
    cases h
    cases r
    exact ⟨[], Reads.bool b, List.not_mem_nil⟩
  | .int i, _, _, h, r => by
    cases h
    obtain ⟨t, rfl⟩ := r
    exact ⟨[], Reads.int i t, List.not_mem_nil⟩
  | .str x, _, _, h, r => by
    cases h
    obtain ⟨t, rfl⟩ := r
    exact ⟨[], Reads.str x t, List.not_mem_nil⟩
  | .list ds, _, _, h, r => by
    cases h with
    | @lst a xs _ hs ha =>
      cases r
      obtain ⟨its, rv, ⟨o, n, ho, hc, _, hd⟩, _⟩ := I.list hs
      obtain ⟨as, hr, hn⟩ := RDs.reads I S ds _ its ha rv
      refine ⟨_, Reads.list ho hc hd hr, cons_no (fun z => ?_) hn⟩
      obtain ⟨_, o', es, ep, e1, e2⟩ := S
      rw [z, ho] at e1
      have e3 := Option.some.inj e1
      rw [← e3, hd] at e2
      cases e2
  | .tuple ds, _, _, h, r => by
    cases h with
    | tup hs ha =>
      cases r
      obtain ⟨its, rv, ⟨o, ho, hc, n, hd⟩, _⟩ := I.tuple hs
      obtain ⟨as, hr, hn⟩ := RDs.reads I S ds _ its ha rv
      exact ⟨_, Reads.tuple ho hc hd hr, hn⟩
  | .dict ds, _, _, h, r => by
    cases h with
    | @dic a kvs _ hs ha =>
      cases r
      obtain ⟨_, hz, vs, rel, o, es, ep, ho, hx, hd, _, hp, _⟩ := dk_of I.hok hs
      obtain ⟨bs, h1, h2, hn⟩ := RDk.reads I S ds kvs vs es.toList ha rel hp
      exact ⟨_, Reads.dict ho hx.1 hd h1 h2, app_no (cons_no (fun z => by rw [z] at hz; exact absurd hz (by simp)) List.not_mem_nil) hn⟩
theorem RDs.reads (I : Inv X pins σ H s) (S : Sys s.heap H) : ∀ (ds : List PyData) (vs : List V) (us : List Value), RDs X.K H vs ds → Vals vs us → ∃ as, ReadsAll s.heap us ds as ∧ sysModules ∉ as
  | [], _, _, h, r => by
    cases h
    cases r
    exact ⟨[], ReadsAll.nil, List.not_mem_nil⟩
  | d :: ds, _, _, h, r => by
    cases h with
    | cons h1 h2 =>
      cases r with
      | cons r1 r2 =>
        obtain ⟨as, q1, n1⟩ := RD.reads I S d _ _ h1 r1
        obtain ⟨bs, q2, n2⟩ := RDs.reads I S ds _ _ h2 r2
        exact ⟨_, ReadsAll.cons q1 q2, app_no n1 n2⟩
theorem RDk.reads (I : Inv X pins σ H s) (S : Sys s.heap H) : ∀ (ds : List (PyData × PyData)) (kvs : List (Key × V)) (vs : List (Key × Value)) (es : List DictEntry), RDk X.K H kvs ds → KV kvs vs → Pairs (mixKind X.prog X.w) es vs →
    ∃ bs, ReadsAll s.heap (es.map (·.key)) (ds.map (·.1)) [] ∧ ReadsAll s.heap (es.map (·.val)) (ds.map (·.2)) bs ∧ sysModules ∉ bs
  | [], _, _, _, h, r, p => by
    cases h
    cases r
    cases p
    exact ⟨[], ReadsAll.nil, ReadsAll.nil, List.not_mem_nil⟩
  | (kd, d) :: ds, _, _, _, h, r, p => by
    cases h with
    | cons h1 h2 =>
      cases r with
      | @cons _ q _ _ r1 r2 =>
        cases p with
        | @cons e _ es _ p1 p2 p3 =>
          obtain ⟨k1, r1⟩ := r1
          obtain ⟨as, q1, n1⟩ := RD.reads I S d _ e.val h1 (by rw [p2]; exact r1)
          obtain ⟨bs, q2, q3, n2⟩ := RDk.reads I S ds _ _ es h2 r2 p3
          have kr : Reads s.heap e.key (dKey q.1) [] := key_reads p1
          refine ⟨as ++ bs, ?_, ReadsAll.cons q1 q3, app_no n1 n2⟩
          have z := ReadsAll.cons kr q2
          rw [← k1] at z
          exact z
end
end
def rReprD (K : PySem.W.Frag) : List V → Hp → VK → Prop := fun xs H Q => ∃ (x : V) (d : PyData), xs = [x] ∧ RD K H x d ∧ d.showable = true ∧ d.shown.length ≤ sizeLine ∧ d.depth ≤ 50 ∧ Q (.str d.shown) H
theorem call_reprD {X : Cx} {k : Nat} (g : Gd X) (hr : Room k X.A) : CallR X (.builtin "repr") (rReprD X.K) := by
  intro pins s σ H xs us Q I r h
  obtain ⟨x, d, rfl, hd, sh, sz, dp, q⟩ := h
  obtain ⟨u, rfl, ru⟩ := vals1 r
  have S := sys_inv I g.s g.x
  obtain ⟨as, rd, hn⟩ := RD.reads I S d x u hd ru
  have hu : X.A.units + (d.depth + 1) < cLine := by have := hr.units; omega
  cases rd with
  | none => exact P.repr_of_none ⟨.str _, H, I.tok _, ⟨_, rfl⟩, q⟩
  | bool b => exact P.repr_of_bool ⟨.str _, H, I.tok _, ⟨_, rfl⟩, q⟩
  | int i t => exact P.repr_of_int (by simpa [PyData.showable] using sh) ⟨.str _, H, I.tok _, ⟨_, rfl⟩, q⟩
  | str y t => exact P.repr_of_str ⟨.str _, H, I.tok _, ⟨_, rfl⟩, q⟩ sz
  | list e1 e2 e3 e4 => exact repr_of_reads' (Reads.list e1 e2 e3 e4) sh (fun _ => hn) g.g hu (fun _ _ e => e) (fun h' u tk hk => ⟨.str _, H, I.kept (t' := tk) hk, ⟨u, rfl⟩, q⟩) sz
  | tuple e1 e2 e3 e4 => exact repr_of_reads' (Reads.tuple e1 e2 e3 e4) sh (fun _ => hn) g.g hu (fun _ _ e => e) (fun h' u tk hk => ⟨.str _, H, I.kept (t' := tk) hk, ⟨u, rfl⟩, q⟩) sz
  | dict e1 e2 e3 e4 e5 => exact repr_of_reads' (Reads.dict e1 e2 e3 e4 e5) sh (fun _ => hn) g.g hu (fun _ _ e => e) (fun h' u tk hk => ⟨.str _, H, I.kept (t' := tk) hk, ⟨u, rfl⟩, q⟩) sz
end Paw

set_option maxRecDepth 100000
set_option maxHeartbeats 2000000
namespace Paw
open PySem PySem.Spec PyProof.Rows L2

/-! ### a law's end, from the promise of a def that may look at repr -/
def GoesWell (s1 : Shared) (r : Result) (s' : Shared) : Prop := r = .ok (.ret (.bool true)) ∧ OldK s1.heap s'.heap ∧ s'.os = s1.os ∧ AllBare s'.gens
/-- the call of the law from an abstract heap in which at most the script stands -/
theorem law_coreG {P : Program} {w : World} {K : PySem.W.Frag} {mg mb : Str → Option Value} {CX : CXT} {k : Nat} {fa a : Addr} {fd : FuncData} {x : Str} {sp : Sp} {s1 : Shared} {oa : Obj} {H : Hp}
    (KIn : K.In s1.heap) (nsG : s1.heap.Ns mainGlobals mg) (nsB : s1.heap.Ns builtinsNs mb) (boot : ∀ x : Str, x ≠ "__name__" → mb x = bootBuiltins x) (lim : s1.heap.NoLimit) (mods : ∃ mm, s1.heap.Ns sysModules mm) (gens : s1.gens = #[])
    (ha : s1.heap.get? a = some oa) (hna : ∀ es ep, oa.data ≠ .dict es ep) (room : Room k callerA)
    (F : ∀ base : Heap, K.In base → base.Ns mainGlobals mg → FnG P w K mg base CX k fa fd [x] sp) (bind : ∀ (s : Shared) (u : Value), BindsTo s fd ⟨[u], []⟩ [(x, u)])
    (only : Only H) (alone : ∀ b, H b ≠ none → b = a) (apart : H a ≠ none → K.lookup a = none) (ok : HOk P w H s1.heap)
    (want : sp [.ref a] H (fun v _ => v = .bl true) fun _ _ _ => False) (calm : ∀ e s', CX [] H s1 (fun _ _ _ => False) e s' → False) :
    codeAny (model P w) callerA (.call (.ref fa) ⟨[.ref a], []⟩) (GoesWell s1) s1 := by
  have free_of : ∀ {b : Addr} {o : Obj} {es : Array DictEntry} {ep : Nat}, s1.heap.get? b = some o → o.data = .dict es ep → H b = none := by
    intro b o es ep e d
    cases q : H b with
    | none => rfl
    | some u =>
      have eb := alone b (by rw [q]; exact Option.some_ne_none u)
      rw [eb, ha] at e
      cases e
      exact absurd d (hna es ep)
  have hid : ∀ {b : Addr} {m : Str → Option Value}, s1.heap.Ns b m → (hidT s1.heap H).Ns b m := by
    rintro b m ⟨o, es, ep, e, d, rest⟩
    exact ⟨o, es, ep, hidT_get e (free_of e d), d, rest⟩
  have KBase : K.In (hidT s1.heap H) := by
    intro b o e
    refine hidT_get (KIn b o e) ?_
    cases q : H b with
    | none => rfl
    | some u =>
      have nn : H b ≠ none := by rw [q]; exact Option.some_ne_none u
      have eb := alone b nn
      rw [eb] at nn e
      rw [apart nn] at e
      cases e
  have M : Mod K mg (hidT s1.heap H) := by
    refine ⟨KBase, hid nsG, ⟨mb, hid nsB, boot⟩, ?_⟩
    obtain ⟨mc, q1, q2⟩ := lim
    exact ⟨mc, hid q1, q2⟩
  have e0 : Env0 P w K mg (hidT s1.heap H) callerA [] s1 H := by
    refine ⟨rfl, M, fun b o e => of_hidT e, Nat.le_of_eq (hidT_size _ _), trivial, fun b hb => ?_, ok, .of_eq gens⟩
    exact absurd (show b ∈ ([] : List Addr) from hb) List.not_mem_nil
  have S : Sys s1.heap H := by
    obtain ⟨mm, o, es, ep, e, d, _⟩ := mods
    exact ⟨free_of e d, o, es, ep, e, d⟩
  apply codeAny_mono ((F _ KBase (hid nsG)).goes callerA rfl [] s1 H ⟨[.ref a], []⟩ [.ref a] [.ref a] _ _ S room e0 (bind s1 (.ref a)) (.cons rfl .nil) want)
  intro r s' h
  match r, h with
  | .error e, h => exact (calm e s' h).elim
  | .ok (.ret u), ⟨v, H', os, bare, un, ok', rel, q⟩ =>
    cases (show v = .bl true from q)
    cases (show u = Value.bool true from rel)
    refine ⟨rfl, OldK.of_keep fun b o e => ?_, os, bare⟩
    cases q2 : H b with
    | none => exact un.keep b o e q2 List.not_mem_nil List.not_mem_nil
    | some u =>
      rcases only b with z | ⟨ob, xs, z⟩
      · rw [q2] at z
        cases z
      · have z1 := (ok b _ z).1
        have z2 := (ok' b _ (un.frzs b ob _ z)).1
        rw [e] at z1
        cases z1
        exact z2
theorem law_callG {P : Program} {w : World} {K : PySem.W.Frag} {mg mb : Str → Option Value} {CX : CXT} {k : Nat} {fa a : Addr} {fd : FuncData} {x : Str} {sp : Sp} {s1 : Shared} {vs : List Value} {ns : List Int}
    (KIn : K.In s1.heap) (nsG : s1.heap.Ns mainGlobals mg) (nsB : s1.heap.Ns builtinsNs mb) (boot : ∀ x : Str, x ≠ "__name__" → mb x = bootBuiltins x) (lim : s1.heap.NoLimit) (mods : ∃ mm, s1.heap.Ns sysModules mm) (gens : s1.gens = #[])
    (ha : s1.heap.get? a = some { cls := .type "list", data := .seq vs.toArray }) (isInts : IntsAre vs ns) (short : ns.length ≤ sizeLine) (room : Room k callerA)
    (F : ∀ base : Heap, K.In base → base.Ns mainGlobals mg → FnG P w K mg base CX k fa fd [x] sp) (bind : ∀ (s : Shared) (u : Value), BindsTo s fd ⟨[u], []⟩ [(x, u)])
    (want : ∀ H : Hp, Only H → SqL K H a (ns.map V.int) → sp [.ref a] H (fun v _ => v = .bl true) fun _ _ _ => False) (calm : ∀ H e s', CX [] H s1 (fun _ _ _ => False) e s' → False) :
    codeAny (model P w) callerA (.call (.ref fa) ⟨[.ref a], []⟩) (GoesWell s1) s1 := by
  have rel := vals_ints isInts
  have hna : ∀ es ep, (Data.seq vs.toArray 0 : Data) ≠ .dict es ep := fun es ep q => by cases q
  cases here : K.lookup a with
  | some o =>
    have e := KIn a o here
    rw [ha] at e
    cases e
    have sq : SqL K (fun _ => none) a (ns.map V.int) := by
      refine Or.inr ⟨_, vs.toArray, _, here, rfl, rfl, rfl, ?_, ?_⟩
      · rw [List.size_toArray, isInts.length]
        exact short
      · rw [List.toList_toArray]
        exact rel
    exact law_coreG KIn nsG nsB boot lim mods gens ha hna room F bind (fun _ => Or.inl rfl) (fun b z => absurd rfl z) (fun z => absurd rfl z) (fun b u z => by cases z) (want _ (fun _ => Or.inl rfl) sq) (calm _)
  | none =>
    let o : HO := .frz { cls := .type "list", data := .seq vs.toArray } (.lst (ns.map V.int))
    have at_a : (upd (fun _ => none) a o) a = some o := upd_same
    have off : ∀ {b : Addr}, b ≠ a → (upd (fun _ => none) a o) b = none := fun {b} h => upd_ne h
    have only : Only (upd (fun _ => none) a o) := by
      intro b
      by_cases h : b = a
      · rw [h]
        exact Or.inr ⟨_, _, at_a⟩
      · exact Or.inl (off h)
    refine law_coreG KIn nsG nsB boot lim mods gens ha hna room F bind only (fun b z => ?_) (fun _ => here) (fun b u z => ?_) (want _ only (Or.inl (Or.inr ⟨_, at_a⟩))) (calm _)
    · by_cases h : b = a
      · exact h
      · exact absurd (off h) z
    · by_cases h : b = a
      · rw [h] at z ⊢
        rw [at_a] at z
        cases z
        refine ⟨ha, ?_, vs, _, rel, ha⟩
        rw [List.length_map]
        exact short
      · rw [off h] at z
        cases z
theorem walkG {l : PySem.W.OpenLaw} {n k : Nat} {q : Program} {loose : List Str} {XP : (Str → Option Value) → Heap → Prop} {YP : World → Heap → Prop} {d : DefRec} {K : Params → PySem.W.Frag} {CX : World → CXT} {sp : PySem.W.Frag → Sp} {x : Str}
    (hn : l.most = some n) (hn2 : n ≤ sizeLine) (hdf : d.params.defaults = []) (hr : Room k callerA) (him : importsNone q = true)
    (hY : ∀ (w : World) (h : Heap), YP w h → (K w.params).In h)
    (F : ∀ (w : World) (mg : Str → Option Value) (fa : Addr) (h : Heap), (K w.params).In h → h.Ns mainGlobals mg → mg d.name = some (.ref fa) →
      ∃ fd : FuncData, (∀ (s : Shared) (u : Value), BindsTo s fd ⟨[u], []⟩ [(x, u)]) ∧
        ∀ base : Heap, (K w.params).In base → base.Ns mainGlobals mg → FnG l.prog w (K w.params) mg base (CX w) k fa fd [x] (sp (K w.params)))
    (want : ∀ (K : PySem.W.Frag) (H : Hp) (a : Addr) (ns : List Int), ns.length ≤ n → Only H → SqL K H a (ns.map V.int) → sp K [.ref a] H (fun v _ => v = .bl true) fun _ _ _ => False)
    (calm : ∀ (w : World) (H : Hp) (s : Shared) (e : Value) (s' : Shared), CX w [] H s (fun _ _ _ => False) e s' → False) :
    PySem.W.WalkO q loose XP YP l.row.toRowW d [] (fun f vs => PySem.call f vs) := by
  apply Att.attach_call hn hdf
  intro w s0 s1 mg mb fa o pm cd doc a vs ns G Y ho hd hcd hmg hobj hints hlen hg
  obtain ⟨fd, hb, hF⟩ := F w mg fa _ (hY w _ Y) G.T.g hmg
  exact law_callG (hY w _ Y) G.T.g G.T.b G.T.builtins G.T.nolimit (let ⟨mm, z, _⟩ := (G.T.seer him).mods; ⟨mm, z⟩) hg hobj hints (Nat.le_trans hlen hn2) hr hF hb (fun H hO hS => want _ H a ns hlen hO hS) fun H e s' => calm w H s1 e s'
end Paw

set_option maxRecDepth 100000
set_option maxHeartbeats 4000000
/-! ### an own exception class called with keywords -/
namespace PySem
namespace PawX
open PySem.W PySem.Calls PyProof.Rows PySem.HandSPX
section
variable {M : Model} {prog : Program} {w : World} {A : Around} {E : Value → Shared → Prop} {R : Result → Shared → Prop} {hp : Heap} {gs : Array GenState} {dr : Drawn} {tk : Nat} {os : OsState}
variable {nm q : Str} {C N : Addr} {bs bm bmB : List Value} {hdct : Bool} {sn : List Str} {sub : List Value} {ab : Bool} {col : Option Bool} {dd : Option Addr} {k0 k1 k2 k3 k5 : Option Value} {B newId initId : String}
variable {pos : List Value} {kw : List (Str × Value)}
theorem kw_check (F : ExcBaseFacts B newId initId bmB) (hT : ∀ X : String, bm.contains (.type X) = bmB.contains (.type X)) {Q : Unit → Shared → Prop}
    (hC : hp.get? C = some (excClassObj nm q C N bs bm hdct sn sub ab col dd k0 k1 k2 k3 k5 newId)) (then_ : Q () ⟨hp, gs, dr, tk, os⟩) :
    wpAny M A (checkBuiltinCall newId ⟨.ref C :: pos, kw⟩) Q E ⟨hp, gs, dr, tk, os⟩ := by
  have cont : (Value.ref C :: bm).contains (.type B) = true := by
    rw [List.contains_cons, hT, F.hasB, Bool.or_true]
  have star := F.noStar
  simp only [checkBuiltinCall, F.newKind, F.newSplit, F.newRow]
  repeat (first
    | refine wpAny_loadPart_at hC ?_
    | (refine wpAny_isSubtype_exc hC ?_; rw [cont])
    | refine wpAny_staticBase_exc hC ?_
    | refine wpAny_madeBy_exc hC ?_
    | simp only [bne_self_eq_false, Bool.false_eq_true, if_false]
    | wp_step)
  exact then_
theorem kw_new (F : ExcBaseFacts B newId initId bmB) (hT : ∀ X : String, bm.contains (.type X) = bmB.contains (.type X))
    (hC : hp.get? C = some (excClassObj nm q C N bs bm hdct sn sub ab col dd k0 k1 k2 k3 k5 newId))
    (then_ : R (.ok (.ret (.ref (hp.objs.size + 1)))) ⟨(hp.push (W.kdv_tup pos)).push (excO C hp.objs.size), gs, dr, tk, os⟩) (short : pos.length ≤ sizeLine) :
    codeAny (model prog w) A (.builtin newId ⟨.ref C :: pos, kw⟩) R ⟨hp, gs, dr, tk, os⟩ := by
  have fin := F.ends
  have cB : (Value.ref C :: bm).contains (.type B) = true := by
    rw [List.contains_cons, hT, F.hasB, Bool.or_true]
  have cA : (Value.ref C :: bm).contains (.type "AttributeError") = false := by
    rw [List.contains_cons, hT, F.noAttr]
    rfl
  have cN : (Value.ref C :: bm).contains (.type "NameError") = false := by
    rw [List.contains_cons, hT, F.noName]
    rfl
  refine codeAny_builtinAt F.entry ?_
  unfold Builtin.«BaseException.__new__»
  refine wpAt_bind ?_
  show wpAt _ _ _ (stack >>= _) _ _ _
  refine wpAt_bind (wpAt_stack fun p below => wpAt_of_wpAny ?_)
  wp_walk
  refine wpAt_of_wpAny ?_
  rw [F.owner]
  repeat (first
    | with_reducible refine wpAny_madeHere_exc F.canon hC ?_
    | with_reducible refine wpAny_loadPart_at hC ?_
    | (with_reducible refine wpAny_isSubtype_exc hC ?_; first | rw [cB] | rw [cA] | rw [cN])
    | wp_step)
  show R _ _
  rw [Heap.size_push]
  exact then_
theorem kw_type_call (F : ExcBaseFacts B newId initId bmB) (hT : ∀ X : String, bm.contains (.type X) = bmB.contains (.type X)) {fI : Addr} {Q : Fin → Shared → Prop}
    (hC : hp.get? C = some (excClassObj nm q C N bs bm hdct sn sub ab col dd k0 k1 k2 k3 k5 newId))
    (found : W.Looks (model prog w) hp (typeLookup (.ref C) "__init__") (some (.ref fI))) (bound : ∀ self, W.Looks (model prog w) hp (bindSpecial (.ref fI) self) (.ref fI, [self])) (short : pos.length ≤ sizeLine)
    (runs : codeAny (model prog w) A (.call (.ref fI) ⟨.ref (hp.objs.size + 1) :: pos, kw⟩)
      (fun r s' => match r with | .ok (.ret v) => v = .none ∧ Q (.done (.ret (.ref (hp.objs.size + 1)))) s' | .ok _ => False | .error e => E e s')
      ⟨(hp.push (W.kdv_tup pos)).push (excO C hp.objs.size), gs, dr, tk, os⟩) :
    wpAny (model prog w) A (Builtin.«type.__call__» ⟨.ref C :: pos, kw⟩) Q E ⟨hp, gs, dr, tk, os⟩ := by
  repeat (first
    | with_reducible refine wpAny_loadPart_at hC ?_
    | with_reducible refine wpAny_madeBy_exc hC ?_
    | wp_step)
  refine codeAny_call_builtin_code (Code.quiet_builtin _ F.quiet) (kw_check F hT hC ?_)
  refine kw_new F hT hC ?_ short
  show wpAny _ _ _ _ _ _
  have old : ∀ b o, hp.get? b = some o → ((hp.push (W.kdv_tup pos)).push (excO C hp.objs.size)).get? b = some o :=
    fun b o e => Heap.get?_push_of_some _ (Heap.get?_push_of_some _ e)
  have hC2 := old _ _ hC
  have made : ((hp.push (W.kdv_tup pos)).push (excO C hp.objs.size)).get? (hp.objs.size + 1) = some (excO C hp.objs.size) := by heap_get
  have cC : (Value.ref C :: bm).contains (.ref C) = true := by simp
  have look2 := found.keeps old
  have bind2 := (bound (.ref (hp.objs.size + 1))).keeps old
  unfold isInstance
  repeat (first
    | with_reducible refine wpAny_loadPart_at made ?_
    | (with_reducible refine wpAny_isSubtype_exc hC2 ?_; rw [cC])
    | wp_step)
  show wpAny _ _ (typeLookup (.ref C) _) _ _ _
  refine look2.at ?_
  refine wpAny_holding (wpAny_bind (bind2.at ?_))
  refine wpAny_bind (wpAny_call (codeAny_mono runs fun r s' z => ?_))
  rcases r with e | (v | _ | _ | _) <;> first | exact z | exact z.elim | skip
  obtain ⟨rfl, z⟩ := z
  first
    | exact wpAny_pure (wpAny_pure z)
    | (wp_walk; exact z)
theorem kw_call (F : ExcBaseFacts B newId initId bmB) (hT : ∀ X : String, bm.contains (.type X) = bmB.contains (.type X)) {fI : Addr}
    (hC : hp.get? C = some (excClassObj nm q C N bs bm hdct sn sub ab col dd k0 k1 k2 k3 k5 newId))
    (found : W.Looks (model prog w) hp (typeLookup (.ref C) "__init__") (some (.ref fI))) (bound : ∀ self, W.Looks (model prog w) hp (bindSpecial (.ref fI) self) (.ref fI, [self])) (short : pos.length ≤ sizeLine)
    (runs : codeAny (model prog w) (A.under (.builtin "type.__call__" ⟨.ref C :: pos, kw⟩)) (.call (.ref fI) ⟨.ref (hp.objs.size + 1) :: pos, kw⟩) (W.InitBack (hp.objs.size + 1) R)
      ⟨(hp.push (W.kdv_tup pos)).push (excO C hp.objs.size), gs, dr, tk, os⟩) :
    codeAny (model prog w) A (.call (.ref C) ⟨pos, kw⟩) R ⟨hp, gs, dr, tk, os⟩ := by
  have f1 := tc_lookup
  have f2 := tc_bind (.ref C)
  have ty : (⟨hp, gs, dr, tk, os⟩ : Shared).TypeIs (.ref C) "type" := ⟨_, hC, rfl⟩
  refine codeAny_of_tree ?_
  show wpAny _ _ (callAny (.ref C) _) _ _ _
  repeat (any_goals (first | assumption | with_reducible refine wpAny_loadPart_at hC ?_ | wp_step))
  refine ⟨rfl, ?_⟩
  refine codeAny_call_builtin_at (Code.quiet_builtin _ (by decide +kernel)) entry_typeCall (wpAny_check_type_call_sub hC (kw_type_call F hT hC found bound short ?_))
  refine codeAny_mono runs fun r s' z => ?_
  rcases r with e | (v | _ | _ | _) <;> exact z
end
end PawX
end PySem

set_option maxRecDepth 100000
set_option maxHeartbeats 2000000
namespace Paw
open PySem PySem.Spec PyProof.Rows L2

/-! ### exceptions of the program's own classes as values -/
/-- what the written part says of such a class -/
structure ExV (K : PySem.W.Frag) (C : Addr) : Prop where
  oex : OexC K C
  ga : PySem.W.findIn K (.ref C) "__getattribute__" = some (some (.builtin "BaseException.__getattribute__"))
  gg : PySem.W.findIn K (.ref C) "__getattr__" = some none
  hd : PySem.W.hasDictIn K C = true
  ca : PySem.W.findIn K (.ref C) "__class__" = some (some (.builtin "object.__class__"))
  cg : PySem.W.specialIn K (.builtin "object.__class__") "__get__" = some (some (.builtin "getset_descriptor.__get__"))
  ct : PySem.W.takesIn K (.builtin "object.__class__") = some true
  ob : PySem.W.mroIn K C (.type "object") = some true
/-- an error stands at a: of the class at C, with the fields fs -/
def Err (H : Hp) (a C : Addr) (fs : List (Str × V)) : Prop := ∃ d, H a = some (exo a C (some d)) ∧ H d = some (exd d fs)
/-- an error stands at a, with fields or without -/
def ErrAny (H : Hp) (a C : Addr) : Prop := ∃ d, H a = some (exo a C d) ∧ ∀ dx, d = some dx → ∃ fs, H dx = some (exd dx fs)
theorem Err.any {H : Hp} {a C : Addr} {fs : List (Str × V)} (h : Err H a C fs) : ErrAny H a C := by
  obtain ⟨d, h1, h2⟩ := h
  exact ⟨some d, h1, fun dx e => ⟨fs, by cases e; exact h2⟩⟩
theorem Err.mono {H H' : Hp} {a C : Addr} {fs : List (Str × V)} (h : Err H a C fs) (s : Same H H') : Err H' a C fs := by
  obtain ⟨d, h1, h2⟩ := h
  exact ⟨d, s _ _ h1, s _ _ h2⟩
theorem ErrAny.mono {H H' : Hp} {a C : Addr} (h : ErrAny H a C) (s : Same H H') : ErrAny H' a C := by
  obtain ⟨d, h1, h2⟩ := h
  exact ⟨d, s _ _ h1, fun dx e => (h2 dx e).elim fun fs q => ⟨fs, s _ _ q⟩⟩
/-- C(e, .., k = v, ..) as a value: n values behind one another, m by name -/
def tErr (C : Addr) (n m : Nat) (sp : Sp) (gV : List V → List V → List V) (t tk : TA) : TE := fun σ H Q => t σ H fun vs H1 => tk σ H1 fun zs H2 => vs.length = n ∧ n ≤ 1000 ∧ zs.length = m ∧
  ∀ a, H2 a = none → sp (gV (.ref a :: vs) zs) (upd H2 a (exo a C none)) (fun v H3 => v = .non ∧ Q (.ref a) H3) fun _ _ _ => False
section
variable {X : Cx} {CX : CXT} {k n : Nat} {f C : Addr} {fd : FuncData} {ps ks : List Str} {sp : Sp} {x : Str} {p pos : Pos} {e : Expr} {es : List Expr} {kws : List Keyword} {t tk : TA} {te : TE} {g : List Value → List Value → List Value} {gV : List V → List V → List V}
theorem err_runs {pins : List (Addr × Obj)} {σ : L2.St} {H : Hp} {s : Shared} {Q : VK} {us ws : List Value} {vs zs : List V} (T : OexC X.K C) (iC : PySem.W.findIn X.K (.ref C) "__init__" = some (some (.ref f))) (tI : PySem.W.typeIn X.K (.ref f) = some (.type "function"))
    (F : FnOk X.prog X.w X.K X.mg X.base CX k f fd ps sp) (hr : Room (k + 1) X.A) (hb : KBn X.K fd ps (n + 1) ks g gV) (hx : Passes CX X fun _ _ _ => False) (I : Inv X pins σ H s) (r : Vals vs us) (rz : Vals zs ws) (l1 : vs.length = n) (l0 : n ≤ 1000) (l2 : zs.length = ks.length)
    (h : ∀ a, H a = none → sp (gV (.ref a :: vs) zs) (upd H a (exo a C none)) (fun v H3 => v = .non ∧ Q (.ref a) H3) fun _ _ _ => False) :
    wpAny (model X.prog X.w) X.A (call (.ref C) us (ks.zip ws)) (EP X pins σ Q) X.xe s := by
  obtain ⟨nm, q, N, bs, bm, sn, sub, ab, col, dd, k0, k1, k2, k3, k5, hC, hbm⟩ := T.cls
  obtain ⟨hp, gs, dr, tk, os⟩ := s
  have new : hp.objs.size ≤ hp.objs.size + 1 := Nat.le_succ _
  have hq := h (hp.objs.size + 1) (I.hok.fresh new)
  have old : ∀ b o, hp.get? b = some o → ((hp.push (PySem.W.kdv_tup us)).push (PySem.HandSPX.excO C hp.objs.size)).get? b = some o := fun b o z => Heap.get?_push_of_some _ (Heap.get?_push_of_some _ z)
  have made : ((hp.push (PySem.W.kdv_tup us)).push (PySem.HandSPX.excO C hp.objs.size)).get? (hp.objs.size + 1) = some (PySem.HandSPX.excO C hp.objs.size) := by heap_get
  have J : Inv X pins σ (upd H (hp.objs.size + 1) (exo (hp.objs.size + 1) C none)) ⟨(hp.push (PySem.W.kdv_tup us)).push (PySem.HandSPX.excO C hp.objs.size), gs, dr, tk, os⟩ :=
    I.laid (t' := tk) old new (exo_ok made)
  have r1 : Vals (V.ref (hp.objs.size + 1) :: vs) (Value.ref (hp.objs.size + 1) :: us) := .cons rfl r
  have n1 : (Value.ref (hp.objs.size + 1) :: us).length = n + 1 := by
    rw [List.length_cons, ← r.length, l1]
  have short : us.length ≤ sizeLine := by
    rw [← r.length, l1, sizeLine_eq]
    omega
  apply wpAny_call
  apply PySem.PawX.kw_call PySem.F.excBase_ValueError (fun Y => PySem.HandSPX.refsVE_contains Y bm hbm) (I.kIn _ _ hC) (PySem.W.looks_findIn I.kIn iC) (fun self => PySem.W.bind_fn I.kIn self tI) short
  apply codeAny_mono (F.run _ X.stack _ _ ⟨Value.ref (hp.objs.size + 1) :: us, ks.zip ws⟩ (g (Value.ref (hp.objs.size + 1) :: us) ws) _ _ _ (hr.make C us (ks.zip ws)) (J.env0.make C us (ks.zip ws)) (hb.to _ (Value.ref (hp.objs.size + 1) :: us) ws J.kIn n1 (rz.length.symm.trans l2)) (hb.rel r1 rz) hq)
  intro r s' q
  match r, q with
  | .error er, q => exact hx pins σ _ _ er s' J q
  | .ok (.ret u), q =>
    obtain ⟨v, H', I3, rv, ev, q3⟩ := J.after q
    subst ev
    exact ⟨rv, .ref (hp.objs.size + 1), H', I3, rfl, q3⟩
theorem pe_err (T : OexC X.K C) (iC : PySem.W.findIn X.K (.ref C) "__init__" = some (some (.ref f))) (tI : PySem.W.typeIn X.K (.ref f) = some (.type "function")) (F : FnOk X.prog X.w X.K X.mg X.base CX k f fd ps sp) (hr : Room (k + 1) X.A) (hg : Gl X x) (hm : X.mg x = some (.ref C))
    (hb : KBn X.K fd ps (n + 1) [] g gV) (hx : Passes CX X fun _ _ _ => False) (ha : PA X (e :: es) t) (hdb : (x == ("__debug__" : Str)) = false := by decide) (he : starEach (e :: es) X.env = (false, eval e X.env) :: starEach es X.env := by rfl)
    (hpl : (backTo pos (starEach es X.env)).any (·.1) = false := by rfl) : PE X (.Call (.Name x p) (e :: es) [] pos) (tErr C n 0 sp gV t tNil) := by
  constructor
  intro pins s σ H Q I h
  apply wpAny_Call_Name_kw
  apply ld_glob I hg hm _ hdb
  apply PySem.W.callWith_K (h₀ := X.base) I.ok.mod.kin T.kC _ he hpl
  apply thn (ha.run pos pins s σ H _ I h)
  rintro us s1 ⟨vs, H1, I1, r, l1, l0, _, q⟩
  have z := err_runs (ks := []) (ws := []) (zs := []) T iC tI F hr hb hx I1 r .nil l1 l0 rfl q
  exact ⟨I1.kIn, z⟩
theorem pe_errK0 (T : OexC X.K C) (iC : PySem.W.findIn X.K (.ref C) "__init__" = some (some (.ref f))) (tI : PySem.W.typeIn X.K (.ref f) = some (.type "function")) (F : FnOk X.prog X.w X.K X.mg X.base CX k f fd ps sp) (hr : Room (k + 1) X.A) (hg : Gl X x) (hm : X.mg x = some (.ref C))
    (hb : KBn X.K fd ps 1 ks g gV) (hx : Passes CX X fun _ _ _ => False) (hkw : PK X kws tk) (hall : (backToKw pos (keywordEach kws X.env)).all (·.1.isSome) = true := by rfl) (hks : (backToKw pos (keywordEach kws X.env)).filterMap (·.1) = ks := by rfl)
    (hdb : (x == ("__debug__" : Str)) = false := by decide) (hpl : ((backTo pos (starEach [] X.env)).any (·.1) || (backToKw pos (keywordEach kws X.env)).any (·.1.isNone)) = false := by rfl) :
    PE X (.Call (.Name x p) [] kws pos) (tErr C 0 ks.length sp gV tNil tk) := by
  constructor
  intro pins s σ H Q I h
  apply wpAny_Call_Name_kw
  apply ld_glob I hg hm _ hdb
  apply PySem.W.callWith_KW0 (h₀ := X.base) I.ok.mod.kin T.kC hall _ hpl
  apply thn (hkw.run pos pins s σ H _ I h)
  rintro ws s2 ⟨zs, H2, I2, rz, l1, l0, l2, q⟩
  refine ⟨I2.kIn, ?_⟩
  rw [hks]
  exact err_runs (us := []) (vs := []) T iC tI F hr hb hx I2 .nil rz l1 l0 l2 q
theorem pe_errK (T : OexC X.K C) (iC : PySem.W.findIn X.K (.ref C) "__init__" = some (some (.ref f))) (tI : PySem.W.typeIn X.K (.ref f) = some (.type "function")) (F : FnOk X.prog X.w X.K X.mg X.base CX k f fd ps sp) (hr : Room (k + 1) X.A) (hg : Gl X x) (hm : X.mg x = some (.ref C))
    (hb : KBn X.K fd ps (n + 1) ks g gV) (hx : Passes CX X fun _ _ _ => False) (ha : PA X (e :: es) t) (hkw : PK X kws tk) (hall : (backToKw pos (keywordEach kws X.env)).all (·.1.isSome) = true := by rfl) (hks : (backToKw pos (keywordEach kws X.env)).filterMap (·.1) = ks := by rfl)
    (hdb : (x == ("__debug__" : Str)) = false := by decide) (he : starEach (e :: es) X.env = (false, eval e X.env) :: starEach es X.env := by rfl) (hpl : ((backTo pos (starEach (e :: es) X.env)).any (·.1) || (backToKw pos (keywordEach kws X.env)).any (·.1.isNone)) = false := by rfl) :
    PE X (.Call (.Name x p) (e :: es) kws pos) (tErr C n ks.length sp gV t tk) := by
  constructor
  intro pins s σ H Q I h
  apply wpAny_Call_Name_kw
  apply ld_glob I hg hm _ hdb
  apply PySem.W.callWith_KW (h₀ := X.base) I.ok.mod.kin T.kC hall _ hpl he
  apply thn (ha.run pos pins s σ H _ I h)
  rintro us s1 ⟨vs, H1, I1, r, q⟩
  apply thn (hkw.run pos pins s1 σ H1 _ I1 q)
  rintro ws s2 ⟨zs, H2, I2, rz, l1, l0, l2, q2⟩
  refine ⟨I2.kIn, ?_⟩
  rw [hks]
  exact err_runs T iC tI F hr hb hx I2 r rz l1 l0 l2 q2
/-- C(), C an own class of errors without __init__ -/
theorem pe_err0 {bmB : List Value} {B newId initId : String} (F : ExcBaseFacts B newId initId bmB) (q : PySem.W.excIn X.K C bmB newId = true) (gC : X.mg x = some (.ref C)) (kC : PySem.W.keepIn X.K (.ref C) = true) (hg : Gl X x)
    (hdb : (x == ("__debug__" : Str)) = false := by decide) : PE X (.Call (.Name x p) [] [] pos) (fun σ H Q => ∀ a, H a = none → Q (.ref a) (upd H a (exo a C none))) := by
  constructor
  intro pins s σ H Q I h
  apply wpAny_Call_Name_kw
  apply ld_glob I hg gC _ hdb
  apply PySem.W.callWith_K0 I.kIn kC
  obtain ⟨bm, N, nm, qn, bs, hdct, sn, sub, ab, col, dd, k0, k1, k2, k3, k5, mN, hC, hN, hni, T⟩ := exc_obj I.kIn q
  refine wpAny_call_exc_subT F T hC hN hni (fun h' a hm => ?_) (by show 0 ≤ sizeLine; omega)
  have new : H a = none := I.hok.gone hm.new
  obtain ⟨t, ht, _, _⟩ := hm.there
  exact ⟨.ref a, upd H a (exo a C none), I.laidN hm.keeps hm.new new (exo_ok ht), rfl, h a new⟩
/-- e.f, e an error with the field f -/
def tErrFld (K : PySem.W.Frag) (nm : Str) (te : TE) : TE := fun σ H Q => te σ H fun x H1 => ∃ (a C : Addr) (fs : List (Str × V)) (v : V), x = .ref a ∧ ExV K C ∧ PySem.W.findIn K (.ref C) nm = some none ∧ Err H1 a C fs ∧ fs.lookup nm = some v ∧ Q v H1
theorem pe_errFld {nm : Str} (he : PE X e te) (hb : attributeBase e nm X.env (eval e X.env) = eval e X.env := by rfl) : PE X (.Attribute e nm pos) (tErrFld X.K nm te) := by
  constructor
  intro pins s σ H Q I h
  apply attr_of hb
  apply thn (he.run pins s σ H _ I h)
  rintro u s1 ⟨x, H1, I1, rx, a, C, fs, v, rfl, T, no, ⟨d, ea, ed⟩, l, q⟩
  cases (show u = Value.ref a from rx)
  obtain ⟨t1, ho⟩ := exo_at I1.hok ea
  obtain ⟨mA, hn, rel⟩ := exd_at I1.hok ed
  obtain ⟨od, hod, hl⟩ := lookIn_ns hn
  obtain ⟨u, hu, ru⟩ := RelO.some_of (v := v) (o := mA nm) (by rw [← l]; exact rel nm)
  have J : PySem.W.InstAt s1.heap a _ C (some od) := ⟨ho, rfl, rfl, hod⟩
  exact HandSPX.exc_get I1.kIn J T.ga T.gg T.oex.exC (PySem.W.findObj_own T.hd no rfl (by rw [hl, hu])) (handed_of ru) ⟨v, H1, I1.tok _, ru, q⟩
/-- isinstance(e, c), e an error -/
def rErrIs (K : PySem.W.Frag) : List V → Hp → VK → Prop := fun xs H Q => ∃ (a C : Addr) (c : V) (cv : Value) (b : Bool), xs = [.ref a, c] ∧ ClsV c cv ∧ ExV K C ∧ ErrAny H a C ∧ PySem.W.kitOne K (.ref C) cv = some b ∧ Q (.bl b) H
theorem call_errIs : CallR X (.builtin "isinstance") (rErrIs X.K) := by
  intro pins s σ H xs us Q I r h
  obtain ⟨a, C, c, cv, b, rfl, hc, T, ⟨d, ea, ed⟩, ek, q⟩ := h
  obtain ⟨u1, u2, rfl, r1, r2⟩ := vals2 r
  cases (show u1 = Value.ref a from r1)
  have e2 := hc.eq r2
  subst e2
  obtain ⟨t1, ho⟩ := exo_at I.hok ea
  have hcl : (PySem.W.clsIn X.K C).isSome = true := by
    obtain ⟨cd, hcd, _⟩ := PySem.W.any_some T.hd
    rw [hcd]
    rfl
  have fin : ∀ tk, EP X pins σ Q (.bool b) { s with toks := tk } := fun tk => ⟨.bl b, H, I.tok tk, rfl, q⟩
  cases d with
  | none =>
    have J : PySem.W.InstAt s.heap a _ C none := ⟨ho, rfl, rfl, trivial⟩
    exact PySem.W.kia_one (PySem.W.kitx_exc hcl T.ga T.gg T.oex.exC T.ca T.cg T.ct T.ob) I.kIn J ek (fun z => nomatch z) fin
  | some dx =>
    obtain ⟨fs, ed⟩ := ed dx rfl
    obtain ⟨mA, hn, rel⟩ := exd_at I.hok ed
    obtain ⟨od, hod, hl⟩ := lookIn_ns hn
    have J : PySem.W.InstAt s.heap a _ C (some od) := ⟨ho, rfl, rfl, hod⟩
    exact PySem.W.kia_one (PySem.W.kitx_exc hcl T.ga T.gg T.oex.exC T.ca T.cg T.ct T.ob) I.kIn J ek (fun z => nomatch z) fin
end
end Paw

set_option maxRecDepth 100000
set_option maxHeartbeats 2000000
namespace Paw
open PySem PySem.Spec PyProof.Rows L2

/-! ### how long a repr is -/
mutual
def siz : PyData → Nat
  | .none => 4
  | .bool _ => 5
  | .int i => i.natAbs.log2 + 2
  | .str x => 10 * x.length + 2
  | .list xs => 2 + sizs xs
  | .tuple xs => 4 + sizs xs
  | .dict kvs => 2 + sizk kvs
def sizs : List PyData → Nat
  | [] => 0
  | x :: xs => siz x + 2 + sizs xs
def sizk : List (PyData × PyData) → Nat
  | [] => 0
  | (k, v) :: r => siz k + siz v + 4 + sizk r
end
mutual
/-- every text in it has signs below 2^32 -/
def plainD : PyData → Bool
  | .none | .bool _ | .int _ => true
  | .str x => x.cps.toList.all fun c => decide (c < 16 ^ 8)
  | .list xs => plainDs xs
  | .tuple xs => plainDs xs
  | .dict kvs => plainDk kvs
def plainDs : List PyData → Bool
  | [] => true
  | x :: xs => plainD x && plainDs xs
def plainDk : List (PyData × PyData) → Bool
  | [] => true
  | (k, v) :: r => plainD k && plainD v && plainDk r
end
theorem text_from_le : ∀ (ts : List Str) (k : Nat) (acc : Str), (textFrom k acc ts).length ≤ acc.length + piled ts
  | [], k, acc => by
    rw [piled_nil]
    exact Nat.le_refl _
  | t :: ts, k, acc => by
    rw [piled_cons]
    have c2 : ((", " : Str)).length = 2 := by decide +kernel
    have e : textFrom k acc (t :: ts) = textFrom (k + 1) (acc ++ Str.ofString (if k > 0 then ", " else "") ++ t) ts := rfl
    have l : (Str.ofString (if k > 0 then ", " else "")).length ≤ 2 := by
      split <;> decide +kernel
    have ih := text_from_le ts (k + 1) (acc ++ Str.ofString (if k > 0 then ", " else "") ++ t)
    rw [strLen_append, strLen_append] at ih
    rw [e]
    omega
theorem join_le (ts : List Str) : (Str.join ", " ts).length ≤ piled ts := by
  by_cases h : ts = []
  · subst h
    decide +kernel
  · have := join_length_add ts h
    omega
theorem one_sign : (("[" : Str)).length = 1 ∧ (("]" : Str)).length = 1 ∧ (("(" : Str)).length = 1 ∧ (("{" : Str)).length = 1 ∧ (("}" : Str)).length = 1 ∧ ((": " : Str)).length = 2 := by decide +kernel
theorem list_text_le (ts : List Str) : (listText ts).length ≤ piled ts + 2 := by
  unfold listText
  have h := text_from_le ts 0 "["
  rw [strLen_append]
  have e := one_sign
  omega
theorem tuple_text_le (ts : List Str) : (tupleText ts).length ≤ piled ts + 3 := by
  have e3 : (((if ts.length == 1 then ",)" else ")" : String) : Str)).length ≤ 2 := by split <;> decide +kernel
  have h := join_le ts
  unfold tupleText
  rw [strLen_append, strLen_append]
  have e := one_sign
  omega
theorem dict_text_le (ts : List Str) : (dictText ts).length ≤ piled ts + 2 := by
  have h := join_le ts
  unfold dictText
  rw [strLen_append, strLen_append]
  have e := one_sign
  omega
mutual
theorem shown_le : ∀ d : PyData, plainD d = true → d.shown.length ≤ siz d
  | .none, _ => by
    show (("None" : Str)).length ≤ 4
    decide +kernel
  | .bool b, _ => by
    cases b <;> decide +kernel
  | .int i, _ => by
    have h := int_text_length_le (a := i) (k := i.natAbs.log2 + 1) (Nat.succ_pos _) (Nat.lt_succ_self _)
    show (Str.ofString (toString i)).length ≤ i.natAbs.log2 + 2
    rw [PySem.ofString_length]
    exact h
  | .str x, h => by
    show (reprText x).length ≤ 10 * x.length + 2
    refine StrLaws.reprText_len x fun c hc => ?_
    have z : (x.cps.toList.all fun c => decide (c < 16 ^ 8)) = true := h
    exact of_decide_eq_true (List.all_eq_true.mp z c hc)
  | .list xs, h => by
    have ih := shown_les xs h
    have e := list_text_le (PyData.shownAll xs)
    show (listText (PyData.shownAll xs)).length ≤ 2 + sizs xs
    omega
  | .tuple xs, h => by
    have ih := shown_les xs h
    have e := tuple_text_le (PyData.shownAll xs)
    show (tupleText (PyData.shownAll xs)).length ≤ 4 + sizs xs
    omega
  | .dict kvs, h => by
    have ih := shown_lek kvs h
    have e := dict_text_le (PyData.shownKv kvs)
    show (dictText (PyData.shownKv kvs)).length ≤ 2 + sizk kvs
    omega
theorem shown_les : ∀ ds : List PyData, plainDs ds = true → piled (PyData.shownAll ds) ≤ sizs ds
  | [], _ => by
    show piled [] ≤ 0
    rw [piled_nil]
    omega
  | d :: ds, h => by
    have z : (plainD d && plainDs ds) = true := h
    rw [Bool.and_eq_true] at z
    have h1 := shown_le d z.1
    have h2 := shown_les ds z.2
    show piled (d.shown :: PyData.shownAll ds) ≤ siz d + 2 + sizs ds
    rw [piled_cons]
    omega
theorem shown_lek : ∀ ds : List (PyData × PyData), plainDk ds = true → piled (PyData.shownKv ds) ≤ sizk ds
  | [], _ => by
    show piled [] ≤ 0
    rw [piled_nil]
    omega
  | (k, d) :: ds, h => by
    have z : (plainD k && plainD d && plainDk ds) = true := h
    rw [Bool.and_eq_true, Bool.and_eq_true] at z
    have h0 := shown_le k z.1.1
    have h1 := shown_le d z.1.2
    have h2 := shown_lek ds z.2
    show piled ((k.shown ++ ": " ++ d.shown) :: PyData.shownKv ds) ≤ siz k + siz d + 4 + sizk ds
    rw [piled_cons, strLen_append, strLen_append]
    have e := one_sign
    omega
end
/-- all that repr asks of data -/
structure Fit (d : PyData) : Prop where
  plain : plainD d = true
  show_ : d.showable = true
  small : siz d ≤ 1000000
  depth : d.depth ≤ 40
theorem Fit.size {d : PyData} (h : Fit d) : d.shown.length ≤ sizeLine := by
  have := shown_le d h.plain
  have := h.small
  rw [sizeLine_eq]
  omega
/-! ### built-ins by their names -/
theorem bt_int : bootBuiltins "int" = some (.type "int") := by decide +kernel
theorem bt_list : bootBuiltins "list" = some (.type "list") := by decide +kernel
theorem bt_range : bootBuiltins "range" = some (.type "range") := by decide +kernel
theorem bt_enumerate : bootBuiltins "enumerate" = some (.type "enumerate") := by decide +kernel
theorem bt_str : bootBuiltins "str" = some (.type "str") := by decide +kernel
theorem bt_dict : bootBuiltins "dict" = some (.type "dict") := by decide +kernel
theorem bt_tuple : bootBuiltins "tuple" = some (.type "tuple") := by decide +kernel
theorem bt_zip : bootBuiltins "zip" = some (.type "zip") := by decide +kernel
theorem bt_bool : bootBuiltins "bool" = some (.type "bool") := by decide +kernel
theorem bt_len : bootBuiltins "len" = some (.builtin "len") := by decide +kernel
theorem bt_abs : bootBuiltins "abs" = some (.builtin "abs") := by decide +kernel
theorem bt_repr : bootBuiltins "repr" = some (.builtin "repr") := by decide +kernel
theorem bt_isinstance : bootBuiltins "isinstance" = some (.builtin "isinstance") := by decide +kernel
theorem bt_sorted : bootBuiltins "sorted" = some (.builtin "sorted") := by decide +kernel
theorem bt_max : bootBuiltins "max" = some (.builtin "max") := by decide +kernel
theorem bt_min : bootBuiltins "min" = some (.builtin "min") := by decide +kernel
theorem bt_ord : bootBuiltins "ord" = some (.builtin "ord") := by decide +kernel
theorem bt_sum : bootBuiltins "sum" = some (.builtin "sum") := by decide +kernel
theorem bt_all : bootBuiltins "all" = some (.builtin "all") := by decide +kernel
theorem bt_any : bootBuiltins "any" = some (.builtin "any") := by decide +kernel
end Paw

set_option maxRecDepth 100000
set_option maxHeartbeats 2000000
namespace Paw
open PySem PySem.Spec PyProof.Rows L2
def top (i : Nat) : Stmt := PySem.Challenge.pw_pawlhall_k92_errors_made.main.body.getD i (.Pass ⟨0, 0, 0, 0⟩)
abbrev sMixed : Stmt := top 18
abbrev sPile : Stmt := top 19
abbrev sTake : Stmt := top 20

/-! ### the draws -/
def BIG : Int := 10 ^ 50 * 10 ^ 50 * 10 ^ 50
theorem big_pos : 0 < BIG := by decide +kernel
theorem big_log : BIG.natAbs < 2 ^ 500 := by decide +kernel
/-- what stands in a pile: digits, the cell's rest, a count, a flag -/
def Pile (b : Bool) (L : List V) : Prop := ∃ d m c : Int, L = [.int d, .int m, .int c, .bl b] ∧ 0 ≤ d ∧ d < BIG ∧ 0 ≤ m ∧ m < 2147483647
def spMixed : Sp := fun vs H Q _ => ∃ c k : Int, vs = [.int c, .int k] ∧ ∀ r : Int, 0 ≤ r → Q (.int r) H
def spPile (K : PySem.W.Frag) : Sp := fun vs H Q _ => ∃ (a : Addr) (ns : List Int) (k : Nat), vs = [.ref a, .int (k : Int)] ∧ SqL K H a (ns.map V.int) ∧
  ∀ (H' : Hp) (p : Addr) (L : List V), Same H H' → H p = none → H' p = some (.lst L) → Pile (decide ((k : Int) < 2)) L → Q (.ref p) H'
/-- all that was tracked but p is as it was -/
def But (p : Addr) (H H' : Hp) : Prop := ∀ b o, b ≠ p → H b = some o → H' b = some o
def spTake : Sp := fun vs H Q _ => ∃ (p : Addr) (n : Int) (b : Bool) (L : List V), vs = [.ref p, .int n] ∧ 0 < n ∧ n.natAbs < 2 ^ 2000 ∧ H p = some (.lst L) ∧ Pile b L ∧
  ∀ (r : Int) (L' : List V) (H' : Hp), 0 ≤ r → r < n → Pile b L' → But p H H' → H' p = some (.lst L') → Q (.int r) H'
section
variable {P : Program} {w : World} {K : PySem.W.Frag} {mg : Str → Option Value} {base : Heap}
theorem scMixed : FnScope ["cell", "k", "figure"] ["cell", "k"] (defScope sMixed) := ⟨rfl, rfl, rfl, by decide +kernel, rfl, by decide +kernel, by decide +kernel⟩
theorem ok_mixed {f : Addr} {fd : FuncData} (F : Fun K "_law_mixed" "_law_mixed" sMixed f fd) (zi : mg "int" = none) : FnOk P w K mg base CX0 1 f fd ["cell", "k"] spMixed := by
  refine F.ok scMixed (fun vs H Q E h => ?_) (fun cdv A outer s H vs Q E hr h => ?_)
  · obtain ⟨c, k, rfl, _⟩ := h
    rfl
  · obtain ⟨c, k, rfl, q⟩ := h
    refine ⟨_, pss_cons (ps_set (i := 2) scMixed.nd rfl (Or.inl rfl) (pe_op op_mod (pe_callTy call_int1 (by rfl) zi bt_int (pa_cons
        (pe_op op_add (pe_op op_add (pe_op op_mul (pe_op op_mod (pe_callTy call_int1 (by rfl) zi bt_int (pa_cons (pv 0) pa_nil)) pe_int) pe_int) (pe_op op_mul (pv 1) pe_int)) pe_int) pa_nil)) pe_int))
      (pss_cons (ps_set (i := 2) scMixed.nd rfl (Or.inl rfl) (pe_op op_mod (pe_callTy call_int1 (by rfl) zi bt_int (pa_cons (pe_op op_mul (pv 2) (pv 2)) pa_nil)) pe_int))
      (pss_one (ps_ret (pe_op op_fdiv (pe_op op_mod (pe_callTy call_int1 (by rfl) zi bt_int (pa_cons (pe_op op_mul (pv 2) (pv 2)) pa_nil)) pe_int) pe_int)))), ?_⟩
    refine ⟨_, rfl, .inl ⟨_, rfl, _, _, rfl, rfl, (by show (0 : Int) < 2147483647; decide), _, _, rfl, rfl, .inr ⟨by decide, by decide⟩, _, rfl, _, _, rfl, rfl, .inr ⟨by decide, by decide⟩, _, _, rfl, rfl, _, _, rfl, rfl, .inl ⟨_, rfl, _, _, rfl, rfl, (by show (0 : Int) < 2147483647; decide), ?_⟩⟩⟩
    have e1 := Int.emod_nonneg (c % 2147483647 * 48271 + k * 69621 + 11) (by decide : (2147483647 : Int) ≠ 0)
    have e2 := Int.emod_lt_of_pos (c % 2147483647 * 48271 + k * 69621 + 11) (by decide : (0 : Int) < 2147483647)
    refine ⟨_, rfl, _, rfl, _, _, rfl, rfl, .inl ⟨by omega, by omega⟩, .inl ⟨_, rfl, _, _, rfl, rfl, (by show (0 : Int) < 2147483629; decide), ?_⟩⟩
    generalize (c % 2147483647 * 48271 + k * 69621 + 11) % 2147483647 = y at e1 e2 ⊢
    have e3 := Int.emod_nonneg (y * y) (by decide : (2147483629 : Int) ≠ 0)
    have e4 := Int.emod_lt_of_pos (y * y) (by decide : (0 : Int) < 2147483629)
    refine ⟨_, rfl, _, rfl, _, _, rfl, rfl, .inl ⟨by omega, by omega⟩, .inl ⟨_, rfl, _, _, rfl, rfl, (by show (0 : Int) < 2147483587; decide), _, _, rfl, rfl, ⟨by decide, by decide⟩, q _ ?_⟩⟩
    have e5 := Int.emod_nonneg (y * y % 2147483629 * (y * y % 2147483629)) (by decide : (2147483587 : Int) ≠ 0)
    omega
theorem scPile : FnScope ["script", "k", "cell", "digits"] ["script", "k"] (defScope sPile) := ⟨rfl, rfl, rfl, by decide +kernel, rfl, by decide +kernel, by decide +kernel⟩
theorem pow_big : (10 : Int) ^ (50 : Int).toNat * 10 ^ (50 : Int).toNat * 10 ^ (50 : Int).toNat = BIG := by decide +kernel
theorem pow_one : ((10 : Int) ^ (50 : Int).toNat).natAbs < 2 ^ 200 ∧ ((10 : Int) ^ (50 : Int).toNat * 10 ^ (50 : Int).toNat).natAbs < 2 ^ 400 := by decide +kernel
theorem big_mod (c : Int) : 0 ≤ c.fmod BIG ∧ c.fmod BIG < BIG := by
  have h := big_pos
  rw [Int.fmod_eq_emod_of_nonneg c (by omega)]
  exact ⟨Int.emod_nonneg _ (by omega), Int.emod_lt_of_pos _ h⟩
/-- the two ends of digits' menu -/
theorem menu_at (b : Bool) (x : Int) : atI [V.int 0, V.int x] (if b then 1 else 0) = some (.int (if b then x else 0)) := by
  cases b
  · exact atI_nat (j := 0) rfl
  · exact atI_nat (j := 1) rfl
theorem pile_is {c k : Int} {b b2 : Bool} (e : b2 = decide (k < 2)) : Pile (decide (k < 2)) [.int (if b then c.fmod BIG else 0), .int (c % 2147483647), .int (97 * k), .bl b2] := by
  have h := big_mod c
  have h0 := big_pos
  refine ⟨_, _, _, by rw [e], ?_, ?_, Int.emod_nonneg _ (by decide), Int.emod_lt_of_pos _ (by decide)⟩
  · cases b
    · exact Int.le_refl 0
    · exact h.1
  · cases b
    · exact h0
    · exact h.2
theorem ok_pile {f : Addr} {fd : FuncData} (F : Fun K "_law_pile" "_law_pile" sPile f fd) (zi : mg "int" = none) (zl : mg "len" = none) (za : mg "abs" = none) : FnOk P w K mg base CX0 1 f fd ["script", "k"] (spPile K) := by
  refine F.ok scPile (fun vs H Q E h => ?_) (fun cdv A outer s H vs Q E hr h => ?_)
  · obtain ⟨a, ns, k, rfl, _⟩ := h
    rfl
  · obtain ⟨a, ns, k, rfl, hS, q⟩ := h
    refine ⟨_, pss_cons (ps_set (i := 2) scPile.nd rfl (Or.inl rfl) pe_int)
      (pss_cons (ps_if (pt_cmpR op_lt (pv 1) (pe_callB call_len_seq (by rfl) zl bt_len (pa_cons (pv 0) pa_nil)) (nomark _)) (pss_one (ps_set (i := 2) scPile.nd rfl (Or.inl rfl) (pe_ix ix_list (pv 0) (pv 1) (fun _ _ => rfl)))) pss_nil)
      (pss_cons (ps_set (i := 3) scPile.nd rfl (Or.inl rfl) (pe_ix ix_list (pe_lst (pa_cons pe_int (pa_cons (pe_op op_modN (pe_callTy call_int1 (by rfl) zi bt_int (pa_cons (pv 2) pa_nil)) (pe_op op_mulW (pe_op op_mulW (pe_op op_pow pe_int pe_int) (pe_op op_pow pe_int pe_int)) (pe_op op_pow pe_int pe_int))) pa_nil)))
          (pe_callTy call_int1 (by rfl) zi bt_int (pa_cons (pe_cmpR op_ge (pe_callB call_abs (by rfl) za bt_abs (pa_cons (pv 2) pa_nil)) (pe_op op_pow pe_int pe_int) (nomark _)) pa_nil)) (fun _ _ => rfl)))
      (pss_one (ps_ret (pe_lst (pa_cons (pv 3) (pa_cons (pe_op op_mod (pe_callTy call_int1 (by rfl) zi bt_int (pa_cons (pv 2) pa_nil)) pe_int) (pa_cons (pe_op op_mul pe_int (pv 1)) (pa_cons (pe_cmpR op_lt (pv 1) pe_int (nomark _)) pa_nil))))))))), ?_⟩
    refine ⟨_, rfl, _, rfl, a, _, rfl, .inl hS, _, _, rfl, rfl, _, rfl, ?_⟩
    have hk : decide ((k : Int) < ((ns.map V.int).length : Int)) = true → ∃ z : Int, (ns.map V.int)[k]? = some (.int z) := fun h => by
      have e := of_decide_eq_true h
      rw [List.length_map] at e
      have e2 : k < ns.length := by omega
      exact ⟨ns[k], by rw [List.getElem?_map, List.getElem?_eq_getElem e2]; rfl⟩
    refine ite2 (fun h => (hk h).elim fun z hz => ⟨_, rfl, _, rfl, a, _, _, .int z, rfl, rfl, hS, atI_nat hz, ?_⟩) (fun h => ?_)
    all_goals
      refine ⟨_, rfl, .inl ⟨_, rfl, _, _, rfl, rfl, ⟨by decide, by decide, by decide⟩, _, _, rfl, rfl, ⟨by decide, by decide, by decide⟩, _, _, rfl, rfl, wide_mul pow_one.1 pow_one.1 (by decide) (by decide) (by decide), _, _, rfl, rfl, ⟨by decide, by decide, by decide⟩, _, _, rfl, rfl, wide_mul pow_one.2 pow_one.1 (by decide) (by decide) (by decide), _, _, rfl, rfl, (by rw [pow_big]; have := big_pos; omega), (by show 2 ≤ sizeLine; decide), fun l hl => ?_⟩⟩
      rw [pow_big]
      refine ⟨_, rfl, _, rfl, _, _, rfl, rfl, ⟨by decide, by decide, by decide⟩, _, _, rfl, rfl, .inr ⟨_, rfl, l, _, _, _, rfl, rfl, SqL.of upd_same, menu_at _ _, ?_⟩⟩
      refine ⟨_, rfl, _, rfl, .inl ⟨_, rfl, _, _, rfl, rfl, (by show (0 : Int) < 2147483647; decide), _, rfl, _, _, rfl, rfl, .inl ⟨by decide, by decide⟩, _, rfl, _, _, rfl, rfl, (by show 4 ≤ sizeLine; decide), fun p hp => ?_⟩⟩
      have np : p ≠ l := fun z => by
        rw [z, upd_same] at hp
        cases hp
      rw [upd_ne np] at hp
      refine q _ p _ (fun b o e => ?_) hp upd_same (pile_is rfl)
      rw [upd_ne (ne_of_none e hp), upd_ne (ne_of_none e hl)]
      exact e
theorem scTake : FnScope ["pile", "many", "digit"] ["pile", "many"] (defScope sTake) := ⟨rfl, rfl, rfl, by decide +kernel, rfl, by decide +kernel, by decide +kernel⟩
theorem ok_take {f fM : Addr} {fd fdM : FuncData} (F : Fun K "_law_take" "_law_take" sTake f fd) (zi : mg "int" = none) (GM : FnOk P w K mg base CX0 1 fM fdM ["cell", "k"] spMixed) (gM : mg "_law_mixed" = some (.ref fM)) (kM : PySem.W.keepIn K (.ref fM) = true)
    (bM : Binds K fdM ["cell", "k"] []) : FnOk P w K mg base CX0 2 f fd ["pile", "many"] spTake := by
  refine F.ok scTake (fun vs H Q E h => ?_) (fun cdv A outer s H vs Q E hr h => ?_)
  · obtain ⟨p, n, b, L, rfl, _⟩ := h
    rfl
  · obtain ⟨p, n, b, L, rfl, n0, n1, hp, ⟨d, m, c, rfl, d0, d1, m0, m1⟩, q⟩ := h
    refine ⟨_, pss_cons (ps_if (pt_cmpR op_in_seq (pe_ix ix_list (pv 0) pe_int (fun _ _ => rfl)) (pe_lst (pa_cons pe_int (pa_cons (pe_un un_neg pe_int) pa_nil))) (by rfl))
        (pss_cons (ps_asg (pe_op op_add (pe_ix ix_list (pv 0) pe_int (fun _ _ => rfl)) pe_int) (pg_sub (pv 0) pe_int set_list))
        (pss_one (ps_ret (pe_op op_modN (pe_callTy call_int1 (by rfl) zi bt_int (pa_cons (pe_call GM hr rfl gM kM bM .nil pass0 (pa_cons (pe_ix ix_list (pv 0) pe_int (fun _ _ => rfl)) (pa_cons (pe_ix ix_list (pv 0) pe_int (fun _ _ => rfl)) pa_nil))) pa_nil)) (pv 1))))) pss_nil)
      (pss_cons (ps_set (i := 2) scTake.nd rfl (Or.inl rfl) (pe_op op_modN (pe_callTy call_int1 (by rfl) zi bt_int (pa_cons (pe_ix ix_list (pv 0) pe_int (fun _ _ => rfl)) pa_nil)) (pv 1)))
      (pss_cons (ps_asg (pe_op op_fdivW (pe_ix ix_list (pv 0) pe_int (fun _ _ => rfl)) (pv 1)) (pg_sub (pv 0) pe_int set_list))
      (pss_one (ps_ret (pv 2))))), ?_⟩
    refine ⟨_, rfl, p, _, _, _, rfl, rfl, SqL.of hp, atI_nat (j := 0) rfl, _, rfl, (by show 2 ≤ sizeLine; decide), fun l hl => ?_⟩
    have npl : p ≠ l := ne_of_none hp hl
    have keep : ∀ b o, b ≠ p → H b = some o → (upd H l (.lst [.int 0, .int (-1)])) b = some o := fun b o _ e => by
      rw [upd_ne (ne_of_none e hl)]
      exact e
    refine ⟨l, _, rfl, .inl (SqL.of upd_same), rfl, rfl, _, rfl, ?_⟩
    refine ite2 (fun h => ?_) (fun h => ?_)
    · refine ⟨_, rfl, p, _, _, _, rfl, rfl, SqL.of ((upd_ne npl).trans hp), atI_nat (j := 2) rfl, _, _, rfl, rfl, _, rfl, p, _, _, 2, rfl, rfl, (upd_ne npl).trans hp, rfl, ?_⟩
      refine ⟨_, rfl, p, _, _, _, rfl, rfl, SqL.of upd_same, atI_nat (j := 1) rfl, _, rfl, p, _, _, _, rfl, rfl, SqL.of upd_same, atI_nat (j := 2) rfl, _, _, rfl, fun r r0 => .inl ⟨_, rfl, _, rfl, _, _, rfl, rfl, (by omega), ?_⟩⟩
      refine q _ [.int d, .int m, .int (c + 1), .bl b] _ ?_ ?_ ⟨d, m, c + 1, rfl, d0, d1, m0, m1⟩ (fun b o nb e => ?_) upd_same
      · rw [Int.fmod_eq_emod_of_nonneg r (by omega)]
        exact Int.emod_nonneg _ (by omega)
      · rw [Int.fmod_eq_emod_of_nonneg r (by omega)]
        exact Int.emod_lt_of_pos _ n0
      · rw [upd_ne nb]
        exact keep b o nb e
    · refine ⟨_, rfl, p, _, _, _, rfl, rfl, SqL.of ((upd_ne npl).trans hp), atI_nat (j := 0) rfl, .inl ⟨_, rfl, _, rfl, _, _, rfl, rfl, (by omega), ?_⟩⟩
      refine ⟨_, rfl, p, _, _, _, rfl, rfl, SqL.of ((upd_ne npl).trans hp), atI_nat (j := 0) rfl, _, rfl, _, _, rfl, rfl, wide_div n0 n1 (by decide) (by decide), _, rfl, p, _, _, 0, rfl, rfl, (upd_ne npl).trans hp, rfl, _, rfl, ?_⟩
      have nn : (0 : Int) ≤ n := by omega
      refine q _ [.int (d / n), .int m, .int c, .bl b] _ ?_ ?_ ⟨d / n, m, c, rfl, Int.ediv_nonneg d0 nn, ?_, m0, m1⟩ (fun b o nb e => ?_) upd_same
      · rw [Int.fmod_eq_emod_of_nonneg d nn]
        exact Int.emod_nonneg _ (by omega)
      · rw [Int.fmod_eq_emod_of_nonneg d nn]
        exact Int.emod_lt_of_pos _ n0
      · exact Int.lt_of_le_of_lt (Int.ediv_le_self n d0) d1
      · rw [upd_ne nb]
        exact keep b o nb e
end
end Paw

set_option maxRecDepth 100000
set_option maxHeartbeats 2000000
namespace Paw
open PySem PySem.Spec PyProof.Rows L2
abbrev sOdd : Stmt := top 21
abbrev sAlike : Stmt := top 22

/-! ### heaps -/
theorem same_new {H : Hp} {p : Addr} {o : HO} (h : H p = none) : Same H (upd H p o) := fun b u e => (upd_ne (ne_of_none e h)).trans e
theorem fresh {H : Hp} {a b : Addr} {o : HO} (h : upd H a o b = none) : b ≠ a ∧ H b = none := by
  have n : b ≠ a := fun z => by
    rw [z, upd_same] at h
    cases h
  exact ⟨n, (upd_ne n).symm.trans h⟩
theorem But.refl {p : Addr} {H : Hp} : But p H H := fun _ _ _ e => e
theorem But.trans {p : Addr} {H1 H2 H3 : Hp} (a : But p H1 H2) (b : But p H2 H3) : But p H1 H3 := fun c o n e => b c o n (a c o n e)
theorem same_but {p : Addr} {H1 H2 : Hp} (a : Same H1 H2) : But p H1 H2 := fun c o _ e => a c o e

/-! ### odd things -/
def OddAt (H : Hp) (v : V) : Nat → Prop
  | 0 => v = .non
  | 1 => v = .bl true
  | 2 => v = .int 0
  | 3 => v = .str "A"
  | 4 => v = .str ""
  | 5 => ∃ t, v = .ref t ∧ H t = some (.tup [])
  | 6 => ∃ t, v = .ref t ∧ H t = some (.lst [])
  | 7 => ∃ t, v = .ref t ∧ H t = some (.dK [])
  | 8 => v = .str "a1"
  | 9 => v = .str "abcdefghi"
  | 10 => v = .int (-1)
  | 11 => ∃ t, v = .ref t ∧ H t = some (.tup [.str "a"])
  | 12 => ∃ t, v = .ref t ∧ H t = some (.lst [.str "a"])
  | 13 => ∃ t, v = .ref t ∧ H t = some (.tup [.int 1, .int 2])
  | 14 => v = .str "a b"
  | 15 => v = .str "1"
  | 16 => v = .str " a"
  | 17 => v = .str "a_"
  | 18 => v = .str "a\n"
  | 19 => v = .bl false
  | _ => False
def spOdd : Sp := fun vs H Q _ => ∃ (p : Addr) (b : Bool) (L : List V), vs = [.ref p] ∧ H p = some (.lst L) ∧ Pile b L ∧
  ∀ (j : Nat) (v : V) (L' : List V) (H' : Hp), OddAt H' v j → (∀ t, v = .ref t → H t = none) → But p H H' → H' p = some (.lst L') → Pile b L' → Q v H'
def oddItems (t5 t6 t7 t11 t12 t13 : Addr) : List V :=
  [.non, .bl true, .int 0, .str "A", .str "", .ref t5, .ref t6, .ref t7, .str "a1", .str "abcdefghi", .int (-1), .ref t11, .ref t12, .ref t13, .str "a b", .str "1"] ++ [.str " a", .str "a_", .str "a\n", .bl false]
theorem odd_of {H0 H : Hp} {t5 t6 t7 t11 t12 t13 : Addr} (n5 : H0 t5 = none) (n6 : H0 t6 = none) (n7 : H0 t7 = none) (n11 : H0 t11 = none) (n12 : H0 t12 = none) (n13 : H0 t13 = none)
    (h5 : H t5 = some (.tup [])) (h6 : H t6 = some (.lst [])) (h7 : H t7 = some (.dK [])) (h11 : H t11 = some (.tup [.str "a"])) (h12 : H t12 = some (.lst [.str "a"])) (h13 : H t13 = some (.tup [.int 1, .int 2])) :
    ∀ (j : Nat) (v : V), (oddItems t5 t6 t7 t11 t12 t13)[j]? = some v → OddAt H v j ∧ ∀ t, v = .ref t → H0 t = none
  | 0, _, e => by cases e; exact ⟨rfl, fun t z => nomatch z⟩
  | 1, _, e => by cases e; exact ⟨rfl, fun t z => nomatch z⟩
  | 2, _, e => by cases e; exact ⟨rfl, fun t z => nomatch z⟩
  | 3, _, e => by cases e; exact ⟨rfl, fun t z => nomatch z⟩
  | 4, _, e => by cases e; exact ⟨rfl, fun t z => nomatch z⟩
  | 5, _, e => by cases e; exact ⟨⟨_, rfl, h5⟩, fun t z => by cases z; exact n5⟩
  | 6, _, e => by cases e; exact ⟨⟨_, rfl, h6⟩, fun t z => by cases z; exact n6⟩
  | 7, _, e => by cases e; exact ⟨⟨_, rfl, h7⟩, fun t z => by cases z; exact n7⟩
  | 8, _, e => by cases e; exact ⟨rfl, fun t z => nomatch z⟩
  | 9, _, e => by cases e; exact ⟨rfl, fun t z => nomatch z⟩
  | 10, _, e => by cases e; exact ⟨rfl, fun t z => nomatch z⟩
  | 11, _, e => by cases e; exact ⟨⟨_, rfl, h11⟩, fun t z => by cases z; exact n11⟩
  | 12, _, e => by cases e; exact ⟨⟨_, rfl, h12⟩, fun t z => by cases z; exact n12⟩
  | 13, _, e => by cases e; exact ⟨⟨_, rfl, h13⟩, fun t z => by cases z; exact n13⟩
  | 14, _, e => by cases e; exact ⟨rfl, fun t z => nomatch z⟩
  | 15, _, e => by cases e; exact ⟨rfl, fun t z => nomatch z⟩
  | 16, _, e => by cases e; exact ⟨rfl, fun t z => nomatch z⟩
  | 17, _, e => by cases e; exact ⟨rfl, fun t z => nomatch z⟩
  | 18, _, e => by cases e; exact ⟨rfl, fun t z => nomatch z⟩
  | 19, _, e => by cases e; exact ⟨rfl, fun t z => nomatch z⟩
  | n + 20, _, e => by cases e
section
variable {P : Program} {w : World} {K : PySem.W.Frag} {mg : Str → Option Value} {base : Heap}
theorem scOdd : FnScope ["pile", "some"] ["pile"] (defScope sOdd) := ⟨rfl, rfl, rfl, by decide +kernel, rfl, by decide +kernel, by decide +kernel⟩
theorem ok_odd {f fT : Addr} {fd fdT : FuncData} (F : Fun K "_law_odd" "_law_odd" sOdd f fd) (GT : FnOk P w K mg base CX0 2 fT fdT ["pile", "many"] spTake) (gT : mg "_law_take" = some (.ref fT)) (kT : PySem.W.keepIn K (.ref fT) = true)
    (bT : Binds K fdT ["pile", "many"] []) : FnOk P w K mg base CX0 3 f fd ["pile"] spOdd := by
  refine F.ok scOdd (fun vs H Q E h => ?_) (fun cdv A outer s H vs Q E hr h => ?_)
  · obtain ⟨p, b, L, rfl, _⟩ := h
    rfl
  · obtain ⟨p, b, L, rfl, hp, hL, q⟩ := h
    refine ⟨_, pss_cons (ps_set (i := 1) scOdd.nd rfl (Or.inl rfl) (pe_lst (pa_cons pe_non (pa_cons pe_bl (pa_cons pe_int (pa_cons pe_str (pa_cons pe_str (pa_cons (pe_tup pa_nil) (pa_cons (pe_lst pa_nil) (pa_cons pe_dnewK (pa_cons pe_str (pa_cons pe_str (pa_cons (pe_un un_neg pe_int)
        (pa_cons (pe_tup (pa_cons pe_str pa_nil)) (pa_cons (pe_lst (pa_cons pe_str pa_nil)) (pa_cons (pe_tup (pa_cons pe_int (pa_cons pe_int pa_nil))) (pa_cons pe_str (pa_cons pe_str pa_nil))))))))))))))))))
      (pss_one (ps_ret (pe_ix ix_list (pe_op op_cat (pv 1) (pe_lst (pa_cons pe_str (pa_cons pe_str (pa_cons pe_str (pa_cons pe_bl pa_nil)))))) (pe_call GT hr rfl gT kT bT .nil pass0 (pa_cons (pv 0) (pa_cons pe_int pa_nil))) (fun _ _ => rfl)))), ?_⟩
    refine ⟨(by show 0 ≤ sizeLine; decide), fun t5 h5 => ⟨(by show 0 ≤ sizeLine; decide), fun t6 h6 => fun t7 h7 => ⟨_, rfl, (by show 1 ≤ sizeLine; decide), fun t11 h11 => ⟨(by show 1 ≤ sizeLine; decide), fun t12 h12 => ⟨(by show 2 ≤ sizeLine; decide), fun t13 h13 => ⟨(by show 16 ≤ sizeLine; decide), fun l hl => ?_⟩⟩⟩⟩⟩⟩
    refine ⟨_, rfl, (by show 4 ≤ sizeLine; decide), fun l2 hl2 => ⟨l, l2, _, _, rfl, rfl, (same_new hl2) _ _ upd_same, upd_same, (by show 20 ≤ sizeLine; decide), fun l3 hl3 => ?_⟩⟩
    have s5 := same_new (o := .tup []) h5
    have s6 := same_new (o := .lst []) h6
    have s7 := same_new (o := .dK []) h7
    have s11 := same_new (o := .tup [.str "a"]) h11
    have s12 := same_new (o := .lst [.str "a"]) h12
    have s13 := same_new (o := .tup [.int 1, .int 2]) h13
    have sl := same_new (o := .lst [.non, .bl true, .int 0, .str "A", .str "", .ref t5, .ref t6, .ref t7, .str "a1", .str "abcdefghi", .int (-1), .ref t11, .ref t12, .ref t13, .str "a b", .str "1"]) hl
    have sl2 := same_new (o := .lst [.str " a", .str "a_", .str "a\n", .bl false]) hl2
    have sl3 := same_new (o := .lst (oddItems t5 t6 t7 t11 t12 t13)) hl3
    have e13 := (sl.trans sl2).trans sl3
    have e12 := s13.trans e13
    have e11 := s12.trans e12
    have e7 := s11.trans e11
    have e6 := s7.trans e7
    have e5 := s6.trans e6
    have e0 := s5.trans e5
    have n6 := (fresh h6).2
    have n7 := (fresh (fresh h7).2).2
    have n11 := (fresh (fresh (fresh h11).2).2).2
    have n12 := (fresh (fresh (fresh (fresh h12).2).2).2).2
    have n13 := (fresh (fresh (fresh (fresh (fresh h13).2).2).2).2).2
    have n3 := (((((((s5.trans s6).trans s7).trans s11).trans s12).trans s13).trans sl).trans sl2).free hl3
    have ne : ∀ t, H t = none → t ≠ p := fun t z => (ne_of_none hp z).symm
    refine ⟨_, rfl, p, _, b, L, rfl, (by decide), (by decide +kernel), e0 _ _ hp, hL, fun r L' H' r0 r1 hL' hb hp' => ?_⟩
    obtain ⟨j, rfl⟩ : ∃ j : Nat, r = (j : Int) := ⟨r.toNat, by omega⟩
    have hj : j < (oddItems t5 t6 t7 t11 t12 t13).length := by
      show j < 20
      omega
    have hz : (oddItems t5 t6 t7 t11 t12 t13)[j]? = some (oddItems t5 t6 t7 t11 t12 t13)[j] := List.getElem?_eq_getElem hj
    have z := odd_of (H := H') h5 n6 n7 n11 n12 n13 (hb _ _ (ne _ h5) (e5 _ _ upd_same)) (hb _ _ (ne _ n6) (e6 _ _ upd_same)) (hb _ _ (ne _ n7) (e7 _ _ upd_same)) (hb _ _ (ne _ n11) (e11 _ _ upd_same)) (hb _ _ (ne _ n12) (e12 _ _ upd_same)) (hb _ _ (ne _ n13) (e13 _ _ upd_same)) j _ hz
    refine ⟨l3, _, _, _, rfl, rfl, SqL.of (hb _ _ (ne _ n3) upd_same), atI_nat hz, ?_⟩
    exact q j _ L' H' z.1 z.2 ((same_but e0).trans hb) hp' hL'
def spAlike (K : PySem.W.Frag) : Sp := fun vs H Q _ => ∃ (x y : V) (d e : PyData), vs = [x, y] ∧ RD K H x d ∧ RD K H y e ∧ Fit d ∧ Fit e ∧ Q (.bl (decide (V.str d.shown = V.str e.shown))) H
theorem scAlike : FnScope ["one", "other"] ["one", "other"] (defScope sAlike) := ⟨rfl, rfl, rfl, by decide +kernel, rfl, by decide +kernel, by decide +kernel⟩
theorem ok_alike {f : Addr} {fd : FuncData} (F : Fun K "_law_alike" "_law_alike" sAlike f fd) (zr : mg "repr" = none) : FnG P w K mg base CX0 1 f fd ["one", "other"] (spAlike K) := by
  refine funG F scAlike (fun vs H Q E h => ?_) (fun cdv A hG outer s H vs Q E hS hr h => ?_)
  · obtain ⟨x, y, d, e, rfl, _⟩ := h
    rfl
  · obtain ⟨x, y, d, e, rfl, hd, he, fd, fe, q⟩ := h
    have g : Gd (cxOf CX0 P w K mg base ["one", "other"] "_law_alike" (defScope sAlike) f cdv A outer s H E) := ⟨hG, hS, rfl⟩
    refine ⟨_, pss_one (ps_ret (pe_cmpR op_eq (pe_callB (call_reprD g hr) (by rfl) zr bt_repr (pa_cons (pv 0) pa_nil)) (pe_callB (call_reprD g hr) (by rfl) zr bt_repr (pa_cons (pv 1) pa_nil)) (nomark _))), ?_⟩
    exact ⟨_, rfl, x, d, rfl, hd, fd.show_, fd.size, Nat.le_trans fd.depth (by decide), _, rfl, y, e, rfl, he, fe.show_, fe.size, Nat.le_trans fe.depth (by decide), rfl, q⟩
end
end Paw

set_option maxRecDepth 100000
set_option maxHeartbeats 4000000
namespace Paw
open PySem PySem.Spec PyProof.Rows L2

/-! ### the classes of errors -/
def spI1 (K : PySem.W.Frag) (fl : Str) : Sp := fun vs H Q _ => ∃ (a C : Addr) (v : V), vs = [.ref a, v] ∧ OexC K C ∧ PySem.W.findIn K (.ref C) fl = some none ∧ H a = some (exo a C none) ∧ ∀ dx, H dx = none → dx ≠ a → Q .non (upd (upd H dx (exd dx [(fl, v)])) a (exo a C (some dx)))
def spI2 (K : PySem.W.Frag) (fl gl : Str) : Sp := fun vs H Q _ => ∃ (a C : Addr) (v u : V), vs = [.ref a, v, u] ∧ OexC K C ∧ PySem.W.findIn K (.ref C) fl = some none ∧ PySem.W.findIn K (.ref C) gl = some none ∧ H a = some (exo a C none) ∧
  ∀ dx, H dx = none → dx ≠ a → Q .non (upd (upd (upd H dx (exd dx [(fl, v)])) a (exo a C (some dx))) dx (exd dx [(gl, u), (fl, v)]))
theorem made1 {H : Hp} {a C dx : Addr} {fs : List (Str × V)} (ha : H a = none) (hd : upd H a (exo a C none) dx = none) (ne : dx ≠ a) :
    Same H (upd (upd (upd H a (exo a C none)) dx (exd dx fs)) a (exo a C (some dx))) ∧ Err (upd (upd (upd H a (exo a C none)) dx (exd dx fs)) a (exo a C (some dx))) a C fs := by
  refine ⟨fun b o e => ?_, dx, upd_same, (upd_ne ne).trans upd_same⟩
  have n1 := ne_of_none e ha
  rw [upd_ne n1, upd_ne (ne_of_none e (fresh hd).2), upd_ne n1]
  exact e
theorem made2 {H : Hp} {a C dx : Addr} {fs gs : List (Str × V)} (ha : H a = none) (hd : upd H a (exo a C none) dx = none) (ne : dx ≠ a) :
    Same H (upd (upd (upd (upd H a (exo a C none)) dx (exd dx fs)) a (exo a C (some dx))) dx (exd dx gs)) ∧ Err (upd (upd (upd (upd H a (exo a C none)) dx (exd dx fs)) a (exo a C (some dx))) dx (exd dx gs)) a C gs := by
  refine ⟨fun b o e => ?_, dx, (upd_ne ne.symm).trans upd_same, upd_same⟩
  rw [upd_ne (ne_of_none e (fresh hd).2)]
  exact (made1 ha hd ne).1 b o e
/-- the classes, where they stand -/
structure Cs where
  c0 : Addr
  c1 : Addr
  c2 : Addr
  c3 : Addr
  c4 : Addr
  c5 : Addr
  c6 : Addr
  c7 : Addr
  c8 : Addr
  c9 : Addr
  c10 : Addr
  c11 : Addr
  c12 : Addr
  c13 : Addr
  c14 : Addr
def Cs.at_ (c : Cs) : Nat → Addr
  | 0 => c.c0
  | 1 => c.c1
  | 2 => c.c2
  | 3 => c.c3
  | 4 => c.c4
  | 5 => c.c5
  | 6 => c.c6
  | 7 => c.c7
  | 8 => c.c8
  | 9 => c.c9
  | 10 => c.c10
  | 11 => c.c11
  | 12 => c.c12
  | 13 => c.c13
  | _ => c.c14
def flOf : Nat → Str
  | 0 => "value"
  | 1 => "name"
  | 2 => "name"
  | 3 => "value"
  | 4 => "part"
  | 5 => "name"
  | 6 => "turns"
  | 7 => "load"
  | 8 => "wishes"
  | 9 => "forces"
  | 10 => "name"
  | 11 => "value"
  | 13 => "names"
  | _ => ""
/-- an error of the class w with its values stands at e -/
def ErrOk (c : Cs) (H : Hp) (x y : V) (e : Addr) (w : Nat) : Prop :=
  if w = 12 then ∃ fs, Err H e (c.at_ 12) fs ∧ fs.lookup ("load" : Str) = some x ∧ fs.lookup ("forces" : Str) = some y
  else if w = 14 then ErrAny H e (c.at_ 14)
  else ∃ fs, Err H e (c.at_ w) fs ∧ fs.lookup (flOf w) = some x
def valsOf (w : Nat) (x y : V) : List V := if w = 12 then [x, y] else if w = 14 then [] else [x]
theorem ErrOk.mono {c : Cs} {H H' : Hp} {x y : V} {e : Addr} {w : Nat} (h : ErrOk c H x y e w) (s : Same H H') : ErrOk c H' x y e w := by
  unfold ErrOk at h ⊢
  split
  · next z =>
    rw [if_pos z] at h
    obtain ⟨fs, h1, h2⟩ := h
    exact ⟨fs, h1.mono s, h2⟩
  · next z =>
    rw [if_neg z] at h
    split
    · next z2 =>
      rw [if_pos z2] at h
      exact h.mono s
    · next z2 =>
      rw [if_neg z2] at h
      obtain ⟨fs, h1, h2⟩ := h
      exact ⟨fs, h1.mono s, h2⟩
theorem ErrOk.any {c : Cs} {H : Hp} {x y : V} {e : Addr} {w : Nat} (h : ErrOk c H x y e w) : ErrAny H e (c.at_ w) := by
  unfold ErrOk at h
  split at h
  · next z =>
    obtain ⟨fs, h1, h2⟩ := h
    rw [z]
    exact h1.any
  · next z =>
    split at h
    · next z2 =>
      rw [z2]
      exact h
    · next z2 =>
      obtain ⟨fs, h1, h2⟩ := h
      exact h1.any
theorem errOk1 {c : Cs} {H : Hp} {x y : V} {e C : Addr} {w : Nat} {fl : Str} (h1 : w ≠ 12) (h2 : w ≠ 14) (hc : c.at_ w = C) (hf : flOf w = fl) (h : Err H e C [(fl, x)]) : ErrOk c H x y e w := by
  unfold ErrOk
  rw [if_neg h1, if_neg h2, hc, hf]
  exact ⟨_, h, by simp [List.lookup]⟩
theorem errOk2 {c : Cs} {H : Hp} {x y : V} {e : Addr} (h : Err H e (c.at_ 12) [("forces", y), ("load", x)]) : ErrOk c H x y e 12 := by
  unfold ErrOk
  rw [if_pos rfl]
  exact ⟨_, h, (lookup_put _ _ _ _).trans ((if_neg (by decide +kernel)).trans ((lookup_put _ _ _ _).trans (if_pos rfl))), (lookup_put _ _ _ _).trans (if_pos rfl)⟩
theorem errOk0 {c : Cs} {H : Hp} {x y : V} {e : Addr} (h : H e = some (exo e c.c14 none)) : ErrOk c H x y e 14 := by
  unfold ErrOk
  rw [if_neg (by decide), if_pos rfl]
  exact ⟨none, h, fun dx z => by cases z⟩
/-! ### the defs of the classes -/
abbrev sI0 : Stmt := inClass (top 2) 0
abbrev sI1 : Stmt := inClass (top 3) 0
abbrev sI2 : Stmt := inClass (top 4) 0
abbrev sI3 : Stmt := inClass (top 5) 0
abbrev sI4 : Stmt := inClass (top 6) 0
abbrev sI5 : Stmt := inClass (top 7) 0
abbrev sI6 : Stmt := inClass (top 8) 0
abbrev sI7 : Stmt := inClass (top 9) 0
abbrev sI8 : Stmt := inClass (top 10) 0
abbrev sI9 : Stmt := inClass (top 11) 0
abbrev sI10 : Stmt := inClass (top 12) 0
abbrev sI11 : Stmt := inClass (top 13) 0
abbrev sI12 : Stmt := inClass (top 14) 0
abbrev sI13 : Stmt := inClass (top 15) 0
abbrev sBoth : Stmt := top 23
abbrev sKinds : Stmt := top 24
abbrev sVals : Stmt := top 25
abbrev sHeld : Stmt := top 26
abbrev sLaw : Stmt := top 27
section
variable {P : Program} {w : World} {K : PySem.W.Frag} {mg : Str → Option Value} {base : Heap}
theorem ok_init1 {fl q : Str} {st : Stmt} {f : Addr} {fd : FuncData} (F : Fun K "__init__" q st f fd) (S : FnScope ["self", fl] ["self", fl] (defScope st)) (l0 : (defScope st).names.lookup ("self" : Str) = some NameKind.local) (l1 : (defScope st).names.lookup fl = some NameKind.local)
    (hb : ∃ p1 p2 p3 p4, defBody st = [.Assign [.Attribute (.Name "self" p1) fl p2] (.Name fl p3) p4]) (d1 : (fl == ("__debug__" : Str)) = false) (d2 : (fl == ("__classdict__" : Str)) = false) : FnOk P w K mg base CX0 1 f fd ["self", fl] (spI1 K fl) := by
  refine F.ok S (fun vs H Q E h => ?_) (fun cdv A outer s H vs Q E hr h => ?_)
  · obtain ⟨a, C, v, rfl, _⟩ := h
    rfl
  · obtain ⟨a, C, v, rfl, T, no, ha, k⟩ := h
    obtain ⟨p1, p2, p3, p4, hb⟩ := hb
    rw [hb]
    refine ⟨_, pss_one (ps_ost (pv 0 rfl (Or.inl l0)) (pv 1 rfl (Or.inl l1) d1 d2)), ?_⟩
    exact ⟨v, rfl, .ref a, rfl, a, C, rfl, T, no, .inl ⟨ha, k⟩⟩
/-- a class of errors with one value: where it stands, how it is made -/
structure Kl (P : Program) (w : World) (K : PySem.W.Frag) (mg : Str → Option Value) (base : Heap) (x fl : Str) (C : Addr) : Prop where
  g : mg x = some (.ref C)
  v : ExV K C
  no : PySem.W.findIn K (.ref C) fl = some none
  ini : ∃ (f : Addr) (fd : FuncData), PySem.W.findIn K (.ref C) "__init__" = some (some (.ref f)) ∧ PySem.W.typeIn K (.ref f) = some (.type "function") ∧ FnOk P w K mg base CX0 1 f fd ["self", fl] (spI1 K fl) ∧
    KBn K fd ["self", fl] 2 [] (fun us _ => us) (fun vs _ => vs) ∧ KBn K fd ["self", fl] 1 [fl] (fun us ws => us ++ ws) fun vs zs => vs ++ zs
theorem kl0 {C f : Addr} {fd : FuncData} (g : mg "NoFraction" = some (.ref C)) (v : ExV K C) (no : PySem.W.findIn K (.ref C) "value" = some none) (i : PySem.W.findIn K (.ref C) "__init__" = some (some (.ref f))) (t : PySem.W.typeIn K (.ref f) = some (.type "function"))
    (F : Fun K "__init__" "NoFraction.__init__" sI0 f fd) : Kl P w K mg base "NoFraction" "value" C := by
  have S : FnScope ["self", "value"] ["self", "value"] (defScope sI0) := ⟨rfl, rfl, rfl, by decide +kernel, rfl, by decide +kernel, by decide +kernel⟩
  have G : FnOk P w K mg base CX0 1 f fd ["self", "value"] (spI1 K "value") := ok_init1 F S rfl rfl ⟨_, _, _, _, rfl⟩ (by decide +kernel) (by decide +kernel)
  obtain ⟨oc, od, kV, doc, pm, an, cdv, ct, osl, rfl, lk, hcd⟩ := F.ex
  exact ⟨g, v, no, f, _, i, t, G, ⟨fun s us ws _ h1 h2 => match us, ws, h1, h2 with | [_, _], [], _, _ => .of_eq rfl, fun r _ => r⟩, ⟨fun s us ws _ h1 h2 => match us, ws, h1, h2 with | [_], [_], _, _ => .of_eq rfl, fun r q => r.append q⟩⟩
theorem kl1 {C f : Addr} {fd : FuncData} (g : mg "NoName" = some (.ref C)) (v : ExV K C) (no : PySem.W.findIn K (.ref C) "name" = some none) (i : PySem.W.findIn K (.ref C) "__init__" = some (some (.ref f))) (t : PySem.W.typeIn K (.ref f) = some (.type "function"))
    (F : Fun K "__init__" "NoName.__init__" sI1 f fd) : Kl P w K mg base "NoName" "name" C := by
  have S : FnScope ["self", "name"] ["self", "name"] (defScope sI1) := ⟨rfl, rfl, rfl, by decide +kernel, rfl, by decide +kernel, by decide +kernel⟩
  have G : FnOk P w K mg base CX0 1 f fd ["self", "name"] (spI1 K "name") := ok_init1 F S rfl rfl ⟨_, _, _, _, rfl⟩ (by decide +kernel) (by decide +kernel)
  obtain ⟨oc, od, kV, doc, pm, an, cdv, ct, osl, rfl, lk, hcd⟩ := F.ex
  exact ⟨g, v, no, f, _, i, t, G, ⟨fun s us ws _ h1 h2 => match us, ws, h1, h2 with | [_, _], [], _, _ => .of_eq rfl, fun r _ => r⟩, ⟨fun s us ws _ h1 h2 => match us, ws, h1, h2 with | [_], [_], _, _ => .of_eq rfl, fun r q => r.append q⟩⟩
theorem kl2 {C f : Addr} {fd : FuncData} (g : mg "Twice" = some (.ref C)) (v : ExV K C) (no : PySem.W.findIn K (.ref C) "name" = some none) (i : PySem.W.findIn K (.ref C) "__init__" = some (some (.ref f))) (t : PySem.W.typeIn K (.ref f) = some (.type "function"))
    (F : Fun K "__init__" "Twice.__init__" sI2 f fd) : Kl P w K mg base "Twice" "name" C := by
  have S : FnScope ["self", "name"] ["self", "name"] (defScope sI2) := ⟨rfl, rfl, rfl, by decide +kernel, rfl, by decide +kernel, by decide +kernel⟩
  have G : FnOk P w K mg base CX0 1 f fd ["self", "name"] (spI1 K "name") := ok_init1 F S rfl rfl ⟨_, _, _, _, rfl⟩ (by decide +kernel) (by decide +kernel)
  obtain ⟨oc, od, kV, doc, pm, an, cdv, ct, osl, rfl, lk, hcd⟩ := F.ex
  exact ⟨g, v, no, f, _, i, t, G, ⟨fun s us ws _ h1 h2 => match us, ws, h1, h2 with | [_, _], [], _, _ => .of_eq rfl, fun r _ => r⟩, ⟨fun s us ws _ h1 h2 => match us, ws, h1, h2 with | [_], [_], _, _ => .of_eq rfl, fun r q => r.append q⟩⟩
theorem kl3 {C f : Addr} {fd : FuncData} (g : mg "NoTeeth" = some (.ref C)) (v : ExV K C) (no : PySem.W.findIn K (.ref C) "value" = some none) (i : PySem.W.findIn K (.ref C) "__init__" = some (some (.ref f))) (t : PySem.W.typeIn K (.ref f) = some (.type "function"))
    (F : Fun K "__init__" "NoTeeth.__init__" sI3 f fd) : Kl P w K mg base "NoTeeth" "value" C := by
  have S : FnScope ["self", "value"] ["self", "value"] (defScope sI3) := ⟨rfl, rfl, rfl, by decide +kernel, rfl, by decide +kernel, by decide +kernel⟩
  have G : FnOk P w K mg base CX0 1 f fd ["self", "value"] (spI1 K "value") := ok_init1 F S rfl rfl ⟨_, _, _, _, rfl⟩ (by decide +kernel) (by decide +kernel)
  obtain ⟨oc, od, kV, doc, pm, an, cdv, ct, osl, rfl, lk, hcd⟩ := F.ex
  exact ⟨g, v, no, f, _, i, t, G, ⟨fun s us ws _ h1 h2 => match us, ws, h1, h2 with | [_, _], [], _, _ => .of_eq rfl, fun r _ => r⟩, ⟨fun s us ws _ h1 h2 => match us, ws, h1, h2 with | [_], [_], _, _ => .of_eq rfl, fun r q => r.append q⟩⟩
theorem kl4 {C f : Addr} {fd : FuncData} (g : mg "NoPart" = some (.ref C)) (v : ExV K C) (no : PySem.W.findIn K (.ref C) "part" = some none) (i : PySem.W.findIn K (.ref C) "__init__" = some (some (.ref f))) (t : PySem.W.typeIn K (.ref f) = some (.type "function"))
    (F : Fun K "__init__" "NoPart.__init__" sI4 f fd) : Kl P w K mg base "NoPart" "part" C := by
  have S : FnScope ["self", "part"] ["self", "part"] (defScope sI4) := ⟨rfl, rfl, rfl, by decide +kernel, rfl, by decide +kernel, by decide +kernel⟩
  have G : FnOk P w K mg base CX0 1 f fd ["self", "part"] (spI1 K "part") := ok_init1 F S rfl rfl ⟨_, _, _, _, rfl⟩ (by decide +kernel) (by decide +kernel)
  obtain ⟨oc, od, kV, doc, pm, an, cdv, ct, osl, rfl, lk, hcd⟩ := F.ex
  exact ⟨g, v, no, f, _, i, t, G, ⟨fun s us ws _ h1 h2 => match us, ws, h1, h2 with | [_, _], [], _, _ => .of_eq rfl, fun r _ => r⟩, ⟨fun s us ws _ h1 h2 => match us, ws, h1, h2 with | [_], [_], _, _ => .of_eq rfl, fun r q => r.append q⟩⟩
theorem kl5 {C f : Addr} {fd : FuncData} (g : mg "NoWheel" = some (.ref C)) (v : ExV K C) (no : PySem.W.findIn K (.ref C) "name" = some none) (i : PySem.W.findIn K (.ref C) "__init__" = some (some (.ref f))) (t : PySem.W.typeIn K (.ref f) = some (.type "function"))
    (F : Fun K "__init__" "NoWheel.__init__" sI5 f fd) : Kl P w K mg base "NoWheel" "name" C := by
  have S : FnScope ["self", "name"] ["self", "name"] (defScope sI5) := ⟨rfl, rfl, rfl, by decide +kernel, rfl, by decide +kernel, by decide +kernel⟩
  have G : FnOk P w K mg base CX0 1 f fd ["self", "name"] (spI1 K "name") := ok_init1 F S rfl rfl ⟨_, _, _, _, rfl⟩ (by decide +kernel) (by decide +kernel)
  obtain ⟨oc, od, kV, doc, pm, an, cdv, ct, osl, rfl, lk, hcd⟩ := F.ex
  exact ⟨g, v, no, f, _, i, t, G, ⟨fun s us ws _ h1 h2 => match us, ws, h1, h2 with | [_, _], [], _, _ => .of_eq rfl, fun r _ => r⟩, ⟨fun s us ws _ h1 h2 => match us, ws, h1, h2 with | [_], [_], _, _ => .of_eq rfl, fun r q => r.append q⟩⟩
theorem kl6 {C f : Addr} {fd : FuncData} (g : mg "NoTurns" = some (.ref C)) (v : ExV K C) (no : PySem.W.findIn K (.ref C) "turns" = some none) (i : PySem.W.findIn K (.ref C) "__init__" = some (some (.ref f))) (t : PySem.W.typeIn K (.ref f) = some (.type "function"))
    (F : Fun K "__init__" "NoTurns.__init__" sI6 f fd) : Kl P w K mg base "NoTurns" "turns" C := by
  have S : FnScope ["self", "turns"] ["self", "turns"] (defScope sI6) := ⟨rfl, rfl, rfl, by decide +kernel, rfl, by decide +kernel, by decide +kernel⟩
  have G : FnOk P w K mg base CX0 1 f fd ["self", "turns"] (spI1 K "turns") := ok_init1 F S rfl rfl ⟨_, _, _, _, rfl⟩ (by decide +kernel) (by decide +kernel)
  obtain ⟨oc, od, kV, doc, pm, an, cdv, ct, osl, rfl, lk, hcd⟩ := F.ex
  exact ⟨g, v, no, f, _, i, t, G, ⟨fun s us ws _ h1 h2 => match us, ws, h1, h2 with | [_, _], [], _, _ => .of_eq rfl, fun r _ => r⟩, ⟨fun s us ws _ h1 h2 => match us, ws, h1, h2 with | [_], [_], _, _ => .of_eq rfl, fun r q => r.append q⟩⟩
theorem kl7 {C f : Addr} {fd : FuncData} (g : mg "NoLoad" = some (.ref C)) (v : ExV K C) (no : PySem.W.findIn K (.ref C) "load" = some none) (i : PySem.W.findIn K (.ref C) "__init__" = some (some (.ref f))) (t : PySem.W.typeIn K (.ref f) = some (.type "function"))
    (F : Fun K "__init__" "NoLoad.__init__" sI7 f fd) : Kl P w K mg base "NoLoad" "load" C := by
  have S : FnScope ["self", "load"] ["self", "load"] (defScope sI7) := ⟨rfl, rfl, rfl, by decide +kernel, rfl, by decide +kernel, by decide +kernel⟩
  have G : FnOk P w K mg base CX0 1 f fd ["self", "load"] (spI1 K "load") := ok_init1 F S rfl rfl ⟨_, _, _, _, rfl⟩ (by decide +kernel) (by decide +kernel)
  obtain ⟨oc, od, kV, doc, pm, an, cdv, ct, osl, rfl, lk, hcd⟩ := F.ex
  exact ⟨g, v, no, f, _, i, t, G, ⟨fun s us ws _ h1 h2 => match us, ws, h1, h2 with | [_, _], [], _, _ => .of_eq rfl, fun r _ => r⟩, ⟨fun s us ws _ h1 h2 => match us, ws, h1, h2 with | [_], [_], _, _ => .of_eq rfl, fun r q => r.append q⟩⟩
theorem kl8 {C f : Addr} {fd : FuncData} (g : mg "NoWishes" = some (.ref C)) (v : ExV K C) (no : PySem.W.findIn K (.ref C) "wishes" = some none) (i : PySem.W.findIn K (.ref C) "__init__" = some (some (.ref f))) (t : PySem.W.typeIn K (.ref f) = some (.type "function"))
    (F : Fun K "__init__" "NoWishes.__init__" sI8 f fd) : Kl P w K mg base "NoWishes" "wishes" C := by
  have S : FnScope ["self", "wishes"] ["self", "wishes"] (defScope sI8) := ⟨rfl, rfl, rfl, by decide +kernel, rfl, by decide +kernel, by decide +kernel⟩
  have G : FnOk P w K mg base CX0 1 f fd ["self", "wishes"] (spI1 K "wishes") := ok_init1 F S rfl rfl ⟨_, _, _, _, rfl⟩ (by decide +kernel) (by decide +kernel)
  obtain ⟨oc, od, kV, doc, pm, an, cdv, ct, osl, rfl, lk, hcd⟩ := F.ex
  exact ⟨g, v, no, f, _, i, t, G, ⟨fun s us ws _ h1 h2 => match us, ws, h1, h2 with | [_, _], [], _, _ => .of_eq rfl, fun r _ => r⟩, ⟨fun s us ws _ h1 h2 => match us, ws, h1, h2 with | [_], [_], _, _ => .of_eq rfl, fun r q => r.append q⟩⟩
theorem kl9 {C f : Addr} {fd : FuncData} (g : mg "NoForces" = some (.ref C)) (v : ExV K C) (no : PySem.W.findIn K (.ref C) "forces" = some none) (i : PySem.W.findIn K (.ref C) "__init__" = some (some (.ref f))) (t : PySem.W.typeIn K (.ref f) = some (.type "function"))
    (F : Fun K "__init__" "NoForces.__init__" sI9 f fd) : Kl P w K mg base "NoForces" "forces" C := by
  have S : FnScope ["self", "forces"] ["self", "forces"] (defScope sI9) := ⟨rfl, rfl, rfl, by decide +kernel, rfl, by decide +kernel, by decide +kernel⟩
  have G : FnOk P w K mg base CX0 1 f fd ["self", "forces"] (spI1 K "forces") := ok_init1 F S rfl rfl ⟨_, _, _, _, rfl⟩ (by decide +kernel) (by decide +kernel)
  obtain ⟨oc, od, kV, doc, pm, an, cdv, ct, osl, rfl, lk, hcd⟩ := F.ex
  exact ⟨g, v, no, f, _, i, t, G, ⟨fun s us ws _ h1 h2 => match us, ws, h1, h2 with | [_, _], [], _, _ => .of_eq rfl, fun r _ => r⟩, ⟨fun s us ws _ h1 h2 => match us, ws, h1, h2 with | [_], [_], _, _ => .of_eq rfl, fun r q => r.append q⟩⟩
theorem kl10 {C f : Addr} {fd : FuncData} (g : mg "NoLever" = some (.ref C)) (v : ExV K C) (no : PySem.W.findIn K (.ref C) "name" = some none) (i : PySem.W.findIn K (.ref C) "__init__" = some (some (.ref f))) (t : PySem.W.typeIn K (.ref f) = some (.type "function"))
    (F : Fun K "__init__" "NoLever.__init__" sI10 f fd) : Kl P w K mg base "NoLever" "name" C := by
  have S : FnScope ["self", "name"] ["self", "name"] (defScope sI10) := ⟨rfl, rfl, rfl, by decide +kernel, rfl, by decide +kernel, by decide +kernel⟩
  have G : FnOk P w K mg base CX0 1 f fd ["self", "name"] (spI1 K "name") := ok_init1 F S rfl rfl ⟨_, _, _, _, rfl⟩ (by decide +kernel) (by decide +kernel)
  obtain ⟨oc, od, kV, doc, pm, an, cdv, ct, osl, rfl, lk, hcd⟩ := F.ex
  exact ⟨g, v, no, f, _, i, t, G, ⟨fun s us ws _ h1 h2 => match us, ws, h1, h2 with | [_, _], [], _, _ => .of_eq rfl, fun r _ => r⟩, ⟨fun s us ws _ h1 h2 => match us, ws, h1, h2 with | [_], [_], _, _ => .of_eq rfl, fun r q => r.append q⟩⟩
theorem kl11 {C f : Addr} {fd : FuncData} (g : mg "NoText" = some (.ref C)) (v : ExV K C) (no : PySem.W.findIn K (.ref C) "value" = some none) (i : PySem.W.findIn K (.ref C) "__init__" = some (some (.ref f))) (t : PySem.W.typeIn K (.ref f) = some (.type "function"))
    (F : Fun K "__init__" "NoText.__init__" sI11 f fd) : Kl P w K mg base "NoText" "value" C := by
  have S : FnScope ["self", "value"] ["self", "value"] (defScope sI11) := ⟨rfl, rfl, rfl, by decide +kernel, rfl, by decide +kernel, by decide +kernel⟩
  have G : FnOk P w K mg base CX0 1 f fd ["self", "value"] (spI1 K "value") := ok_init1 F S rfl rfl ⟨_, _, _, _, rfl⟩ (by decide +kernel) (by decide +kernel)
  obtain ⟨oc, od, kV, doc, pm, an, cdv, ct, osl, rfl, lk, hcd⟩ := F.ex
  exact ⟨g, v, no, f, _, i, t, G, ⟨fun s us ws _ h1 h2 => match us, ws, h1, h2 with | [_, _], [], _, _ => .of_eq rfl, fun r _ => r⟩, ⟨fun s us ws _ h1 h2 => match us, ws, h1, h2 with | [_], [_], _, _ => .of_eq rfl, fun r q => r.append q⟩⟩
theorem kl13 {C f : Addr} {fd : FuncData} (g : mg "Loose" = some (.ref C)) (v : ExV K C) (no : PySem.W.findIn K (.ref C) "names" = some none) (i : PySem.W.findIn K (.ref C) "__init__" = some (some (.ref f))) (t : PySem.W.typeIn K (.ref f) = some (.type "function"))
    (F : Fun K "__init__" "Loose.__init__" sI13 f fd) : Kl P w K mg base "Loose" "names" C := by
  have S : FnScope ["self", "names"] ["self", "names"] (defScope sI13) := ⟨rfl, rfl, rfl, by decide +kernel, rfl, by decide +kernel, by decide +kernel⟩
  have G : FnOk P w K mg base CX0 1 f fd ["self", "names"] (spI1 K "names") := ok_init1 F S rfl rfl ⟨_, _, _, _, rfl⟩ (by decide +kernel) (by decide +kernel)
  obtain ⟨oc, od, kV, doc, pm, an, cdv, ct, osl, rfl, lk, hcd⟩ := F.ex
  exact ⟨g, v, no, f, _, i, t, G, ⟨fun s us ws _ h1 h2 => match us, ws, h1, h2 with | [_, _], [], _, _ => .of_eq rfl, fun r _ => r⟩, ⟨fun s us ws _ h1 h2 => match us, ws, h1, h2 with | [_], [_], _, _ => .of_eq rfl, fun r q => r.append q⟩⟩
/-- the class of errors with two values -/
structure Kl2 (P : Program) (w : World) (K : PySem.W.Frag) (mg : Str → Option Value) (base : Heap) (C : Addr) : Prop where
  g : mg "Stuck" = some (.ref C)
  v : ExV K C
  no : PySem.W.findIn K (.ref C) "load" = some none
  no2 : PySem.W.findIn K (.ref C) "forces" = some none
  ini : ∃ (f : Addr) (fd : FuncData), PySem.W.findIn K (.ref C) "__init__" = some (some (.ref f)) ∧ PySem.W.typeIn K (.ref f) = some (.type "function") ∧ FnOk P w K mg base CX0 1 f fd ["self", "load", "forces"] (spI2 K "load" "forces") ∧
    KBn K fd ["self", "load", "forces"] 3 [] (fun us _ => us) (fun vs _ => vs) ∧ KBn K fd ["self", "load", "forces"] 1 ["load", "forces"] (fun us ws => us ++ ws) (fun vs zs => vs ++ zs) ∧
    KBn K fd ["self", "load", "forces"] 1 ["forces", "load"] (fun us ws => us ++ ws.reverse) (fun vs zs => vs ++ zs.reverse) ∧ KBn K fd ["self", "load", "forces"] 2 ["forces"] (fun us ws => us ++ ws) fun vs zs => vs ++ zs
theorem vals_rev : ∀ {vs : List V} {us : List Value}, Vals vs us → Vals vs.reverse us.reverse
  | _, _, .nil => .nil
  | _, _, .cons r t => by
    rw [List.reverse_cons, List.reverse_cons]
    exact (vals_rev t).append (.cons r .nil)
theorem kl12 {C f : Addr} {fd : FuncData} (g : mg "Stuck" = some (.ref C)) (v : ExV K C) (no : PySem.W.findIn K (.ref C) "load" = some none) (no2 : PySem.W.findIn K (.ref C) "forces" = some none) (i : PySem.W.findIn K (.ref C) "__init__" = some (some (.ref f))) (t : PySem.W.typeIn K (.ref f) = some (.type "function"))
    (F : Fun K "__init__" "Stuck.__init__" sI12 f fd) : Kl2 P w K mg base C := by
  have S : FnScope ["self", "load", "forces"] ["self", "load", "forces"] (defScope sI12) := ⟨rfl, rfl, rfl, by decide +kernel, rfl, by decide +kernel, by decide +kernel⟩
  have G : FnOk P w K mg base CX0 1 f fd ["self", "load", "forces"] (spI2 K "load" "forces") := by
    refine F.ok S (fun vs H Q E h => ?_) (fun cdv A outer s H vs Q E hr h => ?_)
    · obtain ⟨a, C, v, u, rfl, _⟩ := h
      rfl
    · obtain ⟨a, C, v, u, rfl, T, no, no2, ha, k⟩ := h
      refine ⟨_, pss_cons (ps_ost (pv 0) (pv 1)) (pss_one (ps_ost (pv 0) (pv 2))), ?_⟩
      exact ⟨v, rfl, .ref a, rfl, a, C, rfl, T, no, .inl ⟨ha, fun dx h1 h2 => ⟨u, rfl, .ref a, rfl, a, C, rfl, T, no2, .inr ⟨dx, _, upd_same, (upd_ne h2).trans upd_same, (by show 1 ≤ 900; decide), k dx h1 h2⟩⟩⟩⟩
  obtain ⟨oc, od, kV, doc, pm, an, cdv, ct, osl, rfl, lk, hcd⟩ := F.ex
  exact ⟨g, v, no, no2, f, _, i, t, G, ⟨fun s us ws _ h1 h2 => match us, ws, h1, h2 with | [_, _, _], [], _, _ => .of_eq rfl, fun r _ => r⟩, ⟨fun s us ws _ h1 h2 => match us, ws, h1, h2 with | [_], [_, _], _, _ => .of_eq rfl, fun r q => r.append q⟩,
    ⟨fun s us ws _ h1 h2 => match us, ws, h1, h2 with | [_], [_, _], _, _ => .of_eq rfl, fun r q => r.append (vals_rev q)⟩, ⟨fun s us ws _ h1 h2 => match us, ws, h1, h2 with | [_, _], [_], _, _ => .of_eq rfl, fun r q => r.append q⟩⟩
/-- all of them -/
structure Kls (P : Program) (w : World) (K : PySem.W.Frag) (mg : Str → Option Value) (base : Heap) (c : Cs) : Prop where
  k0 : Kl P w K mg base "NoFraction" "value" c.c0
  k1 : Kl P w K mg base "NoName" "name" c.c1
  k2 : Kl P w K mg base "Twice" "name" c.c2
  k3 : Kl P w K mg base "NoTeeth" "value" c.c3
  k4 : Kl P w K mg base "NoPart" "part" c.c4
  k5 : Kl P w K mg base "NoWheel" "name" c.c5
  k6 : Kl P w K mg base "NoTurns" "turns" c.c6
  k7 : Kl P w K mg base "NoLoad" "load" c.c7
  k8 : Kl P w K mg base "NoWishes" "wishes" c.c8
  k9 : Kl P w K mg base "NoForces" "forces" c.c9
  k10 : Kl P w K mg base "NoLever" "name" c.c10
  k11 : Kl P w K mg base "NoText" "value" c.c11
  k13 : Kl P w K mg base "Loose" "names" c.c13
  k12 : Kl2 P w K mg base c.c12
  g14 : mg "NothingToUndo" = some (.ref c.c14)
  v14 : ExV K c.c14
  x14 : PySem.W.excIn K c.c14 [.type "ValueError", .type "Exception", .type "BaseException", .type "object"] "ValueError.__new__" = true
/-! ### _law_both -/
def spBoth (c : Cs) : Sp := fun vs H Q _ => ∃ (w : Nat) (x y : V), vs = [.int (w : Int), x, y] ∧ w < 15 ∧
  ∀ (H' : Hp) (p : Addr) (es : List Addr), Same H H' → H p = none → H' p = some (.lst (es.map V.ref)) → es.length = (if w = 12 then 4 else 2) → (∀ e ∈ es, ErrOk c H' x y e w) → Q (.ref p) H'
theorem both_end {c : Cs} {H H1 H2 H3 : Hp} {x y : V} {a b p : Addr} {w : Nat} (s1 : Same H H1) (e1 : ErrOk c H1 x y a w) (s2 : Same H1 H2) (e2 : ErrOk c H2 x y b w) (hp : H2 p = none) (h12 : w ≠ 12) {Q : VK}
    (q : ∀ (H' : Hp) (p : Addr) (es : List Addr), Same H H' → H p = none → H' p = some (.lst (es.map V.ref)) → es.length = (if w = 12 then 4 else 2) → (∀ e ∈ es, ErrOk c H' x y e w) → Q (.ref p) H') : Q (.ref p) (upd H2 p (.lst [.ref a, .ref b])) := by
  have s3 := same_new (o := .lst [.ref a, .ref b]) hp
  refine q _ p [a, b] ((s1.trans s2).trans s3) ((s1.trans s2).free hp) upd_same (by rw [if_neg h12]; rfl) fun e he => ?_
  rcases List.mem_cons.mp he with z | z
  · rw [z]
    exact e1.mono (s2.trans s3)
  · rw [List.mem_singleton.mp z]
    exact e2.mono s3
theorem scBoth : FnScope ["which", "thing", "more", "found"] ["which", "thing", "more"] (defScope sBoth) := ⟨rfl, rfl, rfl, by decide +kernel, rfl, by decide +kernel, by decide +kernel⟩
theorem ne_w {w k : Nat} (h : ¬ decide (V.int (w : Int) = V.int (k : Int)) = true) : w ≠ k := fun z => h (decide_eq_true (by rw [z]))
theorem eq_w {w k : Nat} (h : decide (V.int (w : Int) = V.int (k : Int)) = true) : w = k := by
  have e := of_decide_eq_true h
  injection e with e
  omega
theorem ok_both {c : Cs} {f : Addr} {fd : FuncData} (F : Fun K "_law_both" "_law_both" sBoth f fd) (T : Kls P w K mg base c) : FnOk P w K mg base CX0 3 f fd ["which", "thing", "more"] (spBoth c) := by
  obtain ⟨f0, fd0, i0, t0, G0, bp0, bk0⟩ := T.k0.ini
  obtain ⟨f1, fd1, i1, t1, G1, bp1, bk1⟩ := T.k1.ini
  obtain ⟨f2, fd2, i2, t2, G2, bp2, bk2⟩ := T.k2.ini
  obtain ⟨f3, fd3, i3, t3, G3, bp3, bk3⟩ := T.k3.ini
  obtain ⟨f4, fd4, i4, t4, G4, bp4, bk4⟩ := T.k4.ini
  obtain ⟨f5, fd5, i5, t5, G5, bp5, bk5⟩ := T.k5.ini
  obtain ⟨f6, fd6, i6, t6, G6, bp6, bk6⟩ := T.k6.ini
  obtain ⟨f7, fd7, i7, t7, G7, bp7, bk7⟩ := T.k7.ini
  obtain ⟨f8, fd8, i8, t8, G8, bp8, bk8⟩ := T.k8.ini
  obtain ⟨f9, fd9, i9, t9, G9, bp9, bk9⟩ := T.k9.ini
  obtain ⟨f10, fd10, i10, t10, G10, bp10, bk10⟩ := T.k10.ini
  obtain ⟨f11, fd11, i11, t11, G11, bp11, bk11⟩ := T.k11.ini
  obtain ⟨f13, fd13, i13, t13, G13, bp13, bk13⟩ := T.k13.ini
  obtain ⟨f12, fd12, i12, t12, G12, bp12, bk12, br12, bm12⟩ := T.k12.ini
  refine F.ok scBoth (fun vs H Q E h => ?_) (fun cdv A outer s H vs Q E hr h => ?_)
  · obtain ⟨w, x, y, rfl, _⟩ := h
    rfl
  · obtain ⟨w, x, y, rfl, hw, q⟩ := h
    refine ⟨_, pss_cons (ps_if (pt_cmpR op_eq (pv 0) pe_int (nomark _)) (pss_one (ps_ret (pe_lst (pa_cons (pe_err T.k0.v.oex i0 t0 G0 hr rfl T.k0.g bp0 pass0 (pa_cons (pv 1) pa_nil)) (pa_cons (pe_errK0 T.k0.v.oex i0 t0 G0 hr rfl T.k0.g bk0 pass0 (pk_cons (pv 1) pk_nil)) pa_nil))))) pss_nil)
      (pss_cons (ps_if (pt_cmpR op_eq (pv 0) pe_int (nomark _)) (pss_one (ps_ret (pe_lst (pa_cons (pe_err T.k1.v.oex i1 t1 G1 hr rfl T.k1.g bp1 pass0 (pa_cons (pv 1) pa_nil)) (pa_cons (pe_errK0 T.k1.v.oex i1 t1 G1 hr rfl T.k1.g bk1 pass0 (pk_cons (pv 1) pk_nil)) pa_nil))))) pss_nil)
      (pss_cons (ps_if (pt_cmpR op_eq (pv 0) pe_int (nomark _)) (pss_one (ps_ret (pe_lst (pa_cons (pe_err T.k2.v.oex i2 t2 G2 hr rfl T.k2.g bp2 pass0 (pa_cons (pv 1) pa_nil)) (pa_cons (pe_errK0 T.k2.v.oex i2 t2 G2 hr rfl T.k2.g bk2 pass0 (pk_cons (pv 1) pk_nil)) pa_nil))))) pss_nil)
      (pss_cons (ps_if (pt_cmpR op_eq (pv 0) pe_int (nomark _)) (pss_one (ps_ret (pe_lst (pa_cons (pe_err T.k3.v.oex i3 t3 G3 hr rfl T.k3.g bp3 pass0 (pa_cons (pv 1) pa_nil)) (pa_cons (pe_errK0 T.k3.v.oex i3 t3 G3 hr rfl T.k3.g bk3 pass0 (pk_cons (pv 1) pk_nil)) pa_nil))))) pss_nil)
      (pss_cons (ps_if (pt_cmpR op_eq (pv 0) pe_int (nomark _)) (pss_one (ps_ret (pe_lst (pa_cons (pe_err T.k4.v.oex i4 t4 G4 hr rfl T.k4.g bp4 pass0 (pa_cons (pv 1) pa_nil)) (pa_cons (pe_errK0 T.k4.v.oex i4 t4 G4 hr rfl T.k4.g bk4 pass0 (pk_cons (pv 1) pk_nil)) pa_nil))))) pss_nil)
      (pss_cons (ps_if (pt_cmpR op_eq (pv 0) pe_int (nomark _)) (pss_one (ps_ret (pe_lst (pa_cons (pe_err T.k5.v.oex i5 t5 G5 hr rfl T.k5.g bp5 pass0 (pa_cons (pv 1) pa_nil)) (pa_cons (pe_errK0 T.k5.v.oex i5 t5 G5 hr rfl T.k5.g bk5 pass0 (pk_cons (pv 1) pk_nil)) pa_nil))))) pss_nil)
      (pss_cons (ps_if (pt_cmpR op_eq (pv 0) pe_int (nomark _)) (pss_one (ps_ret (pe_lst (pa_cons (pe_err T.k6.v.oex i6 t6 G6 hr rfl T.k6.g bp6 pass0 (pa_cons (pv 1) pa_nil)) (pa_cons (pe_errK0 T.k6.v.oex i6 t6 G6 hr rfl T.k6.g bk6 pass0 (pk_cons (pv 1) pk_nil)) pa_nil))))) pss_nil)
      (pss_cons (ps_if (pt_cmpR op_eq (pv 0) pe_int (nomark _)) (pss_one (ps_ret (pe_lst (pa_cons (pe_err T.k7.v.oex i7 t7 G7 hr rfl T.k7.g bp7 pass0 (pa_cons (pv 1) pa_nil)) (pa_cons (pe_errK0 T.k7.v.oex i7 t7 G7 hr rfl T.k7.g bk7 pass0 (pk_cons (pv 1) pk_nil)) pa_nil))))) pss_nil)
      (pss_cons (ps_if (pt_cmpR op_eq (pv 0) pe_int (nomark _)) (pss_one (ps_ret (pe_lst (pa_cons (pe_err T.k8.v.oex i8 t8 G8 hr rfl T.k8.g bp8 pass0 (pa_cons (pv 1) pa_nil)) (pa_cons (pe_errK0 T.k8.v.oex i8 t8 G8 hr rfl T.k8.g bk8 pass0 (pk_cons (pv 1) pk_nil)) pa_nil))))) pss_nil)
      (pss_cons (ps_if (pt_cmpR op_eq (pv 0) pe_int (nomark _)) (pss_one (ps_ret (pe_lst (pa_cons (pe_err T.k9.v.oex i9 t9 G9 hr rfl T.k9.g bp9 pass0 (pa_cons (pv 1) pa_nil)) (pa_cons (pe_errK0 T.k9.v.oex i9 t9 G9 hr rfl T.k9.g bk9 pass0 (pk_cons (pv 1) pk_nil)) pa_nil))))) pss_nil)
      (pss_cons (ps_if (pt_cmpR op_eq (pv 0) pe_int (nomark _)) (pss_one (ps_ret (pe_lst (pa_cons (pe_err T.k10.v.oex i10 t10 G10 hr rfl T.k10.g bp10 pass0 (pa_cons (pv 1) pa_nil)) (pa_cons (pe_errK0 T.k10.v.oex i10 t10 G10 hr rfl T.k10.g bk10 pass0 (pk_cons (pv 1) pk_nil)) pa_nil))))) pss_nil)
      (pss_cons (ps_if (pt_cmpR op_eq (pv 0) pe_int (nomark _)) (pss_one (ps_ret (pe_lst (pa_cons (pe_err T.k11.v.oex i11 t11 G11 hr rfl T.k11.g bp11 pass0 (pa_cons (pv 1) pa_nil)) (pa_cons (pe_errK0 T.k11.v.oex i11 t11 G11 hr rfl T.k11.g bk11 pass0 (pk_cons (pv 1) pk_nil)) pa_nil))))) pss_nil)
      (pss_cons (ps_if (pt_cmpR op_eq (pv 0) pe_int (nomark _)) (pss_cons (ps_set (i := 3) scBoth.nd rfl (Or.inl rfl) (pe_lst (pa_cons (pe_err T.k12.v.oex i12 t12 G12 hr rfl T.k12.g bp12 pass0 (pa_cons (pv 1) (pa_cons (pv 2) pa_nil))) (pa_cons (pe_errK0 T.k12.v.oex i12 t12 G12 hr rfl T.k12.g bk12 pass0 (pk_cons (pv 1) (pk_cons (pv 2) pk_nil))) pa_nil)))) (pss_one (ps_ret (pe_op op_cat (pv 3) (pe_lst (pa_cons (pe_errK0 T.k12.v.oex i12 t12 G12 hr rfl T.k12.g br12 pass0 (pk_cons (pv 2) (pk_cons (pv 1) pk_nil))) (pa_cons (pe_errK T.k12.v.oex i12 t12 G12 hr rfl T.k12.g bm12 pass0 (pa_cons (pv 1) pa_nil) (pk_cons (pv 2) pk_nil)) pa_nil))))))) pss_nil)
      (pss_cons (ps_if (pt_cmpR op_eq (pv 0) pe_int (nomark _)) (pss_one (ps_ret (pe_lst (pa_cons (pe_err T.k13.v.oex i13 t13 G13 hr rfl T.k13.g bp13 pass0 (pa_cons (pv 1) pa_nil)) (pa_cons (pe_errK0 T.k13.v.oex i13 t13 G13 hr rfl T.k13.g bk13 pass0 (pk_cons (pv 1) pk_nil)) pa_nil))))) pss_nil)
      (pss_one (ps_ret (pe_lst (pa_cons (pe_err0 PySem.F.excBase_ValueError T.x14 T.g14 T.v14.oex.kC rfl) (pa_cons (pe_err0 PySem.F.excBase_ValueError T.x14 T.g14 T.v14.oex.kC rfl) pa_nil)))))))))))))))))), ?_⟩
    refine ⟨_, rfl, rfl, _, rfl, ?_⟩
    refine ite2 (fun h0 => ?_) (fun h0 => ?_)
    · obtain rfl := eq_w (k := 0) h0
      refine ⟨_, rfl, rfl, by decide, rfl, fun a ha => ⟨a, _, _, rfl, T.k0.v.oex, T.k0.no, upd_same, fun dx hd ne => ⟨rfl, _, rfl, rfl, by decide, rfl, fun b hb => ⟨b, _, _, rfl, T.k0.v.oex, T.k0.no, upd_same, fun dy he nf => ⟨rfl, (by show 2 ≤ sizeLine; decide), fun p hp => ?_⟩⟩⟩⟩⟩
      have m1 := made1 (fs := [("value", x)]) ha hd ne
      have m2 := made1 (fs := [("value", x)]) hb he nf
      exact both_end (H3 := H) m1.1 (errOk1 (by decide) (by decide) rfl rfl m1.2) m2.1 (errOk1 (by decide) (by decide) rfl rfl m2.2) hp (by decide) q
    refine ⟨_, rfl, rfl, _, rfl, ?_⟩
    refine ite2 (fun h1 => ?_) (fun h1 => ?_)
    · obtain rfl := eq_w (k := 1) h1
      refine ⟨_, rfl, rfl, by decide, rfl, fun a ha => ⟨a, _, _, rfl, T.k1.v.oex, T.k1.no, upd_same, fun dx hd ne => ⟨rfl, _, rfl, rfl, by decide, rfl, fun b hb => ⟨b, _, _, rfl, T.k1.v.oex, T.k1.no, upd_same, fun dy he nf => ⟨rfl, (by show 2 ≤ sizeLine; decide), fun p hp => ?_⟩⟩⟩⟩⟩
      have m1 := made1 (fs := [("name", x)]) ha hd ne
      have m2 := made1 (fs := [("name", x)]) hb he nf
      exact both_end (H3 := H) m1.1 (errOk1 (by decide) (by decide) rfl rfl m1.2) m2.1 (errOk1 (by decide) (by decide) rfl rfl m2.2) hp (by decide) q
    refine ⟨_, rfl, rfl, _, rfl, ?_⟩
    refine ite2 (fun h2 => ?_) (fun h2 => ?_)
    · obtain rfl := eq_w (k := 2) h2
      refine ⟨_, rfl, rfl, by decide, rfl, fun a ha => ⟨a, _, _, rfl, T.k2.v.oex, T.k2.no, upd_same, fun dx hd ne => ⟨rfl, _, rfl, rfl, by decide, rfl, fun b hb => ⟨b, _, _, rfl, T.k2.v.oex, T.k2.no, upd_same, fun dy he nf => ⟨rfl, (by show 2 ≤ sizeLine; decide), fun p hp => ?_⟩⟩⟩⟩⟩
      have m1 := made1 (fs := [("name", x)]) ha hd ne
      have m2 := made1 (fs := [("name", x)]) hb he nf
      exact both_end (H3 := H) m1.1 (errOk1 (by decide) (by decide) rfl rfl m1.2) m2.1 (errOk1 (by decide) (by decide) rfl rfl m2.2) hp (by decide) q
    refine ⟨_, rfl, rfl, _, rfl, ?_⟩
    refine ite2 (fun h3 => ?_) (fun h3 => ?_)
    · obtain rfl := eq_w (k := 3) h3
      refine ⟨_, rfl, rfl, by decide, rfl, fun a ha => ⟨a, _, _, rfl, T.k3.v.oex, T.k3.no, upd_same, fun dx hd ne => ⟨rfl, _, rfl, rfl, by decide, rfl, fun b hb => ⟨b, _, _, rfl, T.k3.v.oex, T.k3.no, upd_same, fun dy he nf => ⟨rfl, (by show 2 ≤ sizeLine; decide), fun p hp => ?_⟩⟩⟩⟩⟩
      have m1 := made1 (fs := [("value", x)]) ha hd ne
      have m2 := made1 (fs := [("value", x)]) hb he nf
      exact both_end (H3 := H) m1.1 (errOk1 (by decide) (by decide) rfl rfl m1.2) m2.1 (errOk1 (by decide) (by decide) rfl rfl m2.2) hp (by decide) q
    refine ⟨_, rfl, rfl, _, rfl, ?_⟩
    refine ite2 (fun h4 => ?_) (fun h4 => ?_)
    · obtain rfl := eq_w (k := 4) h4
      refine ⟨_, rfl, rfl, by decide, rfl, fun a ha => ⟨a, _, _, rfl, T.k4.v.oex, T.k4.no, upd_same, fun dx hd ne => ⟨rfl, _, rfl, rfl, by decide, rfl, fun b hb => ⟨b, _, _, rfl, T.k4.v.oex, T.k4.no, upd_same, fun dy he nf => ⟨rfl, (by show 2 ≤ sizeLine; decide), fun p hp => ?_⟩⟩⟩⟩⟩
      have m1 := made1 (fs := [("part", x)]) ha hd ne
      have m2 := made1 (fs := [("part", x)]) hb he nf
      exact both_end (H3 := H) m1.1 (errOk1 (by decide) (by decide) rfl rfl m1.2) m2.1 (errOk1 (by decide) (by decide) rfl rfl m2.2) hp (by decide) q
    refine ⟨_, rfl, rfl, _, rfl, ?_⟩
    refine ite2 (fun h5 => ?_) (fun h5 => ?_)
    · obtain rfl := eq_w (k := 5) h5
      refine ⟨_, rfl, rfl, by decide, rfl, fun a ha => ⟨a, _, _, rfl, T.k5.v.oex, T.k5.no, upd_same, fun dx hd ne => ⟨rfl, _, rfl, rfl, by decide, rfl, fun b hb => ⟨b, _, _, rfl, T.k5.v.oex, T.k5.no, upd_same, fun dy he nf => ⟨rfl, (by show 2 ≤ sizeLine; decide), fun p hp => ?_⟩⟩⟩⟩⟩
      have m1 := made1 (fs := [("name", x)]) ha hd ne
      have m2 := made1 (fs := [("name", x)]) hb he nf
      exact both_end (H3 := H) m1.1 (errOk1 (by decide) (by decide) rfl rfl m1.2) m2.1 (errOk1 (by decide) (by decide) rfl rfl m2.2) hp (by decide) q
    refine ⟨_, rfl, rfl, _, rfl, ?_⟩
    refine ite2 (fun h6 => ?_) (fun h6 => ?_)
    · obtain rfl := eq_w (k := 6) h6
      refine ⟨_, rfl, rfl, by decide, rfl, fun a ha => ⟨a, _, _, rfl, T.k6.v.oex, T.k6.no, upd_same, fun dx hd ne => ⟨rfl, _, rfl, rfl, by decide, rfl, fun b hb => ⟨b, _, _, rfl, T.k6.v.oex, T.k6.no, upd_same, fun dy he nf => ⟨rfl, (by show 2 ≤ sizeLine; decide), fun p hp => ?_⟩⟩⟩⟩⟩
      have m1 := made1 (fs := [("turns", x)]) ha hd ne
      have m2 := made1 (fs := [("turns", x)]) hb he nf
      exact both_end (H3 := H) m1.1 (errOk1 (by decide) (by decide) rfl rfl m1.2) m2.1 (errOk1 (by decide) (by decide) rfl rfl m2.2) hp (by decide) q
    refine ⟨_, rfl, rfl, _, rfl, ?_⟩
    refine ite2 (fun h7 => ?_) (fun h7 => ?_)
    · obtain rfl := eq_w (k := 7) h7
      refine ⟨_, rfl, rfl, by decide, rfl, fun a ha => ⟨a, _, _, rfl, T.k7.v.oex, T.k7.no, upd_same, fun dx hd ne => ⟨rfl, _, rfl, rfl, by decide, rfl, fun b hb => ⟨b, _, _, rfl, T.k7.v.oex, T.k7.no, upd_same, fun dy he nf => ⟨rfl, (by show 2 ≤ sizeLine; decide), fun p hp => ?_⟩⟩⟩⟩⟩
      have m1 := made1 (fs := [("load", x)]) ha hd ne
      have m2 := made1 (fs := [("load", x)]) hb he nf
      exact both_end (H3 := H) m1.1 (errOk1 (by decide) (by decide) rfl rfl m1.2) m2.1 (errOk1 (by decide) (by decide) rfl rfl m2.2) hp (by decide) q
    refine ⟨_, rfl, rfl, _, rfl, ?_⟩
    refine ite2 (fun h8 => ?_) (fun h8 => ?_)
    · obtain rfl := eq_w (k := 8) h8
      refine ⟨_, rfl, rfl, by decide, rfl, fun a ha => ⟨a, _, _, rfl, T.k8.v.oex, T.k8.no, upd_same, fun dx hd ne => ⟨rfl, _, rfl, rfl, by decide, rfl, fun b hb => ⟨b, _, _, rfl, T.k8.v.oex, T.k8.no, upd_same, fun dy he nf => ⟨rfl, (by show 2 ≤ sizeLine; decide), fun p hp => ?_⟩⟩⟩⟩⟩
      have m1 := made1 (fs := [("wishes", x)]) ha hd ne
      have m2 := made1 (fs := [("wishes", x)]) hb he nf
      exact both_end (H3 := H) m1.1 (errOk1 (by decide) (by decide) rfl rfl m1.2) m2.1 (errOk1 (by decide) (by decide) rfl rfl m2.2) hp (by decide) q
    refine ⟨_, rfl, rfl, _, rfl, ?_⟩
    refine ite2 (fun h9 => ?_) (fun h9 => ?_)
    · obtain rfl := eq_w (k := 9) h9
      refine ⟨_, rfl, rfl, by decide, rfl, fun a ha => ⟨a, _, _, rfl, T.k9.v.oex, T.k9.no, upd_same, fun dx hd ne => ⟨rfl, _, rfl, rfl, by decide, rfl, fun b hb => ⟨b, _, _, rfl, T.k9.v.oex, T.k9.no, upd_same, fun dy he nf => ⟨rfl, (by show 2 ≤ sizeLine; decide), fun p hp => ?_⟩⟩⟩⟩⟩
      have m1 := made1 (fs := [("forces", x)]) ha hd ne
      have m2 := made1 (fs := [("forces", x)]) hb he nf
      exact both_end (H3 := H) m1.1 (errOk1 (by decide) (by decide) rfl rfl m1.2) m2.1 (errOk1 (by decide) (by decide) rfl rfl m2.2) hp (by decide) q
    refine ⟨_, rfl, rfl, _, rfl, ?_⟩
    refine ite2 (fun h10 => ?_) (fun h10 => ?_)
    · obtain rfl := eq_w (k := 10) h10
      refine ⟨_, rfl, rfl, by decide, rfl, fun a ha => ⟨a, _, _, rfl, T.k10.v.oex, T.k10.no, upd_same, fun dx hd ne => ⟨rfl, _, rfl, rfl, by decide, rfl, fun b hb => ⟨b, _, _, rfl, T.k10.v.oex, T.k10.no, upd_same, fun dy he nf => ⟨rfl, (by show 2 ≤ sizeLine; decide), fun p hp => ?_⟩⟩⟩⟩⟩
      have m1 := made1 (fs := [("name", x)]) ha hd ne
      have m2 := made1 (fs := [("name", x)]) hb he nf
      exact both_end (H3 := H) m1.1 (errOk1 (by decide) (by decide) rfl rfl m1.2) m2.1 (errOk1 (by decide) (by decide) rfl rfl m2.2) hp (by decide) q
    refine ⟨_, rfl, rfl, _, rfl, ?_⟩
    refine ite2 (fun h11 => ?_) (fun h11 => ?_)
    · obtain rfl := eq_w (k := 11) h11
      refine ⟨_, rfl, rfl, by decide, rfl, fun a ha => ⟨a, _, _, rfl, T.k11.v.oex, T.k11.no, upd_same, fun dx hd ne => ⟨rfl, _, rfl, rfl, by decide, rfl, fun b hb => ⟨b, _, _, rfl, T.k11.v.oex, T.k11.no, upd_same, fun dy he nf => ⟨rfl, (by show 2 ≤ sizeLine; decide), fun p hp => ?_⟩⟩⟩⟩⟩
      have m1 := made1 (fs := [("value", x)]) ha hd ne
      have m2 := made1 (fs := [("value", x)]) hb he nf
      exact both_end (H3 := H) m1.1 (errOk1 (by decide) (by decide) rfl rfl m1.2) m2.1 (errOk1 (by decide) (by decide) rfl rfl m2.2) hp (by decide) q
    refine ⟨_, rfl, rfl, _, rfl, ?_⟩
    refine ite2 (fun h12 => ?_) (fun h12 => ?_)
    · obtain rfl := eq_w (k := 12) h12
      refine ⟨_, rfl, _, rfl, rfl, by decide, rfl, fun a ha => ⟨a, _, _, _, rfl, T.k12.v.oex, T.k12.no, T.k12.no2, upd_same, fun da hda na => ⟨rfl, _, rfl, _, rfl, rfl, by decide, rfl, fun b hb => ⟨b, _, _, _, rfl, T.k12.v.oex, T.k12.no, T.k12.no2, upd_same, fun db hdb nb => ⟨rfl, (by show 2 ≤ sizeLine; decide), fun l hl => ?_⟩⟩⟩⟩⟩
      refine ⟨_, rfl, _, rfl, _, rfl, rfl, by decide, rfl, fun d hd => ⟨d, _, _, _, rfl, T.k12.v.oex, T.k12.no, T.k12.no2, upd_same, fun dd hdd nd => ⟨rfl, _, rfl, _, rfl, rfl, by decide, rfl, fun e he => ⟨e, _, _, _, rfl, T.k12.v.oex, T.k12.no, T.k12.no2, upd_same, fun de hde ne => ⟨rfl, (by show 2 ≤ sizeLine; decide), fun l2 hl2 => ?_⟩⟩⟩⟩⟩
      have m1 := made2 (fs := [("load", x)]) (gs := [("forces", y), ("load", x)]) ha hda na
      have m2 := made2 (fs := [("load", x)]) (gs := [("forces", y), ("load", x)]) hb hdb nb
      have s3 := same_new (o := .lst [.ref a, .ref b]) hl
      have m4 := made2 (fs := [("load", x)]) (gs := [("forces", y), ("load", x)]) hd hdd nd
      have m5 := made2 (fs := [("load", x)]) (gs := [("forces", y), ("load", x)]) he hde ne
      have s6 := same_new (o := .lst [.ref d, .ref e]) hl2
      refine ⟨l, l2, _, _, rfl, rfl, (m4.1.trans (m5.1.trans s6)) _ _ upd_same, upd_same, (by show 4 ≤ sizeLine; decide), fun p hp => ?_⟩
      have s7 := same_new (o := .lst [.ref a, .ref b, .ref d, .ref e]) hp
      have s57 := s6.trans s7
      have s47 := m5.1.trans s57
      have s37 := m4.1.trans s47
      have s27 := s3.trans s37
      have s17 := m2.1.trans s27
      have s07 := m1.1.trans s17
      refine q _ p [a, b, d, e] s07 (((((m1.1.trans m2.1).trans s3).trans m4.1).trans (m5.1.trans s6)).free hp) upd_same rfl fun z hz => ?_
      rcases List.mem_cons.mp hz with z1 | hz
      · rw [z1]
        exact (errOk2 (c := c) m1.2).mono s17
      rcases List.mem_cons.mp hz with z1 | hz
      · rw [z1]
        exact (errOk2 (c := c) m2.2).mono s27
      rcases List.mem_cons.mp hz with z1 | hz
      · rw [z1]
        exact (errOk2 (c := c) m4.2).mono s47
      · rw [List.mem_singleton.mp hz]
        exact (errOk2 (c := c) m5.2).mono s57
    refine ⟨_, rfl, rfl, _, rfl, ?_⟩
    refine ite2 (fun h13 => ?_) (fun h13 => ?_)
    · obtain rfl := eq_w (k := 13) h13
      refine ⟨_, rfl, rfl, by decide, rfl, fun a ha => ⟨a, _, _, rfl, T.k13.v.oex, T.k13.no, upd_same, fun dx hd ne => ⟨rfl, _, rfl, rfl, by decide, rfl, fun b hb => ⟨b, _, _, rfl, T.k13.v.oex, T.k13.no, upd_same, fun dy he nf => ⟨rfl, (by show 2 ≤ sizeLine; decide), fun p hp => ?_⟩⟩⟩⟩⟩
      have m1 := made1 (fs := [("names", x)]) ha hd ne
      have m2 := made1 (fs := [("names", x)]) hb he nf
      exact both_end (H3 := H) m1.1 (errOk1 (by decide) (by decide) rfl rfl m1.2) m2.1 (errOk1 (by decide) (by decide) rfl rfl m2.2) hp (by decide) q
    have hw14 : w = 14 := by
      have := ne_w (k := 0) h0
      have := ne_w (k := 1) h1
      have := ne_w (k := 2) h2
      have := ne_w (k := 3) h3
      have := ne_w (k := 4) h4
      have := ne_w (k := 5) h5
      have := ne_w (k := 6) h6
      have := ne_w (k := 7) h7
      have := ne_w (k := 8) h8
      have := ne_w (k := 9) h9
      have := ne_w (k := 10) h10
      have := ne_w (k := 11) h11
      have := ne_w (k := 12) h12
      have := ne_w (k := 13) h13
      omega
    subst hw14
    refine fun a ha => fun b hb => ⟨(by show 2 ≤ sizeLine; decide), fun p hp => ?_⟩
    exact both_end (H3 := H) (same_new ha) (errOk0 upd_same) (same_new hb) (errOk0 upd_same) hp (by decide) q
end
end Paw

set_option maxRecDepth 100000
set_option maxHeartbeats 4000000
namespace Paw
open PySem PySem.Spec PyProof.Rows L2
theorem it_t {c : Bool} {A B : Prop} (hc : c = true) (h : A) : if c = true then A else B := by
  rw [if_pos hc]
  exact h
theorem it_f {c : Bool} {A B : Prop} (hc : c = false) (h : B) : if c = true then A else B := by
  rw [hc, if_neg Bool.false_ne_true]
  exact h
/-- a new list of values behind what was -/
def spVals (c : Cs) : Sp := fun vs H Q _ => ∃ (w : Nat) (x y : V) (e : Addr), vs = [.int (w : Int), .ref e] ∧ w < 15 ∧ ErrOk c H x y e w ∧
  ∀ (H' : Hp) (p : Addr), Same H H' → H p = none → H' p = some (.lst (valsOf w x y)) → Q (.ref p) H'
theorem ErrOk.one {c : Cs} {H : Hp} {x y : V} {e C : Addr} {w : Nat} {fl : Str} (h : ErrOk c H x y e w) (h1 : w ≠ 12) (h2 : w ≠ 14) (hc : c.at_ w = C) (hf : flOf w = fl) : ∃ fs, Err H e C fs ∧ fs.lookup fl = some x := by
  unfold ErrOk at h
  rw [if_neg h1, if_neg h2, hc, hf] at h
  exact h
theorem ErrOk.two {c : Cs} {H : Hp} {x y : V} {e : Addr} (h : ErrOk c H x y e 12) : ∃ fs, Err H e c.c12 fs ∧ fs.lookup ("load" : Str) = some x ∧ fs.lookup ("forces" : Str) = some y := by
  unfold ErrOk at h
  rw [if_pos rfl] at h
  exact h
section
variable {P : Program} {w : World} {K : PySem.W.Frag} {mg : Str → Option Value} {base : Heap}
theorem scVals : FnScope ["which", "error"] ["which", "error"] (defScope sVals) := ⟨rfl, rfl, rfl, by decide +kernel, rfl, by decide +kernel, by decide +kernel⟩
theorem ok_vals {c : Cs} {f : Addr} {fd : FuncData} (F : Fun K "_law_values_of" "_law_values_of" sVals f fd) (T : Kls P w K mg base c) : FnOk P w K mg base CX0 1 f fd ["which", "error"] (spVals c) := by
  refine F.ok scVals (fun vs H Q E h => ?_) (fun cdv A outer s H vs Q E hr h => ?_)
  · obtain ⟨w, x, y, e, rfl, _⟩ := h
    rfl
  · obtain ⟨w, x, y, e, rfl, hw, he, q⟩ := h
    refine ⟨_, pss_cons (ps_if (pt_cmpR op_in_seq (pv 0) (pe_lst (pa_cons pe_int (pa_cons pe_int (pa_cons pe_int pa_nil)))) (by rfl)) (pss_one (ps_ret (pe_lst (pa_cons (pe_errFld (pv 1)) pa_nil)))) pss_nil)
      (pss_cons (ps_if (pt_cmpR op_in_seq (pv 0) (pe_lst (pa_cons pe_int (pa_cons pe_int (pa_cons pe_int (pa_cons pe_int pa_nil))))) (by rfl)) (pss_one (ps_ret (pe_lst (pa_cons (pe_errFld (pv 1)) pa_nil)))) pss_nil)
      (pss_cons (ps_if (pt_cmpR op_eq (pv 0) pe_int (nomark _)) (pss_one (ps_ret (pe_lst (pa_cons (pe_errFld (pv 1)) pa_nil)))) pss_nil)
      (pss_cons (ps_if (pt_cmpR op_eq (pv 0) pe_int (nomark _)) (pss_one (ps_ret (pe_lst (pa_cons (pe_errFld (pv 1)) pa_nil)))) pss_nil)
      (pss_cons (ps_if (pt_cmpR op_eq (pv 0) pe_int (nomark _)) (pss_one (ps_ret (pe_lst (pa_cons (pe_errFld (pv 1)) pa_nil)))) pss_nil)
      (pss_cons (ps_if (pt_cmpR op_eq (pv 0) pe_int (nomark _)) (pss_one (ps_ret (pe_lst (pa_cons (pe_errFld (pv 1)) pa_nil)))) pss_nil)
      (pss_cons (ps_if (pt_cmpR op_eq (pv 0) pe_int (nomark _)) (pss_one (ps_ret (pe_lst (pa_cons (pe_errFld (pv 1)) pa_nil)))) pss_nil)
      (pss_cons (ps_if (pt_cmpR op_eq (pv 0) pe_int (nomark _)) (pss_one (ps_ret (pe_lst (pa_cons (pe_errFld (pv 1)) (pa_cons (pe_errFld (pv 1)) pa_nil))))) pss_nil)
      (pss_cons (ps_if (pt_cmpR op_eq (pv 0) pe_int (nomark _)) (pss_one (ps_ret (pe_lst (pa_cons (pe_errFld (pv 1)) pa_nil)))) pss_nil)
      (pss_one (ps_ret (pe_lst pa_nil))))))))))), ?_⟩
    have fin : ∀ (H1 : Hp) (zs : List V), Same H H1 → zs = valsOf w x y → ∀ p, H1 p = none → Q (.ref p) (upd H1 p (.lst zs)) := fun H1 zs s ez p hp => by
      refine q _ p (s.trans (same_new hp)) (s.free hp) ?_
      rw [← ez]
      exact upd_same
    match w, hw, he, fin with
    | 0, _, he, fin =>
      refine ⟨_, rfl, (by show 3 ≤ sizeLine; decide), fun l1 hl1 => ⟨l1, _, rfl, .inl (SqL.of upd_same), rfl, rfl, _, rfl, it_t (by decide +kernel) ?_⟩⟩
      have s1 := same_new (o := .lst [.int 0, .int 3, .int 11]) hl1
      obtain ⟨fs, e1, e2⟩ := (he.mono s1).one (fl := "value") (by decide) (by decide) rfl rfl
      exact ⟨_, rfl, e, _, fs, x, rfl, T.k0.v, T.k0.no, e1, e2, (by show 1 ≤ sizeLine; decide), fin _ _ s1 rfl⟩
    | 1, _, he, fin =>
      refine ⟨_, rfl, (by show 3 ≤ sizeLine; decide), fun l1 hl1 => ⟨l1, _, rfl, .inl (SqL.of upd_same), rfl, rfl, _, rfl, it_f (by decide +kernel) ?_⟩⟩
      have s1 := same_new (o := .lst [.int 0, .int 3, .int 11]) hl1
      refine ⟨_, rfl, (by show 4 ≤ sizeLine; decide), fun l2 hl2 => ⟨l2, _, rfl, .inl (SqL.of upd_same), rfl, rfl, _, rfl, it_t (by decide +kernel) ?_⟩⟩
      have s2 := same_new (o := .lst [.int 1, .int 2, .int 5, .int 10]) hl2
      obtain ⟨fs, e1, e2⟩ := (he.mono (s1.trans s2)).one (fl := "name") (by decide) (by decide) rfl rfl
      exact ⟨_, rfl, e, _, fs, x, rfl, T.k1.v, T.k1.no, e1, e2, (by show 1 ≤ sizeLine; decide), fin _ _ (s1.trans s2) rfl⟩
    | 2, _, he, fin =>
      refine ⟨_, rfl, (by show 3 ≤ sizeLine; decide), fun l1 hl1 => ⟨l1, _, rfl, .inl (SqL.of upd_same), rfl, rfl, _, rfl, it_f (by decide +kernel) ?_⟩⟩
      have s1 := same_new (o := .lst [.int 0, .int 3, .int 11]) hl1
      refine ⟨_, rfl, (by show 4 ≤ sizeLine; decide), fun l2 hl2 => ⟨l2, _, rfl, .inl (SqL.of upd_same), rfl, rfl, _, rfl, it_t (by decide +kernel) ?_⟩⟩
      have s2 := same_new (o := .lst [.int 1, .int 2, .int 5, .int 10]) hl2
      obtain ⟨fs, e1, e2⟩ := (he.mono (s1.trans s2)).one (fl := "name") (by decide) (by decide) rfl rfl
      exact ⟨_, rfl, e, _, fs, x, rfl, T.k2.v, T.k2.no, e1, e2, (by show 1 ≤ sizeLine; decide), fin _ _ (s1.trans s2) rfl⟩
    | 3, _, he, fin =>
      refine ⟨_, rfl, (by show 3 ≤ sizeLine; decide), fun l1 hl1 => ⟨l1, _, rfl, .inl (SqL.of upd_same), rfl, rfl, _, rfl, it_t (by decide +kernel) ?_⟩⟩
      have s1 := same_new (o := .lst [.int 0, .int 3, .int 11]) hl1
      obtain ⟨fs, e1, e2⟩ := (he.mono s1).one (fl := "value") (by decide) (by decide) rfl rfl
      exact ⟨_, rfl, e, _, fs, x, rfl, T.k3.v, T.k3.no, e1, e2, (by show 1 ≤ sizeLine; decide), fin _ _ s1 rfl⟩
    | 4, _, he, fin =>
      refine ⟨_, rfl, (by show 3 ≤ sizeLine; decide), fun l1 hl1 => ⟨l1, _, rfl, .inl (SqL.of upd_same), rfl, rfl, _, rfl, it_f (by decide +kernel) ?_⟩⟩
      have s1 := same_new (o := .lst [.int 0, .int 3, .int 11]) hl1
      refine ⟨_, rfl, (by show 4 ≤ sizeLine; decide), fun l2 hl2 => ⟨l2, _, rfl, .inl (SqL.of upd_same), rfl, rfl, _, rfl, it_f (by decide +kernel) ?_⟩⟩
      have s2 := same_new (o := .lst [.int 1, .int 2, .int 5, .int 10]) hl2
      refine ⟨_, rfl, rfl, _, rfl, it_t (by decide +kernel) ?_⟩
      obtain ⟨fs, e1, e2⟩ := (he.mono (s1.trans s2)).one (fl := "part") (by decide) (by decide) rfl rfl
      exact ⟨_, rfl, e, _, fs, x, rfl, T.k4.v, T.k4.no, e1, e2, (by show 1 ≤ sizeLine; decide), fin _ _ (s1.trans s2) rfl⟩
    | 5, _, he, fin =>
      refine ⟨_, rfl, (by show 3 ≤ sizeLine; decide), fun l1 hl1 => ⟨l1, _, rfl, .inl (SqL.of upd_same), rfl, rfl, _, rfl, it_f (by decide +kernel) ?_⟩⟩
      have s1 := same_new (o := .lst [.int 0, .int 3, .int 11]) hl1
      refine ⟨_, rfl, (by show 4 ≤ sizeLine; decide), fun l2 hl2 => ⟨l2, _, rfl, .inl (SqL.of upd_same), rfl, rfl, _, rfl, it_t (by decide +kernel) ?_⟩⟩
      have s2 := same_new (o := .lst [.int 1, .int 2, .int 5, .int 10]) hl2
      obtain ⟨fs, e1, e2⟩ := (he.mono (s1.trans s2)).one (fl := "name") (by decide) (by decide) rfl rfl
      exact ⟨_, rfl, e, _, fs, x, rfl, T.k5.v, T.k5.no, e1, e2, (by show 1 ≤ sizeLine; decide), fin _ _ (s1.trans s2) rfl⟩
    | 6, _, he, fin =>
      refine ⟨_, rfl, (by show 3 ≤ sizeLine; decide), fun l1 hl1 => ⟨l1, _, rfl, .inl (SqL.of upd_same), rfl, rfl, _, rfl, it_f (by decide +kernel) ?_⟩⟩
      have s1 := same_new (o := .lst [.int 0, .int 3, .int 11]) hl1
      refine ⟨_, rfl, (by show 4 ≤ sizeLine; decide), fun l2 hl2 => ⟨l2, _, rfl, .inl (SqL.of upd_same), rfl, rfl, _, rfl, it_f (by decide +kernel) ?_⟩⟩
      have s2 := same_new (o := .lst [.int 1, .int 2, .int 5, .int 10]) hl2
      refine ⟨_, rfl, rfl, _, rfl, it_f (by decide +kernel) ?_⟩
      refine ⟨_, rfl, rfl, _, rfl, it_t (by decide +kernel) ?_⟩
      obtain ⟨fs, e1, e2⟩ := (he.mono (s1.trans s2)).one (fl := "turns") (by decide) (by decide) rfl rfl
      exact ⟨_, rfl, e, _, fs, x, rfl, T.k6.v, T.k6.no, e1, e2, (by show 1 ≤ sizeLine; decide), fin _ _ (s1.trans s2) rfl⟩
    | 7, _, he, fin =>
      refine ⟨_, rfl, (by show 3 ≤ sizeLine; decide), fun l1 hl1 => ⟨l1, _, rfl, .inl (SqL.of upd_same), rfl, rfl, _, rfl, it_f (by decide +kernel) ?_⟩⟩
      have s1 := same_new (o := .lst [.int 0, .int 3, .int 11]) hl1
      refine ⟨_, rfl, (by show 4 ≤ sizeLine; decide), fun l2 hl2 => ⟨l2, _, rfl, .inl (SqL.of upd_same), rfl, rfl, _, rfl, it_f (by decide +kernel) ?_⟩⟩
      have s2 := same_new (o := .lst [.int 1, .int 2, .int 5, .int 10]) hl2
      refine ⟨_, rfl, rfl, _, rfl, it_f (by decide +kernel) ?_⟩
      refine ⟨_, rfl, rfl, _, rfl, it_f (by decide +kernel) ?_⟩
      refine ⟨_, rfl, rfl, _, rfl, it_t (by decide +kernel) ?_⟩
      obtain ⟨fs, e1, e2⟩ := (he.mono (s1.trans s2)).one (fl := "load") (by decide) (by decide) rfl rfl
      exact ⟨_, rfl, e, _, fs, x, rfl, T.k7.v, T.k7.no, e1, e2, (by show 1 ≤ sizeLine; decide), fin _ _ (s1.trans s2) rfl⟩
    | 8, _, he, fin =>
      refine ⟨_, rfl, (by show 3 ≤ sizeLine; decide), fun l1 hl1 => ⟨l1, _, rfl, .inl (SqL.of upd_same), rfl, rfl, _, rfl, it_f (by decide +kernel) ?_⟩⟩
      have s1 := same_new (o := .lst [.int 0, .int 3, .int 11]) hl1
      refine ⟨_, rfl, (by show 4 ≤ sizeLine; decide), fun l2 hl2 => ⟨l2, _, rfl, .inl (SqL.of upd_same), rfl, rfl, _, rfl, it_f (by decide +kernel) ?_⟩⟩
      have s2 := same_new (o := .lst [.int 1, .int 2, .int 5, .int 10]) hl2
      refine ⟨_, rfl, rfl, _, rfl, it_f (by decide +kernel) ?_⟩
      refine ⟨_, rfl, rfl, _, rfl, it_f (by decide +kernel) ?_⟩
      refine ⟨_, rfl, rfl, _, rfl, it_f (by decide +kernel) ?_⟩
      refine ⟨_, rfl, rfl, _, rfl, it_t (by decide +kernel) ?_⟩
      obtain ⟨fs, e1, e2⟩ := (he.mono (s1.trans s2)).one (fl := "wishes") (by decide) (by decide) rfl rfl
      exact ⟨_, rfl, e, _, fs, x, rfl, T.k8.v, T.k8.no, e1, e2, (by show 1 ≤ sizeLine; decide), fin _ _ (s1.trans s2) rfl⟩
    | 9, _, he, fin =>
      refine ⟨_, rfl, (by show 3 ≤ sizeLine; decide), fun l1 hl1 => ⟨l1, _, rfl, .inl (SqL.of upd_same), rfl, rfl, _, rfl, it_f (by decide +kernel) ?_⟩⟩
      have s1 := same_new (o := .lst [.int 0, .int 3, .int 11]) hl1
      refine ⟨_, rfl, (by show 4 ≤ sizeLine; decide), fun l2 hl2 => ⟨l2, _, rfl, .inl (SqL.of upd_same), rfl, rfl, _, rfl, it_f (by decide +kernel) ?_⟩⟩
      have s2 := same_new (o := .lst [.int 1, .int 2, .int 5, .int 10]) hl2
      refine ⟨_, rfl, rfl, _, rfl, it_f (by decide +kernel) ?_⟩
      refine ⟨_, rfl, rfl, _, rfl, it_f (by decide +kernel) ?_⟩
      refine ⟨_, rfl, rfl, _, rfl, it_f (by decide +kernel) ?_⟩
      refine ⟨_, rfl, rfl, _, rfl, it_f (by decide +kernel) ?_⟩
      refine ⟨_, rfl, rfl, _, rfl, it_t (by decide +kernel) ?_⟩
      obtain ⟨fs, e1, e2⟩ := (he.mono (s1.trans s2)).one (fl := "forces") (by decide) (by decide) rfl rfl
      exact ⟨_, rfl, e, _, fs, x, rfl, T.k9.v, T.k9.no, e1, e2, (by show 1 ≤ sizeLine; decide), fin _ _ (s1.trans s2) rfl⟩
    | 10, _, he, fin =>
      refine ⟨_, rfl, (by show 3 ≤ sizeLine; decide), fun l1 hl1 => ⟨l1, _, rfl, .inl (SqL.of upd_same), rfl, rfl, _, rfl, it_f (by decide +kernel) ?_⟩⟩
      have s1 := same_new (o := .lst [.int 0, .int 3, .int 11]) hl1
      refine ⟨_, rfl, (by show 4 ≤ sizeLine; decide), fun l2 hl2 => ⟨l2, _, rfl, .inl (SqL.of upd_same), rfl, rfl, _, rfl, it_t (by decide +kernel) ?_⟩⟩
      have s2 := same_new (o := .lst [.int 1, .int 2, .int 5, .int 10]) hl2
      obtain ⟨fs, e1, e2⟩ := (he.mono (s1.trans s2)).one (fl := "name") (by decide) (by decide) rfl rfl
      exact ⟨_, rfl, e, _, fs, x, rfl, T.k10.v, T.k10.no, e1, e2, (by show 1 ≤ sizeLine; decide), fin _ _ (s1.trans s2) rfl⟩
    | 11, _, he, fin =>
      refine ⟨_, rfl, (by show 3 ≤ sizeLine; decide), fun l1 hl1 => ⟨l1, _, rfl, .inl (SqL.of upd_same), rfl, rfl, _, rfl, it_t (by decide +kernel) ?_⟩⟩
      have s1 := same_new (o := .lst [.int 0, .int 3, .int 11]) hl1
      obtain ⟨fs, e1, e2⟩ := (he.mono s1).one (fl := "value") (by decide) (by decide) rfl rfl
      exact ⟨_, rfl, e, _, fs, x, rfl, T.k11.v, T.k11.no, e1, e2, (by show 1 ≤ sizeLine; decide), fin _ _ s1 rfl⟩
    | 12, _, he, fin =>
      refine ⟨_, rfl, (by show 3 ≤ sizeLine; decide), fun l1 hl1 => ⟨l1, _, rfl, .inl (SqL.of upd_same), rfl, rfl, _, rfl, it_f (by decide +kernel) ?_⟩⟩
      have s1 := same_new (o := .lst [.int 0, .int 3, .int 11]) hl1
      refine ⟨_, rfl, (by show 4 ≤ sizeLine; decide), fun l2 hl2 => ⟨l2, _, rfl, .inl (SqL.of upd_same), rfl, rfl, _, rfl, it_f (by decide +kernel) ?_⟩⟩
      have s2 := same_new (o := .lst [.int 1, .int 2, .int 5, .int 10]) hl2
      refine ⟨_, rfl, rfl, _, rfl, it_f (by decide +kernel) ?_⟩
      refine ⟨_, rfl, rfl, _, rfl, it_f (by decide +kernel) ?_⟩
      refine ⟨_, rfl, rfl, _, rfl, it_f (by decide +kernel) ?_⟩
      refine ⟨_, rfl, rfl, _, rfl, it_f (by decide +kernel) ?_⟩
      refine ⟨_, rfl, rfl, _, rfl, it_f (by decide +kernel) ?_⟩
      refine ⟨_, rfl, rfl, _, rfl, it_t (by decide +kernel) ?_⟩
      obtain ⟨fs, e1, e2, e3⟩ := (he.mono (s1.trans s2)).two
      exact ⟨_, rfl, e, _, fs, x, rfl, T.k12.v, T.k12.no, e1, e2, _, rfl, e, _, fs, y, rfl, T.k12.v, T.k12.no2, e1, e3, (by show 2 ≤ sizeLine; decide), fin _ _ (s1.trans s2) rfl⟩
    | 13, _, he, fin =>
      refine ⟨_, rfl, (by show 3 ≤ sizeLine; decide), fun l1 hl1 => ⟨l1, _, rfl, .inl (SqL.of upd_same), rfl, rfl, _, rfl, it_f (by decide +kernel) ?_⟩⟩
      have s1 := same_new (o := .lst [.int 0, .int 3, .int 11]) hl1
      refine ⟨_, rfl, (by show 4 ≤ sizeLine; decide), fun l2 hl2 => ⟨l2, _, rfl, .inl (SqL.of upd_same), rfl, rfl, _, rfl, it_f (by decide +kernel) ?_⟩⟩
      have s2 := same_new (o := .lst [.int 1, .int 2, .int 5, .int 10]) hl2
      refine ⟨_, rfl, rfl, _, rfl, it_f (by decide +kernel) ?_⟩
      refine ⟨_, rfl, rfl, _, rfl, it_f (by decide +kernel) ?_⟩
      refine ⟨_, rfl, rfl, _, rfl, it_f (by decide +kernel) ?_⟩
      refine ⟨_, rfl, rfl, _, rfl, it_f (by decide +kernel) ?_⟩
      refine ⟨_, rfl, rfl, _, rfl, it_f (by decide +kernel) ?_⟩
      refine ⟨_, rfl, rfl, _, rfl, it_f (by decide +kernel) ?_⟩
      refine ⟨_, rfl, rfl, _, rfl, it_t (by decide +kernel) ?_⟩
      obtain ⟨fs, e1, e2⟩ := (he.mono (s1.trans s2)).one (fl := "names") (by decide) (by decide) rfl rfl
      exact ⟨_, rfl, e, _, fs, x, rfl, T.k13.v, T.k13.no, e1, e2, (by show 1 ≤ sizeLine; decide), fin _ _ (s1.trans s2) rfl⟩
    | 14, _, he, fin =>
      refine ⟨_, rfl, (by show 3 ≤ sizeLine; decide), fun l1 hl1 => ⟨l1, _, rfl, .inl (SqL.of upd_same), rfl, rfl, _, rfl, it_f (by decide +kernel) ?_⟩⟩
      have s1 := same_new (o := .lst [.int 0, .int 3, .int 11]) hl1
      refine ⟨_, rfl, (by show 4 ≤ sizeLine; decide), fun l2 hl2 => ⟨l2, _, rfl, .inl (SqL.of upd_same), rfl, rfl, _, rfl, it_f (by decide +kernel) ?_⟩⟩
      have s2 := same_new (o := .lst [.int 1, .int 2, .int 5, .int 10]) hl2
      refine ⟨_, rfl, rfl, _, rfl, it_f (by decide +kernel) ?_⟩
      refine ⟨_, rfl, rfl, _, rfl, it_f (by decide +kernel) ?_⟩
      refine ⟨_, rfl, rfl, _, rfl, it_f (by decide +kernel) ?_⟩
      refine ⟨_, rfl, rfl, _, rfl, it_f (by decide +kernel) ?_⟩
      refine ⟨_, rfl, rfl, _, rfl, it_f (by decide +kernel) ?_⟩
      refine ⟨_, rfl, rfl, _, rfl, it_f (by decide +kernel) ?_⟩
      refine ⟨_, rfl, rfl, _, rfl, it_f (by decide +kernel) ?_⟩
      exact ⟨(by show 0 ≤ sizeLine; decide), fin _ _ (s1.trans s2) rfl⟩
    | n + 15, hw, _, _ => exact absurd hw (by omega)
end
end Paw

set_option maxRecDepth 100000
set_option maxHeartbeats 4000000
namespace Paw
open PySem PySem.Spec PyProof.Rows L2
/-- what isinstance says of these classes -/
structure Kit (K : PySem.W.Frag) (c : Cs) (C : Addr) : Prop where
  own : ∀ w v, w < 15 → v < 15 → PySem.W.kitOne K (.ref (c.at_ w)) (.ref (c.at_ v)) = some (decide (w = v))
  hall : ∀ w, w < 15 → PySem.W.kitOne K (.ref (c.at_ w)) (.ref C) = some true
  val : ∀ w, w < 15 → PySem.W.kitOne K (.ref (c.at_ w)) (.type "ValueError") = some true
  ev : ∀ w, w < 15 → ExV K (c.at_ w)
def spKinds (c : Cs) : Sp := fun vs H Q _ => ∃ (w : Nat) (e : Addr), vs = [.ref e] ∧ w < 15 ∧ ErrAny H e (c.at_ w) ∧ ∀ (H' : Hp) (p : Addr), Same H H' → H p = none → H' p = some (.lst [.int (w : Int)]) → Q (.ref p) H'
section
variable {P : Program} {w : World} {K : PySem.W.Frag} {mg : Str → Option Value} {base : Heap}
theorem scKinds : FnScope ["error", "some", "k", "truth"] ["error"] (defScope sKinds) := ⟨rfl, rfl, rfl, by decide +kernel, rfl, by decide +kernel, by decide +kernel⟩
def truths (w : Nat) : List V := (List.range 15).map fun i => V.bl (decide (w = i))
theorem truths_at {w i : Nat} (h : i < 15) : (truths w)[i]? = some (.bl (decide (w = i))) := by
  unfold truths
  rw [List.getElem?_map, List.getElem?_range h]
  rfl
theorem ok_kinds {c : Cs} {C : Addr} {f : Addr} {fd : FuncData} (F : Fun K "_law_kinds" "_law_kinds" sKinds f fd) (T : Kls P w K mg base c) (kit : Kit K c C) (zi : mg "isinstance" = none) (ze : mg "enumerate" = none) : FnOk P w K mg base CX0 1 f fd ["error"] (spKinds c) := by
  refine F.ok scKinds (fun vs H Q E h => ?_) (fun cdv A outer s H vs Q E hr h => ?_)
  · obtain ⟨w, e, rfl, _⟩ := h
    rfl
  · obtain ⟨w, e, rfl, hw, he, q⟩ := h
    refine ⟨_, pss_cons (ps_set (i := 1) scKinds.nd rfl (Or.inl rfl) (pe_lst (pa_cons (pe_callB call_errIs (by rfl) zi bt_isinstance (pa_cons (pv 0) (pa_cons (pe_glob (v := .ref c.c0) rfl T.k0.g rfl) pa_nil))) (pa_cons (pe_callB call_errIs (by rfl) zi bt_isinstance (pa_cons (pv 0) (pa_cons (pe_glob (v := .ref c.c1) rfl T.k1.g rfl) pa_nil))) (pa_cons (pe_callB call_errIs (by rfl) zi bt_isinstance (pa_cons (pv 0) (pa_cons (pe_glob (v := .ref c.c2) rfl T.k2.g rfl) pa_nil))) pa_nil)))))
      (pss_cons (ps_set (i := 1) scKinds.nd rfl (Or.inl rfl) (pe_op op_cat (pv 1) (pe_lst (pa_cons (pe_callB call_errIs (by rfl) zi bt_isinstance (pa_cons (pv 0) (pa_cons (pe_glob (v := .ref c.c3) rfl T.k3.g rfl) pa_nil))) (pa_cons (pe_callB call_errIs (by rfl) zi bt_isinstance (pa_cons (pv 0) (pa_cons (pe_glob (v := .ref c.c4) rfl T.k4.g rfl) pa_nil))) (pa_cons (pe_callB call_errIs (by rfl) zi bt_isinstance (pa_cons (pv 0) (pa_cons (pe_glob (v := .ref c.c5) rfl T.k5.g rfl) pa_nil))) pa_nil))))))
      (pss_cons (ps_set (i := 1) scKinds.nd rfl (Or.inl rfl) (pe_op op_cat (pv 1) (pe_lst (pa_cons (pe_callB call_errIs (by rfl) zi bt_isinstance (pa_cons (pv 0) (pa_cons (pe_glob (v := .ref c.c6) rfl T.k6.g rfl) pa_nil))) (pa_cons (pe_callB call_errIs (by rfl) zi bt_isinstance (pa_cons (pv 0) (pa_cons (pe_glob (v := .ref c.c7) rfl T.k7.g rfl) pa_nil))) (pa_cons (pe_callB call_errIs (by rfl) zi bt_isinstance (pa_cons (pv 0) (pa_cons (pe_glob (v := .ref c.c8) rfl T.k8.g rfl) pa_nil))) pa_nil))))))
      (pss_cons (ps_set (i := 1) scKinds.nd rfl (Or.inl rfl) (pe_op op_cat (pv 1) (pe_lst (pa_cons (pe_callB call_errIs (by rfl) zi bt_isinstance (pa_cons (pv 0) (pa_cons (pe_glob (v := .ref c.c9) rfl T.k9.g rfl) pa_nil))) (pa_cons (pe_callB call_errIs (by rfl) zi bt_isinstance (pa_cons (pv 0) (pa_cons (pe_glob (v := .ref c.c10) rfl T.k10.g rfl) pa_nil))) (pa_cons (pe_callB call_errIs (by rfl) zi bt_isinstance (pa_cons (pv 0) (pa_cons (pe_glob (v := .ref c.c11) rfl T.k11.g rfl) pa_nil))) pa_nil))))))
      (pss_cons (ps_set (i := 1) scKinds.nd rfl (Or.inl rfl) (pe_op op_cat (pv 1) (pe_lst (pa_cons (pe_callB call_errIs (by rfl) zi bt_isinstance (pa_cons (pv 0) (pa_cons (pe_glob (v := .ref c.c12) rfl T.k12.g rfl) pa_nil))) (pa_cons (pe_callB call_errIs (by rfl) zi bt_isinstance (pa_cons (pv 0) (pa_cons (pe_glob (v := .ref c.c13) rfl T.k13.g rfl) pa_nil))) (pa_cons (pe_callB call_errIs (by rfl) zi bt_isinstance (pa_cons (pv 0) (pa_cons (pe_glob (v := .ref c.c14) rfl T.g14 rfl) pa_nil))) pa_nil))))))
      (pss_one (ps_ret (pe_lc (own := [("k", 2), ("truth", 3)]) (g := gTup K 2 (gCons (gName 2) (gCons (gName 3) gNil))) (tt := tB (tVar 3)) (te := tVar 2) rfl scKinds.nd (pi_enum (by rfl) ze (pa_cons (pv 1) pa_nil)) (blkOk_by (N := ["error", "some", "k", "truth"]) (sc := defScope sKinds) (by decide +kernel))
        (fun _ _ _ _ _ => pg_tup rfl (pgs_cons (pg_name (i := 2) scKinds.nd rfl (Or.inl rfl)) (pgs_cons (pg_name (i := 3) scKinds.nd rfl (Or.inl rfl)) pgs_nil))) (fun _ _ _ _ _ => pts_one (pt_val (pv 3))) (fun _ _ _ _ _ => pv 2)))))))), ?_⟩
    refine ⟨_, rfl, e, c.at_ w, _, _, _, rfl, .own _, kit.ev w hw, he, kit.own w 0 hw (by decide), _, rfl, e, c.at_ w, _, _, _, rfl, .own _, kit.ev w hw, he, kit.own w 1 hw (by decide), _, rfl, e, c.at_ w, _, _, _, rfl, .own _, kit.ev w hw, he, kit.own w 2 hw (by decide), (by show 3 ≤ sizeLine; decide), fun l0 h0 => ?_⟩
    have s0 := same_new (o := .lst [.bl (decide (w = 0)), .bl (decide (w = 1)), .bl (decide (w = 2))]) h0
    refine ⟨_, rfl, _, rfl, e, c.at_ w, _, _, _, rfl, .own _, kit.ev w hw, (he.mono (s0)), kit.own w 3 hw (by decide), _, rfl, e, c.at_ w, _, _, _, rfl, .own _, kit.ev w hw, (he.mono (s0)), kit.own w 4 hw (by decide), _, rfl, e, c.at_ w, _, _, _, rfl, .own _, kit.ev w hw, (he.mono (s0)), kit.own w 5 hw (by decide), (by show 3 ≤ sizeLine; decide), fun m1 hm1 => ⟨l0, m1, _, _, rfl, rfl, (same_new hm1) _ _ upd_same, upd_same, (by show 6 ≤ sizeLine; decide), fun l1 h1 => ?_⟩⟩
    have t1 := same_new (o := .lst [.bl (decide (w = 3)), .bl (decide (w = 4)), .bl (decide (w = 5))]) hm1
    have s1 := same_new (o := .lst [.bl (decide (w = 0)), .bl (decide (w = 1)), .bl (decide (w = 2)), .bl (decide (w = 3)), .bl (decide (w = 4)), .bl (decide (w = 5))]) h1
    refine ⟨_, rfl, _, rfl, e, c.at_ w, _, _, _, rfl, .own _, kit.ev w hw, (he.mono ((s0).trans (t1.trans s1))), kit.own w 6 hw (by decide), _, rfl, e, c.at_ w, _, _, _, rfl, .own _, kit.ev w hw, (he.mono ((s0).trans (t1.trans s1))), kit.own w 7 hw (by decide), _, rfl, e, c.at_ w, _, _, _, rfl, .own _, kit.ev w hw, (he.mono ((s0).trans (t1.trans s1))), kit.own w 8 hw (by decide), (by show 3 ≤ sizeLine; decide), fun m2 hm2 => ⟨l1, m2, _, _, rfl, rfl, (same_new hm2) _ _ upd_same, upd_same, (by show 9 ≤ sizeLine; decide), fun l2 h2 => ?_⟩⟩
    have t2 := same_new (o := .lst [.bl (decide (w = 6)), .bl (decide (w = 7)), .bl (decide (w = 8))]) hm2
    have s2 := same_new (o := .lst [.bl (decide (w = 0)), .bl (decide (w = 1)), .bl (decide (w = 2)), .bl (decide (w = 3)), .bl (decide (w = 4)), .bl (decide (w = 5)), .bl (decide (w = 6)), .bl (decide (w = 7)), .bl (decide (w = 8))]) h2
    refine ⟨_, rfl, _, rfl, e, c.at_ w, _, _, _, rfl, .own _, kit.ev w hw, (he.mono (((s0).trans (t1.trans s1)).trans (t2.trans s2))), kit.own w 9 hw (by decide), _, rfl, e, c.at_ w, _, _, _, rfl, .own _, kit.ev w hw, (he.mono (((s0).trans (t1.trans s1)).trans (t2.trans s2))), kit.own w 10 hw (by decide), _, rfl, e, c.at_ w, _, _, _, rfl, .own _, kit.ev w hw, (he.mono (((s0).trans (t1.trans s1)).trans (t2.trans s2))), kit.own w 11 hw (by decide), (by show 3 ≤ sizeLine; decide), fun m3 hm3 => ⟨l2, m3, _, _, rfl, rfl, (same_new hm3) _ _ upd_same, upd_same, (by show 12 ≤ sizeLine; decide), fun l3 h3 => ?_⟩⟩
    have t3 := same_new (o := .lst [.bl (decide (w = 9)), .bl (decide (w = 10)), .bl (decide (w = 11))]) hm3
    have s3 := same_new (o := .lst [.bl (decide (w = 0)), .bl (decide (w = 1)), .bl (decide (w = 2)), .bl (decide (w = 3)), .bl (decide (w = 4)), .bl (decide (w = 5)), .bl (decide (w = 6)), .bl (decide (w = 7)), .bl (decide (w = 8)), .bl (decide (w = 9)), .bl (decide (w = 10)), .bl (decide (w = 11))]) h3
    refine ⟨_, rfl, _, rfl, e, c.at_ w, _, _, _, rfl, .own _, kit.ev w hw, (he.mono ((((s0).trans (t1.trans s1)).trans (t2.trans s2)).trans (t3.trans s3))), kit.own w 12 hw (by decide), _, rfl, e, c.at_ w, _, _, _, rfl, .own _, kit.ev w hw, (he.mono ((((s0).trans (t1.trans s1)).trans (t2.trans s2)).trans (t3.trans s3))), kit.own w 13 hw (by decide), _, rfl, e, c.at_ w, _, _, _, rfl, .own _, kit.ev w hw, (he.mono ((((s0).trans (t1.trans s1)).trans (t2.trans s2)).trans (t3.trans s3))), kit.own w 14 hw (by decide), (by show 3 ≤ sizeLine; decide), fun m4 hm4 => ⟨l3, m4, _, _, rfl, rfl, (same_new hm4) _ _ upd_same, upd_same, (by show 15 ≤ sizeLine; decide), fun l4 h4 => ?_⟩⟩
    have t4 := same_new (o := .lst [.bl (decide (w = 12)), .bl (decide (w = 13)), .bl (decide (w = 14))]) hm4
    have s4 := same_new (o := .lst [.bl (decide (w = 0)), .bl (decide (w = 1)), .bl (decide (w = 2)), .bl (decide (w = 3)), .bl (decide (w = 4)), .bl (decide (w = 5)), .bl (decide (w = 6)), .bl (decide (w = 7)), .bl (decide (w = 8)), .bl (decide (w = 9)), .bl (decide (w = 10)), .bl (decide (w = 11)), .bl (decide (w = 12)), .bl (decide (w = 13)), .bl (decide (w = 14))]) h4
    have s : Same H _ := ((((s0).trans (t1.trans s1)).trans (t2.trans s2)).trans (t3.trans s3)).trans (t4.trans s4)
    refine ⟨_, rfl, l4, truths w, rfl, SqL.of upd_same, fun D hD => ?_⟩
    refine lc_it (walk_enum (xs := truths w)) (fun i H' => Same _ H' ∧ H' D = some (.lst (if w < i then [.int (w : Int)] else []))) ⟨same_new hD, upd_same⟩ (fun i H' _ p => p.1.seq (SqL.of upd_same)) ?_ ?_
    · rintro i x H1 H2 hi ⟨k1, k2⟩ ⟨T1, u, t, rfl, hT, rfl, e1, e2⟩
      have hi15 : i < 15 := hi
      have e2 : (truths w)[i]? = some t := e2
      rw [truths_at hi15] at e2
      cases e1
      cases e2
      have nD : D ≠ T1 := ne_of_none k2 hT
      refine ⟨T1, _, rfl, SqT.of upd_same, rfl, _, _, rfl, _, _, rfl, rfl, rfl, _, rfl, _, rfl, ?_⟩
      refine ite2 (fun z => ?_) (fun z => ?_)
      · have z := of_decide_eq_true z
        subst z
        rw [if_neg (Nat.lt_irrefl w)] at k2
        refine ⟨_, rfl, [], (upd_ne nD).trans k2, (by show 0 < sizeLine; decide), fun b o ho => ?_, ?_⟩
        · rw [upd_ne (ne_of_none ho hD), upd_ne (ne_of_none (k1 b o ho) hT)]
          exact k1 b o ho
        · rw [if_pos (Nat.lt_succ_self w)]
          exact upd_same
      · have z : w ≠ i := fun y => z (decide_eq_true y)
        refine ⟨fun b o ho => ?_, ?_⟩
        · rw [upd_ne (ne_of_none (k1 b o ho) hT)]
          exact k1 b o ho
        · rw [upd_ne nD, k2]
          by_cases y : w < i
          · rw [if_pos y, if_pos (by omega)]
          · rw [if_neg y, if_neg (by omega)]
    · rintro H1 ⟨k1, k2⟩
      refine q H1 D (s.trans k1) (s.free hD) ?_
      rw [k2, if_pos (show w < (truths w).length from hw)]
end
end Paw

set_option maxRecDepth 100000
set_option maxHeartbeats 4000000
namespace Paw
open PySem PySem.Spec PyProof.Rows L2
theorem log_small {k : Int} (h0 : 0 ≤ k) (h : k < 1000) : k.natAbs.log2 < 1000 := by
  have := Nat.log2_le_self k.natAbs
  omega
/-- what a thing is ahead of the mark, and behind it -/
inductive Thing : HO → HO → PyData → Prop
  | lst (k : Int) (h0 : 0 ≤ k) (h : k < 1000) : Thing (.lst [.int k]) (.lst [.int k, .str "mark"]) (.list [.int k, .str "mark"])
  | dic (k : Int) (h0 : 0 ≤ k) (h : k < 1000) : Thing (.dK [(Sum.inr "a", .int k)]) (.dK [(Sum.inr "a", .int k), (Sum.inr "mark", .int 0)]) (.dict [(.str "a", .int k), (.str "mark", .int 0)])
theorem thing_rd {K : PySem.W.Frag} {H : Hp} {T : Addr} {o u : HO} {d : PyData} (h : Thing o u d) (hT : H T = some u) : RD K H (.ref T) d := by
  cases h with
  | lst k h0 h => exact .lst (SqL.of hT) (.cons (.int k) (.cons (.str _) .nil))
  | dic k h0 h => exact .dic hT (.cons (k := Sum.inr "a") (.int k) (.cons (k := Sum.inr "mark") (.int 0) .nil))
theorem thing_fit {o u : HO} {d : PyData} (h : Thing o u d) : Fit (.list [.list [d], .list [d]]) := by
  cases h with
  | lst k h0 h =>
    have z := log_small h0 h
    refine ⟨by rfl, ?_, ?_, Nat.le_of_ble_eq_true (by rfl)⟩
    · simp [PyData.showable, PyData.showableAll]
      omega
    · have e : (10 : Nat) * (("mark" : Str)).length + 2 = 42 := by decide +kernel
      simp only [siz, sizs, e]
      omega
  | dic k h0 h =>
    have z := log_small h0 h
    refine ⟨by rfl, ?_, ?_, Nat.le_of_ble_eq_true (by rfl)⟩
    · simp [PyData.showable, PyData.showableAll, PyData.showableKv]
      omega
    · have e : (10 : Nat) * (("mark" : Str)).length + 2 = 42 := by decide +kernel
      have e2 : (10 : Nat) * (("a" : Str)).length + 2 = 12 := by decide +kernel
      have e3 : (0 : Int).natAbs.log2 = 0 := by decide +kernel
      simp only [siz, sizs, sizk, e, e2, e3]
      omega
def spHeld : Sp := fun vs H Q _ => ∃ (w : Nat) (T : Addr) (o u : HO) (d : PyData), vs = [.int (w : Int), .ref T] ∧ w < 15 ∧ w ≠ 12 ∧ w ≠ 14 ∧ H T = some o ∧ Thing o u d ∧ ∀ H' : Hp, But T H H' → Q (.bl true) H'
section
variable {P : Program} {wd : World} {K : PySem.W.Frag} {mg : Str → Option Value} {base : Heap}
theorem scHeld : FnScope ["which", "thing", "values", "error"] ["which", "thing"] (defScope sHeld) := ⟨rfl, rfl, rfl, by decide +kernel, rfl, by decide +kernel, by decide +kernel⟩
theorem ok_held {c : Cs} {f fB fV fA : Addr} {fd fdB fdV fdA : FuncData} (F : Fun K "_law_held" "_law_held" sHeld f fd) (GB : FnOk P wd K mg base CX0 3 fB fdB ["which", "thing", "more"] (spBoth c)) (gB : mg "_law_both" = some (.ref fB)) (kB : PySem.W.keepIn K (.ref fB) = true) (bB : Binds K fdB ["which", "thing", "more"] [])
    (GV : FnOk P wd K mg base CX0 1 fV fdV ["which", "error"] (spVals c)) (gV : mg "_law_values_of" = some (.ref fV)) (kV : PySem.W.keepIn K (.ref fV) = true) (bV : Binds K fdV ["which", "error"] [])
    (GA : FnG P wd K mg base CX0 1 fA fdA ["one", "other"] (spAlike K)) (gA : mg "_law_alike" = some (.ref fA)) (kA : PySem.W.keepIn K (.ref fA) = true) (bA : Binds K fdA ["one", "other"] []) (zi : mg "isinstance" = none) (zl : mg "list" = none) : FnG P wd K mg base CX0 4 f fd ["which", "thing"] spHeld := by
  refine funG F scHeld (fun vs H Q E h => ?_) (fun cdv A hG outer s H vs Q E hS hr h => ?_)
  · obtain ⟨w, T, o, u, d, rfl, _⟩ := h
    rfl
  · obtain ⟨w, T, o, u, d, rfl, hw, n12, n14, hT, hth, q⟩ := h
    have g : Gd (cxOf CX0 P wd K mg base ["which", "thing", "values", "error"] "_law_held" (defScope sHeld) f cdv A outer s H E) := ⟨hG, hS, rfl⟩
    have hr1 : Room 1 (cxOf CX0 P wd K mg base ["which", "thing", "values", "error"] "_law_held" (defScope sHeld) f cdv A outer s H E).A := hr.mono (by decide)
    have hu := hu_of hr
    refine ⟨_, pss_cons (ps_setLc (i := 2) (own := [("error", 3)]) (g := gName 3) (tt := tYes) (te := tCall (spVals c) [] E0 (tCons (tVar 0) (tCons (tVar 3) tNil))) rfl scHeld.nd rfl rfl (sw_true rfl rfl rfl (by decide +kernel)) (pi_list (pe_call GB hr rfl gB kB bB .nil pass0 (pa_cons (pv 0) (pa_cons (pv 1) (pa_cons pe_int pa_nil)))))
          (blkOk_by (N := ["which", "thing", "values", "error"]) (sc := defScope sHeld) (by decide +kernel)) (fun _ _ _ _ _ => pg_name (i := 3) scHeld.nd rfl (Or.inl rfl)) (fun _ _ _ _ _ => pts_nil) (fun _ _ _ _ _ => pe_call GV hr1 rfl gV kV bV .nil pass0 (pa_cons (pv 0) (pa_cons (pv 3) pa_nil))))
      (pss_cons (ps_if (pt_val (pe_callB call_isi (by rfl) zi bt_isinstance (pa_cons (pv 1) (pa_cons (pe_bltn (v := .ty "list") (by rfl) zl bt_list rfl) pa_nil))))
          (pss_one (ps_expr (pe_bm PySem.F.plainAttrs_list PySem.F.slot_list_append PySem.F.type_list_append mt_append (pv 1) (pa_cons pe_str pa_nil)))) (pss_one (ps_dput hu (pv 1) pe_str pe_int rfl)))
      (pss_one (ps_ret (pe_callG GA g hr1 rfl gA kA bA .nil pass0 (pa_cons (pv 2) (pa_cons (pe_lst (pa_cons (pe_lst (pa_cons (pv 1) pa_nil)) (pa_cons (pe_lst (pa_cons (pv 1) pa_nil)) pa_nil))) pa_nil)))))), ?_⟩
    refine ⟨_, rfl, _, rfl, w, .ref T, .int 0, rfl, hw, fun H1 p es s1 np hp len hes => ⟨p, rfl, ⟨_, SqL.of hp⟩, fun D hD => ?_⟩⟩
    have len2 : es.length = 2 := by rw [len, if_neg n12]
    have vone : valsOf w (.ref T) (.int 0) = [.ref T] := by
      unfold valsOf
      rw [if_neg n12, if_neg n14]
    have hT1 := s1 _ _ hT
    refine lc_list (K := K) (a := p) (xs := es.map V.ref) (fun i H' => Same H1 H' ∧ ∃ ps : List Addr, ps.length = i ∧ H' D = some (.lst (ps.map V.ref)) ∧ ∀ z ∈ ps, H' z = some (.lst [.ref T]) ∧ z ≠ D ∧ z ≠ T) ⟨same_new hD, [], rfl, upd_same, fun _ h => nomatch h⟩ (fun i H' _ k => k.1.seq (SqL.of hp)) ?_ ?_
    · rintro i x H2 hi ⟨k1, ps, lp, hDl, hps⟩
      obtain ⟨e, he, rfl⟩ : ∃ e ∈ es, x = V.ref e := by
        obtain ⟨e, he, ee⟩ := List.mem_map.mp (List.mem_of_getElem? hi)
        exact ⟨e, he, ee.symm⟩
      have il : i < 2 := by
        have := (List.getElem?_eq_some_iff.mp hi).1
        rw [List.length_map, len2] at this
        exact this
      refine ⟨rfl, ?_⟩
      refine ⟨_, rfl, _, rfl, w, .ref T, .int 0, e, rfl, hw, (hes e he).mono k1, fun H3 p2 s3 np2 hp2 => ⟨ps.map V.ref, s3 _ _ hDl, ?_, fun b ob hb => ?_, ps ++ [p2], ?_, ?_, fun z hz => ?_⟩⟩
      · rw [List.length_map, lp]
        exact Nat.lt_trans il (by decide)
      · rw [upd_ne (ne_of_none hb hD)]
        exact s3 _ _ (k1 _ _ hb)
      · rw [List.length_append, lp]
        rfl
      · rw [List.map_append]
        exact upd_same
      · have nD : p2 ≠ D := (ne_of_none hDl np2).symm
        rcases List.mem_append.mp hz with hz | hz
        · obtain ⟨z1, z2, z3⟩ := hps z hz
          exact ⟨(upd_ne z2).trans (s3 _ _ z1), z2, z3⟩
        · rw [List.mem_singleton.mp hz]
          rw [vone] at hp2
          exact ⟨(upd_ne nD).trans hp2, nD, (ne_of_none (k1 _ _ hT1) np2).symm⟩
    · rintro H2 ⟨k1, ps, lp, hDl, hps⟩
      rw [List.length_map, len2] at lp
      obtain ⟨p1, p2, rfl⟩ : ∃ p1 p2, ps = [p1, p2] := by
        match ps, lp with
        | [p1, p2], _ => exact ⟨p1, p2, rfl⟩
      have hT2 := k1 _ _ hT1
      obtain ⟨a1, _, c1⟩ := hps p1 List.mem_cons_self
      obtain ⟨a2, _, c2⟩ := hps p2 (List.mem_cons_of_mem _ List.mem_cons_self)
      have nD : D ≠ T := (ne_of_none hT1 hD).symm
      have tail : ∀ H3 : Hp, (∀ b ob, b ≠ T → H2 b = some ob → H3 b = some ob) → H3 T = some u → ∀ l1, H3 l1 = none → ∀ l2, upd H3 l1 (.lst [.ref T]) l2 = none → ∀ l3, upd (upd H3 l1 (.lst [.ref T])) l2 (.lst [.ref T]) l3 = none →
          spAlike K [.ref D, .ref l3] (upd (upd (upd H3 l1 (.lst [.ref T])) l2 (.lst [.ref T])) l3 (.lst [.ref l1, .ref l2])) Q E0 := by
        intro H3 h3 hT3 l1 h1 l2 h2 l3 hl3
        have s4 := same_new (o := .lst [.ref T]) h1
        have s5 := same_new (o := .lst [.ref T]) h2
        have s6 := same_new (o := .lst [.ref l1, .ref l2]) hl3
        have s46 := s4.trans (s5.trans s6)
        have rd := fun (H' : Hp) (h : H' T = some u) => thing_rd (K := K) hth h
        refine ⟨_, _, .list [.list [d], .list [d]], .list [.list [d], .list [d]], rfl, ?_, ?_, thing_fit hth, thing_fit hth, ?_⟩
        · refine .lst (SqL.of (s46 _ _ (h3 _ _ nD hDl))) (.cons (.lst (SqL.of (s46 _ _ (h3 _ _ c1 a1))) (.cons (rd _ (s46 _ _ hT3)) .nil)) (.cons (.lst (SqL.of (s46 _ _ (h3 _ _ c2 a2))) (.cons (rd _ (s46 _ _ hT3)) .nil)) .nil))
        · refine .lst (SqL.of upd_same) (.cons (.lst (SqL.of ((s5.trans s6) _ _ upd_same)) (.cons (rd _ (s46 _ _ hT3)) .nil)) (.cons (.lst (SqL.of (s6 _ _ upd_same)) (.cons (rd _ (s46 _ _ hT3)) .nil)) .nil))
        · have e : decide (V.str (PyData.list [.list [d], .list [d]]).shown = V.str (PyData.list [.list [d], .list [d]]).shown) = true := decide_eq_true rfl
          rw [e]
          exact q _ fun b ob nb hb => s46 _ _ (h3 _ _ nb (k1 _ _ (s1 _ _ hb)))
      cases hth with
      | lst k h0 h =>
        refine ⟨_, rfl, _, _, _, _, true, rfl, .ty _, .base (.lst hT2), kit_ty (by decide +kernel), _, rfl, iteT ?_⟩
        refine ⟨_, rfl, .inl ⟨rfl, _, SqL.of hT2⟩, T, _, _, rfl, rfl, hT2, (by show 1 < sizeLine; decide), ?_⟩
        refine ⟨_, rfl, _, rfl, (by show 1 ≤ sizeLine; decide), fun l1 h1 => ⟨_, rfl, (by show 1 ≤ sizeLine; decide), fun l2 h2 => ⟨(by show 2 ≤ sizeLine; decide), fun l3 h3 => ?_⟩⟩⟩
        exact tail _ (fun b ob nb hb => (upd_ne nb).trans hb) upd_same l1 h1 l2 h2 l3 h3
      | dic k h0 h =>
        refine ⟨_, rfl, _, _, _, _, false, rfl, .ty _, .base (.dK hT2), kit_ty (by decide +kernel), _, rfl, iteF ?_⟩
        refine ⟨_, rfl, T, _, rfl, DPut.k (k := Sum.inr "mark") hT2 (by show 1 < sizeLine; decide), ?_⟩
        refine ⟨_, rfl, _, rfl, (by show 1 ≤ sizeLine; decide), fun l1 h1 => ⟨_, rfl, (by show 1 ≤ sizeLine; decide), fun l2 h2 => ⟨(by show 2 ≤ sizeLine; decide), fun l3 h3 => ?_⟩⟩⟩
        exact tail _ (fun b ob nb hb => (upd_ne nb).trans hb) upd_same l1 h1 l2 h2 l3 h3
end
end Paw

set_option maxRecDepth 100000
set_option maxHeartbeats 4000000
namespace Paw
open PySem PySem.Spec PyProof.Rows L2
theorem sqt_mono {K : PySem.W.Frag} {H H' : Hp} {a : Addr} {xs : List V} (e : Same H H') (h : SqT K H a xs) : SqT K H' a xs := by
  rcases h with (h | ⟨o, h⟩) | h
  · exact Or.inl (Or.inl (e _ _ h))
  · exact Or.inl (Or.inr ⟨o, e _ _ h⟩)
  · exact Or.inr h
mutual
theorem RD.mono {K : PySem.W.Frag} {H H' : Hp} (e : Same H H') : ∀ (d : PyData) (v : V), RD K H v d → RD K H' v d
  | .none, _, h => by cases h; exact .non
  | .bool b, _, h => by cases h; exact .bl b
  | .int i, _, h => by cases h; exact .int i
  | .str x, _, h => by cases h; exact .str x
  | .list ds, _, h => by
    cases h with
    | lst h hs => exact .lst (Same.seq e h) (RDs.mono e ds _ hs)
  | .tuple ds, _, h => by
    cases h with
    | tup h hs => exact .tup (sqt_mono e h) (RDs.mono e ds _ hs)
  | .dict ds, _, h => by
    cases h with
    | dic h hs => exact .dic (e _ _ h) (RDk.mono e ds _ hs)
theorem RDs.mono {K : PySem.W.Frag} {H H' : Hp} (e : Same H H') : ∀ (ds : List PyData) (vs : List V), RDs K H vs ds → RDs K H' vs ds
  | [], _, h => by cases h; exact .nil
  | d :: ds, _, h => by
    cases h with
    | cons h hs => exact .cons (RD.mono e d _ h) (RDs.mono e ds _ hs)
theorem RDk.mono {K : PySem.W.Frag} {H H' : Hp} (e : Same H H') : ∀ (ds : List (PyData × PyData)) (vs : List (Key × V)), RDk K H vs ds → RDk K H' vs ds
  | [], _, h => by cases h; exact .nil
  | (k, d) :: ds, _, h => by
    cases h with
    | cons h hs => exact .cons (RD.mono e d _ h) (RDk.mono e ds _ hs)
end
/-- the data of odd things -/
def oddD : Nat → PyData
  | 0 => .none
  | 1 => .bool true
  | 2 => .int 0
  | 3 => .str "A"
  | 4 => .str ""
  | 5 => .tuple []
  | 6 => .list []
  | 7 => .dict []
  | 8 => .str "a1"
  | 9 => .str "abcdefghi"
  | 10 => .int (-1)
  | 11 => .tuple [.str "a"]
  | 12 => .list [.str "a"]
  | 13 => .tuple [.int 1, .int 2]
  | 14 => .str "a b"
  | 15 => .str "1"
  | 16 => .str " a"
  | 17 => .str "a_"
  | 18 => .str "a\n"
  | _ => .bool false
theorem odd_lt {H : Hp} {v : V} : ∀ {j : Nat}, OddAt H v j → j < 20
  | 0, _ | 1, _ | 2, _ | 3, _ | 4, _ | 5, _ | 6, _ | 7, _ | 8, _ | 9, _ | 10, _ | 11, _ | 12, _ | 13, _ | 14, _ | 15, _ | 16, _ | 17, _ | 18, _ | 19, _ => by decide
  | _ + 20, h => h.elim
theorem odd_rd {K : PySem.W.Frag} {H : Hp} {v : V} : ∀ {j : Nat}, OddAt H v j → RD K H v (oddD j)
  | 0, h | 1, h | 2, h | 3, h | 4, h | 8, h | 9, h | 10, h | 14, h | 15, h | 16, h | 17, h | 18, h | 19, h => by
    cases h
    constructor
  | 5, h => by
    obtain ⟨t, rfl, h⟩ := h
    exact .tup (Or.inl (Or.inl h)) .nil
  | 6, h => by
    obtain ⟨t, rfl, h⟩ := h
    exact .lst (SqL.of h) .nil
  | 7, h => by
    obtain ⟨t, rfl, h⟩ := h
    exact .dic h .nil
  | 11, h => by
    obtain ⟨t, rfl, h⟩ := h
    exact .tup (Or.inl (Or.inl h)) (.cons (.str _) .nil)
  | 12, h => by
    obtain ⟨t, rfl, h⟩ := h
    exact .lst (SqL.of h) (.cons (.str _) .nil)
  | 13, h => by
    obtain ⟨t, rfl, h⟩ := h
    exact .tup (Or.inl (Or.inl h)) (.cons (.int _) (.cons (.int _) .nil))
  | _ + 20, h => h.elim
/-- small data: may stand in lists of data that are shown -/
def smallD (d : PyData) : Bool := plainD d && d.showable && decide (siz d ≤ 200) && decide (d.depth ≤ 5)
theorem odd_small : ∀ j < 20, smallD (oddD j) = true := by decide +kernel
/-- an odd thing stands in a part of the heap -/
theorem odd_part {G H : Hp} {v : V} {j : Nat} (h : OddAt H v j) (g : ∀ t o, v = .ref t → H t = some o → G t = some o) : OddAt G v j := by
  match j, h with
  | 0, h | 1, h | 2, h | 3, h | 4, h | 8, h | 9, h | 10, h | 14, h | 15, h | 16, h | 17, h | 18, h | 19, h => exact h
  | 5, ⟨t, e, h⟩ | 6, ⟨t, e, h⟩ | 7, ⟨t, e, h⟩ | 11, ⟨t, e, h⟩ | 12, ⟨t, e, h⟩ | 13, ⟨t, e, h⟩ => exact ⟨t, e, g _ _ e h⟩
  | _ + 20, h => exact h.elim
theorem fit1 {d : PyData} (h : smallD d = true) : Fit (.list [d]) := by
  unfold smallD at h
  simp only [Bool.and_eq_true, decide_eq_true_eq] at h
  obtain ⟨⟨⟨h1, h2⟩, h3⟩, h4⟩ := h
  refine ⟨?_, ?_, ?_, ?_⟩
  · simp [plainD, plainDs, h1]
  · simp [PyData.showable, PyData.showableAll, h2]
  · simp only [siz, sizs]
    omega
  · simp only [PyData.depth, PyData.depthAll]
    omega
theorem fit2 {d e : PyData} (h : smallD d = true) (g : smallD e = true) : Fit (.list [d, e]) := by
  unfold smallD at h g
  simp only [Bool.and_eq_true, decide_eq_true_eq] at h g
  obtain ⟨⟨⟨h1, h2⟩, h3⟩, h4⟩ := h
  obtain ⟨⟨⟨g1, g2⟩, g3⟩, g4⟩ := g
  refine ⟨?_, ?_, ?_, ?_⟩
  · simp [plainD, plainDs, h1, g1]
  · simp [PyData.showable, PyData.showableAll, h2, g2]
  · simp only [siz, sizs]
    omega
  · simp only [PyData.depth, PyData.depthAll]
    omega
theorem fit0 : Fit (.list []) := ⟨by rfl, by rfl, by decide +kernel, by decide +kernel⟩
end Paw

set_option maxRecDepth 100000
set_option maxHeartbeats 4000000
namespace Paw
open PySem PySem.Spec PyProof.Rows L2
/-- one entry of kept_ones -/
def EntryOk (K : PySem.W.Frag) (c : Cs) (G : Hp) (v : V) : Prop := ∃ (t bo du : Addr) (w : Nat) (x y : V) (es : List Addr) (ds : List PyData), v = .ref t ∧ w < 15 ∧ G t = some (.tup [.int (w : Int), .ref bo, .ref du]) ∧ G bo = some (.lst (es.map V.ref)) ∧
  (∀ e ∈ es, ErrOk c G x y e w) ∧ G du = some (.lst (valsOf w x y)) ∧ RDs K G (valsOf w x y) ds ∧ Fit (.list ds)
theorem EntryOk.mono {K : PySem.W.Frag} {c : Cs} {G G' : Hp} {v : V} (h : EntryOk K c G v) (s : Same G G') : EntryOk K c G' v := by
  obtain ⟨t, bo, du, w, x, y, es, ds, h1, h2, h3, h4, h5, h6, h7, h8⟩ := h
  exact ⟨t, bo, du, w, x, y, es, ds, h1, h2, s _ _ h3, s _ _ h4, fun e he => (h5 e he).mono s, s _ _ h6, RDs.mono s _ _ h7, h8⟩
/-- the heap without some places -/
def cut (S : List Addr) (H : Hp) : Hp := fun b => if b ∈ S then none else H b
theorem cut_in {S : List Addr} {H : Hp} {b : Addr} (h : b ∈ S) : cut S H b = none := if_pos h
theorem cut_out {S : List Addr} {H : Hp} {b : Addr} (h : b ∉ S) : cut S H b = H b := if_neg h
theorem cut_same {S : List Addr} {H : Hp} : Same (cut S H) H := fun b o e => by
  by_cases h : b ∈ S
  · rw [cut_in h] at e
    cases e
  · rw [cut_out h] at e
    exact e
theorem into_cut {S : List Addr} {G H : Hp} (s : Same G H) (n : ∀ b ∈ S, G b = none) : Same G (cut S H) := fun b o e => by
  have h : b ∉ S := fun z => by
    rw [n b z] at e
    cases e
  rw [cut_out h]
  exact s b o e
/-- kept_ones stands at L with n entries, all of them good in a part of the heap that neither L nor S belongs to -/
def Kept (K : PySem.W.Frag) (c : Cs) (a : Addr) (zs : List V) (L : Addr) (S : List Addr) (H : Hp) (n : Nat) : Prop := ∃ (G : Hp) (xs : List V), Same G H ∧ (∀ b ∈ L :: S, G b = none) ∧ H L = some (.lst xs) ∧ xs.length = n ∧ SqL K G a zs ∧ ∀ v ∈ xs, EntryOk K c G v
def spLaw (K : PySem.W.Frag) : Sp := fun vs H Q _ => ∃ (a : Addr) (ns : List Int), vs = [.ref a] ∧ SqL K H a (ns.map V.int) ∧ ∀ H', Q (.bl true) H'
theorem vals_data {K : PySem.W.Frag} {H : Hp} {x y : V} {i j : Nat} (hx : OddAt H x i) (hy : OddAt H y j) (w : Nat) : ∃ ds, RDs K H (valsOf w x y) ds ∧ Fit (.list ds) := by
  have rx := odd_rd (K := K) hx
  have ry := odd_rd (K := K) hy
  have sx := odd_small _ (odd_lt hx)
  have sy := odd_small _ (odd_lt hy)
  unfold valsOf
  split
  · exact ⟨_, .cons rx (.cons ry .nil), fit2 sx sy⟩
  · split
    · exact ⟨_, .nil, fit0⟩
    · exact ⟨_, .cons rx .nil, fit1 sx⟩
theorem ErrOk.part {c : Cs} {H G : Hp} {x y : V} {e : Addr} {w : Nat} (h : ErrOk c H x y e w) (s : ∀ b φ, H b = some (.ext φ) → G b = some (.ext φ)) : ErrOk c G x y e w := by
  have err : ∀ {C : Addr} {fs : List (Str × V)}, Err H e C fs → Err G e C fs := fun ⟨d, h1, h2⟩ => ⟨d, s _ _ h1, s _ _ h2⟩
  unfold ErrOk at h ⊢
  split
  · next z =>
    rw [if_pos z] at h
    obtain ⟨fs, h1, h2⟩ := h
    exact ⟨fs, err h1, h2⟩
  · next z =>
    rw [if_neg z] at h
    split
    · next z2 =>
      rw [if_pos z2] at h
      obtain ⟨d, h1, h2⟩ := h
      exact ⟨d, s _ _ h1, fun dx q => (h2 dx q).elim fun fs z => ⟨fs, s _ _ z⟩⟩
    · next z2 =>
      rw [if_neg z2] at h
      obtain ⟨fs, h1, h2⟩ := h
      exact ⟨fs, err h1, h2⟩
/-- the heap behind a turn: what stood at H3, an entry more at L -/
theorem keep_turn {K : PySem.W.Frag} {c : Cs} {a L P t bo du : Addr} {zs xs : List V} {G3 H3 H4 H5 H6 H7 : Hp} {n w i j : Nat} {x y : V} {es : List Addr} {L3 L4 L5 : List V} (nPL : P ≠ L) (s3 : Same G3 H3) (n3 : ∀ b ∈ [L, P], G3 b = none) (hL3 : H3 L = some (.lst xs)) (hP3 : H3 P = some (.lst L3)) (len : xs.length = n)
    (sq : SqL K G3 a zs) (ok : ∀ v ∈ xs, EntryOk K c G3 v) (b4 : But P H3 H4) (hP4 : H4 P = some (.lst L4)) (b5 : But P H4 H5) (hP5 : H5 P = some (.lst L5)) (s6 : Same H5 H6) (s7 : Same H6 H7) (hw : w < 15)
    (odd4 : OddAt H4 x i) (new4 : ∀ t, x = .ref t → H3 t = none) (odd5 : OddAt H5 y j) (new5 : ∀ t, y = .ref t → H4 t = none) (nbo : H6 bo = none) (hbo : H7 bo = some (.lst (es.map V.ref))) (hes : ∀ e ∈ es, ErrOk c H7 x y e w)
    (ndu : H5 du = none) (hdu : H6 du = some (.lst (valsOf w x y))) (ht : H7 t = none) {H' : Hp} (s' : Same (upd (upd H7 t (.tup [.int (w : Int), .ref bo, .ref du])) L (.lst (xs ++ [.ref t]))) H') :
    Kept K c a zs L [P] H' (n + 1) ∧ H' P = some (.lst L5) := by
  have hL4 := b4 _ _ nPL.symm hL3
  have hL5 := b5 _ _ nPL.symm hL4
  have hL6 := s6 _ _ hL5
  have hL7 := s7 _ _ hL6
  have hP7 := s7 _ _ (s6 _ _ hP5)
  have st := same_new (o := .tup [.int (w : Int), .ref bo, .ref du]) ht
  have tL : t ≠ L := (ne_of_none hL7 ht).symm
  have tP : t ≠ P := (ne_of_none hP7 ht).symm
  have bL : bo ≠ L := (ne_of_none hL6 nbo).symm
  have bP : bo ≠ P := (ne_of_none (s6 _ _ hP5) nbo).symm
  have dL : du ≠ L := (ne_of_none hL5 ndu).symm
  have dP : du ≠ P := (ne_of_none hP5 ndu).symm
  -- what stands in H7 off L and P stands in the part
  have into : ∀ b o, b ≠ L → b ≠ P → H7 b = some o → (cut [L, P] (upd (upd H7 t (.tup [.int (w : Int), .ref bo, .ref du])) L (.lst (xs ++ [.ref t])))) b = some o := fun b o h1 h2 e => by
    rw [cut_out (by simp [h1, h2]), upd_ne h1]
    exact st _ _ e
  have old : Same G3 (cut [L, P] (upd (upd H7 t (.tup [.int (w : Int), .ref bo, .ref du])) L (.lst (xs ++ [.ref t])))) := fun b o e => by
    have h1 : b ≠ L := fun z => by rw [z, n3 L List.mem_cons_self] at e; cases e
    have h2 : b ≠ P := fun z => by rw [z, n3 P (List.mem_cons_of_mem _ List.mem_cons_self)] at e; cases e
    exact into b o h1 h2 (s7 _ _ (s6 _ _ (b5 _ _ h2 (b4 _ _ h2 (s3 _ _ e)))))
  have ox : OddAt (cut [L, P] (upd (upd H7 t (.tup [.int (w : Int), .ref bo, .ref du])) L (.lst (xs ++ [.ref t])))) x i := by
    refine odd_part odd4 fun z o ez e => ?_
    have nz := new4 z ez
    have h1 : z ≠ L := (ne_of_none hL3 nz).symm
    have h2 : z ≠ P := (ne_of_none hP3 nz).symm
    exact into z o h1 h2 (s7 _ _ (s6 _ _ (b5 _ _ h2 e)))
  have oy : OddAt (cut [L, P] (upd (upd H7 t (.tup [.int (w : Int), .ref bo, .ref du])) L (.lst (xs ++ [.ref t])))) y j := by
    refine odd_part odd5 fun z o ez e => ?_
    have nz := new5 z ez
    have h1 : z ≠ L := (ne_of_none hL4 nz).symm
    have h2 : z ≠ P := (ne_of_none hP4 nz).symm
    exact into z o h1 h2 (s7 _ _ (s6 _ _ e))
  obtain ⟨ds, hds, hfit⟩ := vals_data (K := K) ox oy w
  refine ⟨⟨cut [L, P] (upd (upd H7 t (.tup [.int (w : Int), .ref bo, .ref du])) L (.lst (xs ++ [.ref t]))), xs ++ [.ref t], cut_same.trans s', fun b hb => cut_in hb, s' _ _ upd_same, ?_, Same.seq old sq, fun v hv => ?_⟩, ?_⟩
  · rw [List.length_append, len]
    rfl
  · rcases List.mem_append.mp hv with hv | hv
    · exact (ok v hv).mono old
    · refine ⟨t, bo, du, w, x, y, es, ds, List.mem_singleton.mp hv, hw, ?_, into _ _ bL bP hbo, fun e he => (hes e he).part fun b φ z => ?_, into _ _ dL dP (s7 _ _ hdu), hds, hfit⟩
      · rw [cut_out (by simp [tL, tP]), upd_ne tL]
        exact upd_same
      · refine into b _ (fun q => ?_) (fun q => ?_) z
        · rw [q, hL7] at z
          cases z
        · rw [q, hP7] at z
          cases z
  · refine s' _ _ ?_
    rw [upd_ne nPL]
    exact st _ _ hP7
section
variable {P : Program} {wd : World} {K : PySem.W.Frag} {mg : Str → Option Value} {base : Heap}
theorem scLaw : FnScope ["script", "kept_ones", "k", "pile", "which", "thing", "more", "due", "both", "error"] ["script"] (defScope sLaw) := ⟨rfl, rfl, rfl, by decide +kernel, rfl, by decide +kernel, by decide +kernel⟩
/-- the menu of due values: which of three lists -/
theorem due_at {w : Nat} {x y : V} {d0 d1 d2 : Addr} : ∃ d : Addr, atI [V.ref d0, V.ref d1, V.ref d2] ((if decide (V.int (w : Int) = V.int 12) then (1 : Int) else 0) + 2 * (if decide (V.int (w : Int) = V.int 14) then (1 : Int) else 0)) = some (.ref d) ∧
    (d = d0 ∨ d = d1 ∨ d = d2) ∧ ∀ H : Hp, H d0 = some (.lst [x]) → H d1 = some (.lst [x, y]) → H d2 = some (.lst []) → H d = some (.lst (valsOf w x y)) := by
  unfold valsOf
  by_cases h : w = 12
  · subst h
    exact ⟨d1, by rfl, Or.inr (Or.inl rfl), fun H _ h _ => h⟩
  · by_cases g : w = 14
    · subst g
      exact ⟨d2, by rfl, Or.inr (Or.inr rfl), fun H _ _ h => h⟩
    · refine ⟨d0, ?_, Or.inl rfl, fun H z _ _ => ?_⟩
      · have e1 : decide (V.int (w : Int) = V.int 12) = false := decide_eq_false fun z => h (by injection z with z; omega)
        have e2 : decide (V.int (w : Int) = V.int 14) = false := decide_eq_false fun z => g (by injection z with z; omega)
        rw [e1, e2]
        rfl
      · rw [if_neg h, if_neg g]
        exact z
theorem ok_law {c : Cs} {C f fP fO fB fV fA fH fK : Addr} {fd fdP fdO fdB fdV fdA fdH fdK : FuncData} (F : Fun K "law" "law" sLaw f fd) (kit : Kit K c C)
    (GP : FnOk P wd K mg base CX0 1 fP fdP ["script", "k"] (spPile K)) (gP : mg "_law_pile" = some (.ref fP)) (kP : PySem.W.keepIn K (.ref fP) = true) (bP : Binds K fdP ["script", "k"] [])
    (GO : FnOk P wd K mg base CX0 3 fO fdO ["pile"] spOdd) (gO : mg "_law_odd" = some (.ref fO)) (kO : PySem.W.keepIn K (.ref fO) = true) (bO : Binds K fdO ["pile"] [])
    (GB : FnOk P wd K mg base CX0 3 fB fdB ["which", "thing", "more"] (spBoth c)) (gB : mg "_law_both" = some (.ref fB)) (kB : PySem.W.keepIn K (.ref fB) = true) (bB : Binds K fdB ["which", "thing", "more"] [])
    (GV : FnOk P wd K mg base CX0 1 fV fdV ["which", "error"] (spVals c)) (gV : mg "_law_values_of" = some (.ref fV)) (kV : PySem.W.keepIn K (.ref fV) = true) (bV : Binds K fdV ["which", "error"] [])
    (GA : FnG P wd K mg base CX0 1 fA fdA ["one", "other"] (spAlike K)) (gA : mg "_law_alike" = some (.ref fA)) (kA : PySem.W.keepIn K (.ref fA) = true) (bA : Binds K fdA ["one", "other"] [])
    (GH : FnG P wd K mg base CX0 4 fH fdH ["which", "thing"] spHeld) (gH : mg "_law_held" = some (.ref fH)) (kH : PySem.W.keepIn K (.ref fH) = true) (bH : Binds K fdH ["which", "thing"] [])
    (GK : FnOk P wd K mg base CX0 1 fK fdK ["error"] (spKinds c)) (gK : mg "_law_kinds" = some (.ref fK)) (kK : PySem.W.keepIn K (.ref fK) = true) (bK : Binds K fdK ["error"] [])
    (gC : mg "HallError" = some (.ref C)) (zi : mg "isinstance" = none) (zn : mg "int" = none) (zr : mg "range" = none) (zv : mg "ValueError" = none) : FnG P wd K mg base CX0 5 f fd ["script"] (spLaw K) := by
  refine funG0 F scLaw (fun vs H Q E h => ?_) (fun cdv A hG outer s H vs Q E hS hr h => ?_)
  · obtain ⟨a, ns, rfl, _⟩ := h
    rfl
  · obtain ⟨a, ns, rfl, hns, q⟩ := h
    have g : Gd (cxOf CX0 P wd K mg base ["script", "kept_ones", "k", "pile", "which", "thing", "more", "due", "both", "error"] "law" (defScope sLaw) f cdv A outer s H E).nox := ⟨hG, hS, rfl⟩
    have hr1 : Room 1 (cxOf CX0 P wd K mg base ["script", "kept_ones", "k", "pile", "which", "thing", "more", "due", "both", "error"] "law" (defScope sLaw) f cdv A outer s H E).nox.A := hr.mono (by decide)
    have hr3 : Room 3 (cxOf CX0 P wd K mg base ["script", "kept_ones", "k", "pile", "which", "thing", "more", "due", "both", "error"] "law" (defScope sLaw) f cdv A outer s H E).nox.A := hr.mono (by decide)
    have bve : bootBuiltins "ValueError" = some (.type "ValueError") := by decide +kernel
    refine ⟨_, (pss_cons (ps_set (i := 1) scLaw.nd rfl (Or.inl rfl) (pe_lst pa_nil))
      (pss_cons (ps_for PassesOwn.never rfl (pi_range1 rfl zr (pa_cons (pe_int) pa_nil)) (pg_name (i := 2) scLaw.nd rfl (Or.inl rfl)) (pss_cons (ps_set (i := 3) scLaw.nd rfl (Or.inl rfl) (pe_call GP hr1 rfl gP kP bP .nil pass0 (pa_cons (pv 0) (pa_cons (pv 2) pa_nil))))
      (pss_one (ps_for PassesOwn.never rfl (pi_range1 rfl zr (pa_cons (pe_int) pa_nil)) (pg_name (i := 4) scLaw.nd rfl (Or.inl rfl)) (pss_cons (ps_par (i := 5) (j := 6) rfl scLaw.nd rfl rfl (by decide) rfl rfl (pa_cons (pe_call GO hr3 rfl gO kO bO .nil pass0 (pa_cons (pv 3) pa_nil)) (pa_cons (pe_call GO hr3 rfl gO kO bO .nil pass0 (pa_cons (pv 3) pa_nil)) pa_nil)) (by rfl))
      (pss_cons (ps_set (i := 7) scLaw.nd rfl (Or.inl rfl) (pe_ix ix_list (pe_lst (pa_cons (pe_lst (pa_cons (pv 5) pa_nil)) (pa_cons (pe_lst (pa_cons (pv 5) (pa_cons (pv 6) pa_nil))) (pa_cons (pe_lst pa_nil) pa_nil)))) (pe_op op_add (pe_callTy call_int1 (by rfl) zn bt_int (pa_cons (pe_cmpR op_eq (pv 4) pe_int (nomark _)) pa_nil)) (pe_op op_mul pe_int (pe_callTy call_int1 (by rfl) zn bt_int (pa_cons (pe_cmpR op_eq (pv 4) pe_int (nomark _)) pa_nil)))) (fun _ _ => rfl)))
      (pss_cons (ps_expr (pe_bm PySem.F.plainAttrs_list PySem.F.slot_list_append PySem.F.type_list_append mt_append (pv 1) (pa_cons (pe_tup (pa_cons (pv 4) (pa_cons (pe_call GB hr3 rfl gB kB bB .nil pass0 (pa_cons (pv 4) (pa_cons (pv 5) (pa_cons (pv 6) pa_nil)))) (pa_cons (pv 7) pa_nil)))) pa_nil)))
      (pss_one (ps_if (PW.pt (pw_and (pt_cmpR op_notIn_seq (pv 4) (pe_lst (pa_cons (pe_int) (pa_cons (pe_int) pa_nil))) (by rfl)) (pw_and1 (pt_not (PW.pt (pw_and (pt_val (pe_callG GH g hr rfl gH kH bH .nil pass0 (pa_cons (pv 4) (pa_cons (pe_lst (pa_cons (pv 2) pa_nil)) pa_nil)))) (pw_and1 (pt_val (pe_callG GH g hr rfl gH kH bH .nil pass0 (pa_cons (pv 4) (pa_cons (pe_disp (pps_cons pe_str (pv 2) pps_nil) (by rfl) (by rfl) (fun z => by cases z) (by decide)) pa_nil))))))))))) (pss_one (ps_ret pe_bl)) pss_nil)))))))))
      (pss_cons (ps_for PassesOwn.never rfl (pi_list (pv 1)) (pg_tup rfl (pgs_cons (pg_name (i := 4) scLaw.nd rfl (Or.inl rfl)) (pgs_cons (pg_name (i := 8) scLaw.nd rfl (Or.inl rfl)) (pgs_cons (pg_name (i := 7) scLaw.nd rfl (Or.inl rfl)) pgs_nil)))) (pss_one (ps_for PassesOwn.never rfl (pi_list (pv 8)) (pg_name (i := 9) scLaw.nd rfl (Or.inl rfl)) (pss_cons (ps_if (PW.pt (pw_or (pt_not (pt_val (pe_callB call_errIs (by rfl) zi bt_isinstance (pa_cons (pv 9) (pa_cons (pe_glob (v := .ref C) rfl gC rfl) pa_nil))))) (pw_or (pt_not (pt_val (pe_callB call_errIs (by rfl) zi bt_isinstance (pa_cons (pv 9) (pa_cons (pe_bltn (v := .ty "ValueError") (by rfl) zv bve rfl) pa_nil))))) (pw_or1 (pt_cmpR (op_neD hr.units) (pe_call GK hr1 rfl gK kK bK .nil pass0 (pa_cons (pv 9) pa_nil)) (pe_lst (pa_cons (pv 4) pa_nil)) (nomark _)))))) (pss_one (ps_ret pe_bl)) pss_nil)
      (pss_one (ps_if (pt_not (pt_val (pe_callG GA g hr1 rfl gA kA bA .nil pass0 (pa_cons (pe_call GV hr1 rfl gV kV bV .nil pass0 (pa_cons (pv 4) (pa_cons (pv 9) pa_nil))) (pa_cons (pv 7) pa_nil))))) (pss_one (ps_ret pe_bl)) pss_nil))))))
      (pss_one (ps_ret pe_bl))))), ?_⟩
    refine ⟨(by show 0 ≤ sizeLine; decide), fun L hL => ⟨8, rfl, by decide, by decide, for_range (n := 8) (fun k σ H' => ∃ v2 v3 v4 v5 v6 v7 v8 v9 : Option V, σ = [some (.ref a), some (.ref L), v2, v3, v4, v5, v6, v7, v8, v9] ∧ Kept K c a (ns.map V.int) L [] H' (15 * k))
      ⟨none, none, none, none, none, none, none, none, rfl, H, [], same_new hL, fun b hb => by rw [List.mem_singleton.mp hb]; exact hL, upd_same, rfl, hns, fun _ z => nomatch z⟩ ?_ ?_⟩⟩
    · rintro k σ H1 hk ⟨v2, v3, v4, v5, v6, v7, v8, v9, rfl, G, xs, s1, n1, hL1, len1, sq1, ok1⟩
      rw [Int.zero_add]
      refine ⟨_, rfl, _, rfl, a, ns, k, rfl, Same.seq s1 sq1, fun H2 P Lp s2 nP hP hpile => ?_⟩
      have nPL : P ≠ L := (ne_of_none hL1 nP).symm
      refine ⟨15, rfl, by decide, by decide, for_range (n := 15) (fun w σ H' => ∃ v4 v5 v6 v7 v8 v9 : Option V, σ = [some (.ref a), some (.ref L), some (.int (k : Int)), some (.ref P), v4, v5, v6, v7, v8, v9] ∧ (∃ Lp, H' P = some (.lst Lp) ∧ Pile (decide ((k : Int) < 2)) Lp) ∧ Kept K c a (ns.map V.int) L [P] H' (15 * k + w))
        ⟨v4, v5, v6, v7, v8, v9, rfl, ⟨Lp, hP, hpile⟩, G, xs, s1.trans s2, fun b hb => ?_, s2 _ _ hL1, len1, sq1, ok1⟩ ?_ ?_⟩
      · rcases List.mem_cons.mp hb with z | z
        · rw [z]
          exact n1 L List.mem_cons_self
        · rw [List.mem_singleton.mp z]
          exact Same.free s1 nP
      · rintro w σ H3 hw ⟨u4, u5, u6, u7, u8, u9, rfl, ⟨L3, hP3, hpile3⟩, G3, xs3, s3, n3, hL3, len3, sq3, ok3⟩
        rw [Int.zero_add]
        refine ⟨_, rfl, P, _, L3, rfl, hP3, hpile3, fun i x L4 H4 odd4 new4 b4 hP4 hpile4 => ⟨_, rfl, P, _, L4, rfl, hP4, hpile4, fun j y L5 H5 odd5 new5 b5 hP5 hpile5 => ⟨x, y, rfl, ?_⟩⟩⟩
        have hL4 := b4 _ _ nPL.symm hL3
        have hL5 := b5 _ _ nPL.symm hL4
        refine ⟨_, rfl, (by show 1 ≤ sizeLine; decide), fun d0 h0 => ⟨_, rfl, _, rfl, (by show 2 ≤ sizeLine; decide), fun d1 h1 => ⟨(by show 0 ≤ sizeLine; decide), fun d2 h2 => ⟨(by show 3 ≤ sizeLine; decide), fun dl hl => ?_⟩⟩⟩⟩
        have t0 := same_new (o := .lst [x]) h0
        have t1 := same_new (o := .lst [x, y]) h1
        have t2 := same_new (o := .lst []) h2
        have tl := same_new (o := .lst [.ref d0, .ref d1, .ref d2]) hl
        have s6 := t0.trans (t1.trans (t2.trans tl))
        obtain ⟨du, hat, hdu, hval⟩ := due_at (w := w) (x := x) (y := y) (d0 := d0) (d1 := d1) (d2 := d2)
        have hdu6 := hval _ ((t1.trans (t2.trans tl)) _ _ upd_same) ((t2.trans tl) _ _ upd_same) (tl _ _ upd_same)
        have ndu : H5 du = none := by
          rcases hdu with z | z | z
          · rw [z]
            exact h0
          · rw [z]
            exact (fresh h1).2
          · rw [z]
            exact (fresh (fresh h2).2).2
        have hL6 := s6 _ _ hL5
        refine ⟨_, rfl, rfl, .inr ⟨_, rfl, _, rfl, rfl, .inr ⟨_, rfl, _, _, rfl, rfl, .inl ⟨by decide, by decide⟩, _, _, rfl, rfl, dl, _, _, _, rfl, rfl, SqL.of upd_same, hat, ?_⟩⟩⟩
        refine ⟨_, rfl, .inl ⟨rfl, _, SqL.of hL6⟩, _, rfl, _, rfl, _, rfl, _, rfl, w, x, y, rfl, hw, fun H7 bo es s7 nbo hbo les hes => ⟨_, rfl, (by show 3 ≤ sizeLine; decide), fun t ht => ⟨L, _, _, rfl, rfl, same_new ht _ _ (s7 _ _ hL6), ?_, ?_⟩⟩⟩
        · rw [len3]
          exact Nat.lt_of_lt_of_le (show 15 * k + w < 200 by omega) (by decide)
        have keep := fun (H' : Hp) (s' : Same (upd (upd H7 t (.tup [.int (w : Int), .ref bo, .ref du])) L (.lst (xs3 ++ [.ref t]))) H') => keep_turn nPL s3 n3 hL3 hP3 len3 sq3 ok3 b4 hP4 b5 hP5 s6 s7 hw odd4 new4 odd5 new5 nbo hbo hes ndu hdu6 ht s'
        have fin : ∀ H' : Hp, Same (upd (upd H7 t (.tup [.int (w : Int), .ref bo, .ref du])) L (.lst (xs3 ++ [.ref t]))) H' → ∃ v4 v5 v6 v7 v8 v9 : Option V, ([some (.ref a), some (.ref L), some (.int (k : Int)), some (.ref P), some (.int (w : Int)), some x, some y, some (.ref du), u8, u9] : List (Option V)) = [some (.ref a), some (.ref L), some (.int (k : Int)), some (.ref P), v4, v5, v6, v7, v8, v9] ∧
            (∃ Lp, H' P = some (.lst Lp) ∧ Pile (decide ((k : Int) < 2)) Lp) ∧ Kept K c a (ns.map V.int) L [P] H' (15 * k + (w + 1)) := fun H' s' =>
          ⟨_, _, _, _, _, _, rfl, ⟨L5, (keep H' s').2, hpile5⟩, (keep H' s').1⟩
        refine ⟨_, rfl, (by show 2 ≤ sizeLine; decide), fun l9 h9 => ⟨l9, _, rfl, .inl (SqL.of upd_same), rfl, rfl, _, rfl, ?_⟩⟩
        have s9 := same_new (o := .lst [.int 12, .int 14]) h9
        refine ite2 (fun hin => ?_) (fun hin => fin _ s9)
        have n12 : w ≠ 12 := fun z => by
          rw [z] at hin
          exact absurd hin (by decide +kernel)
        have n14 : w ≠ 14 := fun z => by
          rw [z] at hin
          exact absurd hin (by decide +kernel)
        have k0 : (0 : Int) ≤ (k : Int) := by omega
        have k1 : (k : Int) < 1000 := by omega
        refine ⟨_, rfl, _, rfl, (by show 1 ≤ sizeLine; decide), fun T hT => ⟨w, T, _, _, _, rfl, hw, n12, n14, upd_same, .lst (k : Int) k0 k1, fun H9 b9 => ⟨true, rfl, ?_⟩⟩⟩
        refine it_t rfl ?_
        have s10 : Same (upd (upd H7 t (.tup [.int (w : Int), .ref bo, .ref du])) L (.lst (xs3 ++ [.ref t]))) H9 := fun b o e => by
          have e2 := s9 _ _ e
          have nb : b ≠ T := ne_of_none e2 hT
          exact b9 _ _ nb ((upd_ne nb).trans e2)
        refine ⟨_, rfl, fun T2 hT2 => ⟨_, rfl, upd_same, [(Sum.inr "a", .int (k : Int))], rfl, (by show 1 ≤ 15; decide), w, T2, _, _, _, rfl, hw, n12, n14, upd_same, .dic (k : Int) k0 k1, fun H10 b10 => ⟨true, rfl, ?_⟩⟩⟩
        refine it_f rfl ?_
        refine fin _ fun b o e => ?_
        have e2 := s10 _ _ e
        have nb : b ≠ T2 := ne_of_none e2 hT2
        exact b10 _ _ nb ((upd_ne nb).trans ((upd_ne nb).trans e2))
      · rintro σ H4 ⟨u4, u5, u6, u7, u8, u9, rfl, _, G4, xs4, s4, n4, hL4, len4, sq4, ok4⟩
        refine ⟨_, _, _, _, _, _, _, _, rfl, G4, xs4, s4, fun b hb => n4 b ?_, hL4, ?_, sq4, ok4⟩
        · rw [List.mem_singleton.mp hb]
          exact List.mem_cons_self
        · rw [len4]
          omega
    · rintro σ H1 ⟨v2, v3, v4, v5, v6, v7, v8, v9, rfl, G, xs, s1, n1, hL1, len1, sq1, ok1⟩
      refine ⟨_, rfl, L, rfl, ⟨_, SqL.of hL1⟩, for_list (K := K) (a := L) (xs := xs) (fun i σ H' => ∃ v2 v3 v4 v5 v6 v7 v8 v9 : Option V, σ = [some (.ref a), some (.ref L), v2, v3, v4, v5, v6, v7, v8, v9] ∧ Same H1 H')
        ⟨v2, v3, v4, v5, v6, v7, v8, v9, rfl, Same.refl _⟩ (fun i σ H' _ p => ?_) ?_ ?_⟩
      · obtain ⟨_, _, _, _, _, _, _, _, _, s⟩ := p
        exact Same.seq s (SqL.of hL1)
      · rintro i v σ H2 hi ⟨u2, u3, u4, u5, u6, u7, u8, u9, rfl, s2⟩
        obtain ⟨t, bo, du, w, x, y, es, ds, rfl, hw, ht, hbo, hes, hdu, hds, hfit⟩ := (ok1 v (List.mem_of_getElem? hi)).mono (s1.trans s2)
        refine ⟨t, _, rfl, Or.inl (Or.inl ht), rfl, _, _, rfl, _, _, rfl, _, _, rfl, rfl, ?_⟩
        refine ⟨_, rfl, bo, rfl, ⟨_, SqL.of hbo⟩, for_list (K := K) (a := bo) (xs := es.map V.ref) (fun i σ H' => ∃ v9 : Option V, σ = [some (.ref a), some (.ref L), u2, u3, some (.int (w : Int)), u5, u6, some (.ref du), some (.ref bo), v9] ∧ Same H2 H')
          ⟨u9, rfl, Same.refl _⟩ (fun i σ H' _ p => ?_) ?_ ?_⟩
        · obtain ⟨_, _, s⟩ := p
          exact Same.seq s (SqL.of hbo)
        · rintro m v σ H3 hm ⟨u9, rfl, s3⟩
          obtain ⟨e, he, rfl⟩ : ∃ e ∈ es, v = V.ref e := by
            obtain ⟨e, he, ee⟩ := List.mem_map.mp (List.mem_of_getElem? hm)
            exact ⟨e, he, ee.symm⟩
          have hok := (hes e he).mono s3
          have hany := hok.any
          refine ⟨_, rfl, e, c.at_ w, _, _, true, rfl, .own _, kit.ev w hw, hany, kit.hall w hw, _, rfl, ?_⟩
          refine it_f rfl ?_
          refine ⟨_, rfl, e, c.at_ w, _, _, true, rfl, .ty _, kit.ev w hw, hany, kit.val w hw, _, rfl, ?_⟩
          refine it_f rfl ?_
          refine ⟨_, rfl, w, e, rfl, hw, hany, fun H4 p s4 np hp => ⟨_, rfl, (by show 1 ≤ sizeLine; decide), fun l hl => ?_⟩⟩
          have s5 := same_new (o := .lst [.int (w : Int)]) hl
          refine ⟨.list [.int (w : Int)], .list [.int (w : Int)], .lst (SqL.of (s5 _ _ hp)) (.cons (.int _) .nil), .lst (SqL.of upd_same) (.cons (.int _) .nil), rfl, rfl, _, rfl, ?_⟩
          have ev : PyData.eqv (.list [.int (w : Int)]) (.list [.int (w : Int)]) = true := by simp [PyData.eqv, PyData.eqvAll]
          rw [ev]
          refine it_f rfl ?_
          have s345 := s4.trans s5
          refine ⟨_, rfl, _, rfl, w, x, y, e, rfl, hw, hok.mono s345, fun H6 p2 s6 np2 hp2 => ⟨_, rfl, .ref p2, .ref du, .list ds, .list ds, rfl, ?_, ?_, hfit, hfit, _, rfl, ?_⟩⟩
          · exact .lst (SqL.of hp2) (RDs.mono (s3.trans (s345.trans s6)) _ _ hds)
          · exact .lst (SqL.of ((s3.trans (s345.trans s6)) _ _ hdu)) (RDs.mono (s3.trans (s345.trans s6)) _ _ hds)
          · have e1 : decide (V.str (PyData.list ds).shown = V.str (PyData.list ds).shown) = true := decide_eq_true rfl
            rw [e1]
            refine it_f rfl ?_
            exact ⟨_, rfl, s3.trans (s345.trans s6)⟩
        · rintro σ H3 ⟨u9, rfl, s3⟩
          exact ⟨_, _, _, _, _, _, _, _, rfl, s2.trans s3⟩
      · rintro σ H2 _
        exact q _
end
end Paw

set_option maxRecDepth 100000
set_option maxHeartbeats 4000000
namespace Paw
open PySem PySem.Spec PyProof.Rows L2
abbrev bmOf (CH : Addr) : List Value := [.ref CH, .type "ValueError", .type "Exception", .type "BaseException", .type "object"]
section
variable {K : PySem.W.Frag} {mg : Str → Option Value} {h : Heap} {C CH : Addr} {nm q : Str} {N : Addr} {bs : List Value} {sn : List Str} {sub : List Value} {ab : Bool} {col : Option Bool} {dd : Option Addr} {m0 m1 m2 m3 m5 : Option Value}
/-- a class of errors, by what the written part says -/
theorem exv_mk (xL : K.lookup C = some (excClassObj nm q C N bs (bmOf CH) true sn sub ab col dd m0 m1 m2 m3 m5 "ValueError.__new__"))
    (sa : PySem.W.findIn K (.ref C) "__setattr__" = some (some (.builtin "object.__setattr__"))) (ga : PySem.W.findIn K (.ref C) "__getattribute__" = some (some (.builtin "BaseException.__getattribute__"))) (gg : PySem.W.findIn K (.ref C) "__getattr__" = some none)
    (kC : PySem.W.keepIn K (.ref C) = true) (tC : PySem.W.typeIn K (.ref C) = some (.type "type")) (ca : PySem.W.findIn K (.ref C) "__class__" = some (some (.builtin "object.__class__")))
    (cg : PySem.W.specialIn K (.builtin "object.__class__") "__get__" = some (some (.builtin "getset_descriptor.__get__"))) (ct : PySem.W.takesIn K (.builtin "object.__class__") = some true) : ExV K C := by
  have cl : PySem.W.clsIn K C = some { name := nm, bases := bs, mro := .ref C :: bmOf CH, ns := N, qualname := q, hasDict := true, slotNames := sn, subclasses := sub, abstract := ab, collection := col, hasDel := false } := by
    unfold PySem.W.clsIn
    rw [xL] <;> rfl
  have ob : PySem.W.mroIn K C (.type "object") = some true := by
    unfold PySem.W.mroIn
    rw [cl] <;> rfl
  have ex : PySem.W.subIn K (.ref C) (.type "BaseException") = some true := by
    show PySem.W.mroIn K C (.type "BaseException") = some true
    unfold PySem.W.mroIn
    rw [cl] <;> rfl
  have hd : PySem.W.hasDictIn K C = true := by
    unfold PySem.W.hasDictIn
    rw [cl] <;> rfl
  exact ⟨⟨⟨nm, q, N, bs, bmOf CH, sn, sub, ab, col, dd, m0, m1, m2, m3, m5, xL, by rfl⟩, sa, ex, tC, kC⟩, ga, gg, hd, ca, cg, ct, ob⟩
theorem kit_cls_of {D DH : Addr} {nm' q' : Str} {N' : Addr} {bs' : List Value} {sn' : List Str} {sub' : List Value} {ab' : Bool} {col' : Option Bool} {dd' : Option Addr} {n0 n1 n2 n3 n5 : Option Value} {b : Bool}
    (xC : K.lookup C = some (excClassObj nm q C N bs (bmOf CH) true sn sub ab col dd m0 m1 m2 m3 m5 "ValueError.__new__"))
    (hD : (PySem.W.clsIn K D).isSome = true) (tD : PySem.W.typeIn K (.ref D) = some (.type "type")) (e : (decide (C = D) || decide (CH = D)) = b) : PySem.W.kitOne K (.ref C) (.ref D) = some b := by
  have cl : PySem.W.clsIn K C = some { name := nm, bases := bs, mro := .ref C :: bmOf CH, ns := N, qualname := q, hasDict := true, slotNames := sn, subclasses := sub, abstract := ab, collection := col, hasDel := false } := by
    unfold PySem.W.clsIn
    rw [xC] <;> rfl
  unfold PySem.W.kitOne
  by_cases z : C = D
  · subst z
    rw [if_pos (by simp)]
    rw [decide_eq_true (rfl : C = C)] at e
    rw [← e]
    rfl
  · have ne : (Value.ref C == Value.ref D) = false := beq_eq_false_iff_ne.mpr fun y => z (by injection y)
    rw [ne, if_neg Bool.false_ne_true]
    show (if ((PySem.W.clsIn K D).isSome && PySem.W.typeIn K (.ref D) == some (.type "type")) = true then PySem.W.mroIn K C (.ref D) else none) = some b
    rw [tD, hD, if_pos (by rfl)]
    unfold PySem.W.mroIn
    rw [cl]
    show some (List.contains (.ref C :: bmOf CH) (.ref D)) = some b
    rw [decide_eq_false z, Bool.false_or] at e
    rw [← e]
    congr 1
    by_cases y : CH = D
    · subst y
      rw [decide_eq_true (rfl : CH = CH)]
      simp
    · rw [decide_eq_false y]
      have z2 : ¬ D = C := fun k => z k.symm
      have y2 : ¬ D = CH := fun k => y k.symm
      simp [z2, y2]
theorem kit_val_of (xC : K.lookup C = some (excClassObj nm q C N bs (bmOf CH) true sn sub ab col dd m0 m1 m2 m3 m5 "ValueError.__new__")) : PySem.W.kitOne K (.ref C) (.type "ValueError") = some true := by
  have cl : PySem.W.clsIn K C = some { name := nm, bases := bs, mro := .ref C :: bmOf CH, ns := N, qualname := q, hasDict := true, slotNames := sn, subclasses := sub, abstract := ab, collection := col, hasDel := false } := by
    unfold PySem.W.clsIn
    rw [xC] <;> rfl
  unfold PySem.W.kitOne
  rw [show (Value.ref C == Value.type "ValueError") = false from rfl, if_neg Bool.false_ne_true]
  show (if PySem.W.kitMeta "ValueError" = true then PySem.W.mroIn K C (.type "ValueError") else none) = some true
  rw [if_pos (by decide +kernel)]
  unfold PySem.W.mroIn
  rw [cl] <;> rfl
theorem cls_some (xC : K.lookup C = some (excClassObj nm q C N bs (bmOf CH) true sn sub ab col dd m0 m1 m2 m3 m5 "ValueError.__new__")) : (PySem.W.clsIn K C).isSome = true := by
  unfold PySem.W.clsIn
  rw [xC] <;> rfl
end
end Paw

set_option maxRecDepth 100000
set_option maxHeartbeats 4000000
namespace Paw
open PySem PySem.Spec PyProof.Rows L2
theorem all_mk {l : PySem.W.OpenLaw} {wd : World} {K : PySem.W.Frag} {h : Heap} {mg : Str → Option Value} {fa : Addr} (X : K.In h) (G : h.Ns mainGlobals mg) (hfa : mg "law" = some (.ref fa))
    {CH : Addr}
    {C0 N0 : Addr} {nm0 q0 : Str} {bs0 : List Value} {sn0 : List Str} {sb0 : List Value} {ab0 : Bool} {co0 : Option Bool} {dd0 : Option Addr} {ma0 mb0 mc0 md0 me0 : Option Value}
    {f0 : Addr} {od0 an0 : Option Addr} {sl0 : Array (Option Value)} {oc0 kV0 dc0 pm0 cd0 ct0 : Value}
    {C1 N1 : Addr} {nm1 q1 : Str} {bs1 : List Value} {sn1 : List Str} {sb1 : List Value} {ab1 : Bool} {co1 : Option Bool} {dd1 : Option Addr} {ma1 mb1 mc1 md1 me1 : Option Value}
    {f1 : Addr} {od1 an1 : Option Addr} {sl1 : Array (Option Value)} {oc1 kV1 dc1 pm1 cd1 ct1 : Value}
    {C2 N2 : Addr} {nm2 q2 : Str} {bs2 : List Value} {sn2 : List Str} {sb2 : List Value} {ab2 : Bool} {co2 : Option Bool} {dd2 : Option Addr} {ma2 mb2 mc2 md2 me2 : Option Value}
    {f2 : Addr} {od2 an2 : Option Addr} {sl2 : Array (Option Value)} {oc2 kV2 dc2 pm2 cd2 ct2 : Value}
    {C3 N3 : Addr} {nm3 q3 : Str} {bs3 : List Value} {sn3 : List Str} {sb3 : List Value} {ab3 : Bool} {co3 : Option Bool} {dd3 : Option Addr} {ma3 mb3 mc3 md3 me3 : Option Value}
    {f3 : Addr} {od3 an3 : Option Addr} {sl3 : Array (Option Value)} {oc3 kV3 dc3 pm3 cd3 ct3 : Value}
    {C4 N4 : Addr} {nm4 q4 : Str} {bs4 : List Value} {sn4 : List Str} {sb4 : List Value} {ab4 : Bool} {co4 : Option Bool} {dd4 : Option Addr} {ma4 mb4 mc4 md4 me4 : Option Value}
    {f4 : Addr} {od4 an4 : Option Addr} {sl4 : Array (Option Value)} {oc4 kV4 dc4 pm4 cd4 ct4 : Value}
    {C5 N5 : Addr} {nm5 q5 : Str} {bs5 : List Value} {sn5 : List Str} {sb5 : List Value} {ab5 : Bool} {co5 : Option Bool} {dd5 : Option Addr} {ma5 mb5 mc5 md5 me5 : Option Value}
    {f5 : Addr} {od5 an5 : Option Addr} {sl5 : Array (Option Value)} {oc5 kV5 dc5 pm5 cd5 ct5 : Value}
    {C6 N6 : Addr} {nm6 q6 : Str} {bs6 : List Value} {sn6 : List Str} {sb6 : List Value} {ab6 : Bool} {co6 : Option Bool} {dd6 : Option Addr} {ma6 mb6 mc6 md6 me6 : Option Value}
    {f6 : Addr} {od6 an6 : Option Addr} {sl6 : Array (Option Value)} {oc6 kV6 dc6 pm6 cd6 ct6 : Value}
    {C7 N7 : Addr} {nm7 q7 : Str} {bs7 : List Value} {sn7 : List Str} {sb7 : List Value} {ab7 : Bool} {co7 : Option Bool} {dd7 : Option Addr} {ma7 mb7 mc7 md7 me7 : Option Value}
    {f7 : Addr} {od7 an7 : Option Addr} {sl7 : Array (Option Value)} {oc7 kV7 dc7 pm7 cd7 ct7 : Value}
    {C8 N8 : Addr} {nm8 q8 : Str} {bs8 : List Value} {sn8 : List Str} {sb8 : List Value} {ab8 : Bool} {co8 : Option Bool} {dd8 : Option Addr} {ma8 mb8 mc8 md8 me8 : Option Value}
    {f8 : Addr} {od8 an8 : Option Addr} {sl8 : Array (Option Value)} {oc8 kV8 dc8 pm8 cd8 ct8 : Value}
    {C9 N9 : Addr} {nm9 q9 : Str} {bs9 : List Value} {sn9 : List Str} {sb9 : List Value} {ab9 : Bool} {co9 : Option Bool} {dd9 : Option Addr} {ma9 mb9 mc9 md9 me9 : Option Value}
    {f9 : Addr} {od9 an9 : Option Addr} {sl9 : Array (Option Value)} {oc9 kV9 dc9 pm9 cd9 ct9 : Value}
    {C10 N10 : Addr} {nm10 q10 : Str} {bs10 : List Value} {sn10 : List Str} {sb10 : List Value} {ab10 : Bool} {co10 : Option Bool} {dd10 : Option Addr} {ma10 mb10 mc10 md10 me10 : Option Value}
    {f10 : Addr} {od10 an10 : Option Addr} {sl10 : Array (Option Value)} {oc10 kV10 dc10 pm10 cd10 ct10 : Value}
    {C11 N11 : Addr} {nm11 q11 : Str} {bs11 : List Value} {sn11 : List Str} {sb11 : List Value} {ab11 : Bool} {co11 : Option Bool} {dd11 : Option Addr} {ma11 mb11 mc11 md11 me11 : Option Value}
    {f11 : Addr} {od11 an11 : Option Addr} {sl11 : Array (Option Value)} {oc11 kV11 dc11 pm11 cd11 ct11 : Value}
    {C12 N12 : Addr} {nm12 q12 : Str} {bs12 : List Value} {sn12 : List Str} {sb12 : List Value} {ab12 : Bool} {co12 : Option Bool} {dd12 : Option Addr} {ma12 mb12 mc12 md12 me12 : Option Value}
    {f12 : Addr} {od12 an12 : Option Addr} {sl12 : Array (Option Value)} {oc12 kV12 dc12 pm12 cd12 ct12 : Value}
    {C13 N13 : Addr} {nm13 q13 : Str} {bs13 : List Value} {sn13 : List Str} {sb13 : List Value} {ab13 : Bool} {co13 : Option Bool} {dd13 : Option Addr} {ma13 mb13 mc13 md13 me13 : Option Value}
    {f13 : Addr} {od13 an13 : Option Addr} {sl13 : Array (Option Value)} {oc13 kV13 dc13 pm13 cd13 ct13 : Value}
    {C14 N14 : Addr} {nm14 q14 : Str} {bs14 : List Value} {sn14 : List Str} {sb14 : List Value} {ab14 : Bool} {co14 : Option Bool} {dd14 : Option Addr} {ma14 mb14 mc14 md14 me14 : Option Value}
    {g0 : Addr} {Od0 An0 : Option Addr} {Sl0 : Array (Option Value)} {Oc0 KV0 Dc0 Pm0 Cd0 Ct0 : Value}
    {g1 : Addr} {Od1 An1 : Option Addr} {Sl1 : Array (Option Value)} {Oc1 KV1 Dc1 Pm1 Cd1 Ct1 : Value}
    {g2 : Addr} {Od2 An2 : Option Addr} {Sl2 : Array (Option Value)} {Oc2 KV2 Dc2 Pm2 Cd2 Ct2 : Value}
    {g3 : Addr} {Od3 An3 : Option Addr} {Sl3 : Array (Option Value)} {Oc3 KV3 Dc3 Pm3 Cd3 Ct3 : Value}
    {g4 : Addr} {Od4 An4 : Option Addr} {Sl4 : Array (Option Value)} {Oc4 KV4 Dc4 Pm4 Cd4 Ct4 : Value}
    {g5 : Addr} {Od5 An5 : Option Addr} {Sl5 : Array (Option Value)} {Oc5 KV5 Dc5 Pm5 Cd5 Ct5 : Value}
    {g6 : Addr} {Od6 An6 : Option Addr} {Sl6 : Array (Option Value)} {Oc6 KV6 Dc6 Pm6 Cd6 Ct6 : Value}
    {g7 : Addr} {Od7 An7 : Option Addr} {Sl7 : Array (Option Value)} {Oc7 KV7 Dc7 Pm7 Cd7 Ct7 : Value}
    {g8 : Addr} {Od8 An8 : Option Addr} {Sl8 : Array (Option Value)} {Oc8 KV8 Dc8 Pm8 Cd8 Ct8 : Value}
    {g9 : Addr} {Od9 An9 : Option Addr} {Sl9 : Array (Option Value)} {Oc9 KV9 Dc9 Pm9 Cd9 Ct9 : Value}
    (cg : PySem.W.specialIn K (.builtin "object.__class__") "__get__" = some (some (.builtin "getset_descriptor.__get__")))
    (ct : PySem.W.takesIn K (.builtin "object.__class__") = some true)
    (aH : PySem.W.nsIn K mainGlobals "HallError" = some (some (.ref CH)))
    (iH : PySem.W.isClsIn K CH = true)
    (tH : PySem.W.typeIn K (.ref CH) = some (.type "type"))
    (aC0 : PySem.W.nsIn K mainGlobals "NoFraction" = some (some (.ref C0)))
    (x0 : K.lookup C0 = some (excClassObj nm0 q0 C0 N0 bs0 (bmOf CH) true sn0 sb0 ab0 co0 dd0 ma0 mb0 mc0 md0 me0 "ValueError.__new__"))
    (sa0 : PySem.W.findIn K (.ref C0) "__setattr__" = some (some (.builtin "object.__setattr__")))
    (ga0 : PySem.W.findIn K (.ref C0) "__getattribute__" = some (some (.builtin "BaseException.__getattribute__")))
    (gg0 : PySem.W.findIn K (.ref C0) "__getattr__" = some none)
    (kC0 : PySem.W.keepIn K (.ref C0) = true)
    (tC0 : PySem.W.typeIn K (.ref C0) = some (.type "type"))
    (ca0 : PySem.W.findIn K (.ref C0) "__class__" = some (some (.builtin "object.__class__")))
    (no0_0 : PySem.W.findIn K (.ref C0) "value" = some none)
    (i0 : PySem.W.findIn K (.ref C0) "__init__" = some (some (.ref f0)))
    (t0 : PySem.W.typeIn K (.ref f0) = some (.type "function"))
    (l0 : K.lookup f0 = some ⟨oc0, od0, .func (PySem.W.fnOf "__init__" "NoFraction.__init__" (defArgs sI0) (defBody sI0) (defScope sI0) .none kV0 dc0 pm0 an0 cd0 ct0), sl0⟩)
    (c0 : PySem.W.codeIn K cd0 "NoFraction.__init__" = true)
    (k0 : PySem.W.keepIn K (.ref f0) = true)
    (aC1 : PySem.W.nsIn K mainGlobals "NoName" = some (some (.ref C1)))
    (x1 : K.lookup C1 = some (excClassObj nm1 q1 C1 N1 bs1 (bmOf CH) true sn1 sb1 ab1 co1 dd1 ma1 mb1 mc1 md1 me1 "ValueError.__new__"))
    (sa1 : PySem.W.findIn K (.ref C1) "__setattr__" = some (some (.builtin "object.__setattr__")))
    (ga1 : PySem.W.findIn K (.ref C1) "__getattribute__" = some (some (.builtin "BaseException.__getattribute__")))
    (gg1 : PySem.W.findIn K (.ref C1) "__getattr__" = some none)
    (kC1 : PySem.W.keepIn K (.ref C1) = true)
    (tC1 : PySem.W.typeIn K (.ref C1) = some (.type "type"))
    (ca1 : PySem.W.findIn K (.ref C1) "__class__" = some (some (.builtin "object.__class__")))
    (no1_0 : PySem.W.findIn K (.ref C1) "name" = some none)
    (i1 : PySem.W.findIn K (.ref C1) "__init__" = some (some (.ref f1)))
    (t1 : PySem.W.typeIn K (.ref f1) = some (.type "function"))
    (l1 : K.lookup f1 = some ⟨oc1, od1, .func (PySem.W.fnOf "__init__" "NoName.__init__" (defArgs sI1) (defBody sI1) (defScope sI1) .none kV1 dc1 pm1 an1 cd1 ct1), sl1⟩)
    (c1 : PySem.W.codeIn K cd1 "NoName.__init__" = true)
    (k1 : PySem.W.keepIn K (.ref f1) = true)
    (aC2 : PySem.W.nsIn K mainGlobals "Twice" = some (some (.ref C2)))
    (x2 : K.lookup C2 = some (excClassObj nm2 q2 C2 N2 bs2 (bmOf CH) true sn2 sb2 ab2 co2 dd2 ma2 mb2 mc2 md2 me2 "ValueError.__new__"))
    (sa2 : PySem.W.findIn K (.ref C2) "__setattr__" = some (some (.builtin "object.__setattr__")))
    (ga2 : PySem.W.findIn K (.ref C2) "__getattribute__" = some (some (.builtin "BaseException.__getattribute__")))
    (gg2 : PySem.W.findIn K (.ref C2) "__getattr__" = some none)
    (kC2 : PySem.W.keepIn K (.ref C2) = true)
    (tC2 : PySem.W.typeIn K (.ref C2) = some (.type "type"))
    (ca2 : PySem.W.findIn K (.ref C2) "__class__" = some (some (.builtin "object.__class__")))
    (no2_0 : PySem.W.findIn K (.ref C2) "name" = some none)
    (i2 : PySem.W.findIn K (.ref C2) "__init__" = some (some (.ref f2)))
    (t2 : PySem.W.typeIn K (.ref f2) = some (.type "function"))
    (l2 : K.lookup f2 = some ⟨oc2, od2, .func (PySem.W.fnOf "__init__" "Twice.__init__" (defArgs sI2) (defBody sI2) (defScope sI2) .none kV2 dc2 pm2 an2 cd2 ct2), sl2⟩)
    (c2 : PySem.W.codeIn K cd2 "Twice.__init__" = true)
    (k2 : PySem.W.keepIn K (.ref f2) = true)
    (aC3 : PySem.W.nsIn K mainGlobals "NoTeeth" = some (some (.ref C3)))
    (x3 : K.lookup C3 = some (excClassObj nm3 q3 C3 N3 bs3 (bmOf CH) true sn3 sb3 ab3 co3 dd3 ma3 mb3 mc3 md3 me3 "ValueError.__new__"))
    (sa3 : PySem.W.findIn K (.ref C3) "__setattr__" = some (some (.builtin "object.__setattr__")))
    (ga3 : PySem.W.findIn K (.ref C3) "__getattribute__" = some (some (.builtin "BaseException.__getattribute__")))
    (gg3 : PySem.W.findIn K (.ref C3) "__getattr__" = some none)
    (kC3 : PySem.W.keepIn K (.ref C3) = true)
    (tC3 : PySem.W.typeIn K (.ref C3) = some (.type "type"))
    (ca3 : PySem.W.findIn K (.ref C3) "__class__" = some (some (.builtin "object.__class__")))
    (no3_0 : PySem.W.findIn K (.ref C3) "value" = some none)
    (i3 : PySem.W.findIn K (.ref C3) "__init__" = some (some (.ref f3)))
    (t3 : PySem.W.typeIn K (.ref f3) = some (.type "function"))
    (l3 : K.lookup f3 = some ⟨oc3, od3, .func (PySem.W.fnOf "__init__" "NoTeeth.__init__" (defArgs sI3) (defBody sI3) (defScope sI3) .none kV3 dc3 pm3 an3 cd3 ct3), sl3⟩)
    (c3 : PySem.W.codeIn K cd3 "NoTeeth.__init__" = true)
    (k3 : PySem.W.keepIn K (.ref f3) = true)
    (aC4 : PySem.W.nsIn K mainGlobals "NoPart" = some (some (.ref C4)))
    (x4 : K.lookup C4 = some (excClassObj nm4 q4 C4 N4 bs4 (bmOf CH) true sn4 sb4 ab4 co4 dd4 ma4 mb4 mc4 md4 me4 "ValueError.__new__"))
    (sa4 : PySem.W.findIn K (.ref C4) "__setattr__" = some (some (.builtin "object.__setattr__")))
    (ga4 : PySem.W.findIn K (.ref C4) "__getattribute__" = some (some (.builtin "BaseException.__getattribute__")))
    (gg4 : PySem.W.findIn K (.ref C4) "__getattr__" = some none)
    (kC4 : PySem.W.keepIn K (.ref C4) = true)
    (tC4 : PySem.W.typeIn K (.ref C4) = some (.type "type"))
    (ca4 : PySem.W.findIn K (.ref C4) "__class__" = some (some (.builtin "object.__class__")))
    (no4_0 : PySem.W.findIn K (.ref C4) "part" = some none)
    (i4 : PySem.W.findIn K (.ref C4) "__init__" = some (some (.ref f4)))
    (t4 : PySem.W.typeIn K (.ref f4) = some (.type "function"))
    (l4 : K.lookup f4 = some ⟨oc4, od4, .func (PySem.W.fnOf "__init__" "NoPart.__init__" (defArgs sI4) (defBody sI4) (defScope sI4) .none kV4 dc4 pm4 an4 cd4 ct4), sl4⟩)
    (c4 : PySem.W.codeIn K cd4 "NoPart.__init__" = true)
    (k4 : PySem.W.keepIn K (.ref f4) = true)
    (aC5 : PySem.W.nsIn K mainGlobals "NoWheel" = some (some (.ref C5)))
    (x5 : K.lookup C5 = some (excClassObj nm5 q5 C5 N5 bs5 (bmOf CH) true sn5 sb5 ab5 co5 dd5 ma5 mb5 mc5 md5 me5 "ValueError.__new__"))
    (sa5 : PySem.W.findIn K (.ref C5) "__setattr__" = some (some (.builtin "object.__setattr__")))
    (ga5 : PySem.W.findIn K (.ref C5) "__getattribute__" = some (some (.builtin "BaseException.__getattribute__")))
    (gg5 : PySem.W.findIn K (.ref C5) "__getattr__" = some none)
    (kC5 : PySem.W.keepIn K (.ref C5) = true)
    (tC5 : PySem.W.typeIn K (.ref C5) = some (.type "type"))
    (ca5 : PySem.W.findIn K (.ref C5) "__class__" = some (some (.builtin "object.__class__")))
    (no5_0 : PySem.W.findIn K (.ref C5) "name" = some none)
    (i5 : PySem.W.findIn K (.ref C5) "__init__" = some (some (.ref f5)))
    (t5 : PySem.W.typeIn K (.ref f5) = some (.type "function"))
    (l5 : K.lookup f5 = some ⟨oc5, od5, .func (PySem.W.fnOf "__init__" "NoWheel.__init__" (defArgs sI5) (defBody sI5) (defScope sI5) .none kV5 dc5 pm5 an5 cd5 ct5), sl5⟩)
    (c5 : PySem.W.codeIn K cd5 "NoWheel.__init__" = true)
    (k5 : PySem.W.keepIn K (.ref f5) = true)
    (aC6 : PySem.W.nsIn K mainGlobals "NoTurns" = some (some (.ref C6)))
    (x6 : K.lookup C6 = some (excClassObj nm6 q6 C6 N6 bs6 (bmOf CH) true sn6 sb6 ab6 co6 dd6 ma6 mb6 mc6 md6 me6 "ValueError.__new__"))
    (sa6 : PySem.W.findIn K (.ref C6) "__setattr__" = some (some (.builtin "object.__setattr__")))
    (ga6 : PySem.W.findIn K (.ref C6) "__getattribute__" = some (some (.builtin "BaseException.__getattribute__")))
    (gg6 : PySem.W.findIn K (.ref C6) "__getattr__" = some none)
    (kC6 : PySem.W.keepIn K (.ref C6) = true)
    (tC6 : PySem.W.typeIn K (.ref C6) = some (.type "type"))
    (ca6 : PySem.W.findIn K (.ref C6) "__class__" = some (some (.builtin "object.__class__")))
    (no6_0 : PySem.W.findIn K (.ref C6) "turns" = some none)
    (i6 : PySem.W.findIn K (.ref C6) "__init__" = some (some (.ref f6)))
    (t6 : PySem.W.typeIn K (.ref f6) = some (.type "function"))
    (l6 : K.lookup f6 = some ⟨oc6, od6, .func (PySem.W.fnOf "__init__" "NoTurns.__init__" (defArgs sI6) (defBody sI6) (defScope sI6) .none kV6 dc6 pm6 an6 cd6 ct6), sl6⟩)
    (c6 : PySem.W.codeIn K cd6 "NoTurns.__init__" = true)
    (k6 : PySem.W.keepIn K (.ref f6) = true)
    (aC7 : PySem.W.nsIn K mainGlobals "NoLoad" = some (some (.ref C7)))
    (x7 : K.lookup C7 = some (excClassObj nm7 q7 C7 N7 bs7 (bmOf CH) true sn7 sb7 ab7 co7 dd7 ma7 mb7 mc7 md7 me7 "ValueError.__new__"))
    (sa7 : PySem.W.findIn K (.ref C7) "__setattr__" = some (some (.builtin "object.__setattr__")))
    (ga7 : PySem.W.findIn K (.ref C7) "__getattribute__" = some (some (.builtin "BaseException.__getattribute__")))
    (gg7 : PySem.W.findIn K (.ref C7) "__getattr__" = some none)
    (kC7 : PySem.W.keepIn K (.ref C7) = true)
    (tC7 : PySem.W.typeIn K (.ref C7) = some (.type "type"))
    (ca7 : PySem.W.findIn K (.ref C7) "__class__" = some (some (.builtin "object.__class__")))
    (no7_0 : PySem.W.findIn K (.ref C7) "load" = some none)
    (i7 : PySem.W.findIn K (.ref C7) "__init__" = some (some (.ref f7)))
    (t7 : PySem.W.typeIn K (.ref f7) = some (.type "function"))
    (l7 : K.lookup f7 = some ⟨oc7, od7, .func (PySem.W.fnOf "__init__" "NoLoad.__init__" (defArgs sI7) (defBody sI7) (defScope sI7) .none kV7 dc7 pm7 an7 cd7 ct7), sl7⟩)
    (c7 : PySem.W.codeIn K cd7 "NoLoad.__init__" = true)
    (k7 : PySem.W.keepIn K (.ref f7) = true)
    (aC8 : PySem.W.nsIn K mainGlobals "NoWishes" = some (some (.ref C8)))
    (x8 : K.lookup C8 = some (excClassObj nm8 q8 C8 N8 bs8 (bmOf CH) true sn8 sb8 ab8 co8 dd8 ma8 mb8 mc8 md8 me8 "ValueError.__new__"))
    (sa8 : PySem.W.findIn K (.ref C8) "__setattr__" = some (some (.builtin "object.__setattr__")))
    (ga8 : PySem.W.findIn K (.ref C8) "__getattribute__" = some (some (.builtin "BaseException.__getattribute__")))
    (gg8 : PySem.W.findIn K (.ref C8) "__getattr__" = some none)
    (kC8 : PySem.W.keepIn K (.ref C8) = true)
    (tC8 : PySem.W.typeIn K (.ref C8) = some (.type "type"))
    (ca8 : PySem.W.findIn K (.ref C8) "__class__" = some (some (.builtin "object.__class__")))
    (no8_0 : PySem.W.findIn K (.ref C8) "wishes" = some none)
    (i8 : PySem.W.findIn K (.ref C8) "__init__" = some (some (.ref f8)))
    (t8 : PySem.W.typeIn K (.ref f8) = some (.type "function"))
    (l8 : K.lookup f8 = some ⟨oc8, od8, .func (PySem.W.fnOf "__init__" "NoWishes.__init__" (defArgs sI8) (defBody sI8) (defScope sI8) .none kV8 dc8 pm8 an8 cd8 ct8), sl8⟩)
    (c8 : PySem.W.codeIn K cd8 "NoWishes.__init__" = true)
    (k8 : PySem.W.keepIn K (.ref f8) = true)
    (aC9 : PySem.W.nsIn K mainGlobals "NoForces" = some (some (.ref C9)))
    (x9 : K.lookup C9 = some (excClassObj nm9 q9 C9 N9 bs9 (bmOf CH) true sn9 sb9 ab9 co9 dd9 ma9 mb9 mc9 md9 me9 "ValueError.__new__"))
    (sa9 : PySem.W.findIn K (.ref C9) "__setattr__" = some (some (.builtin "object.__setattr__")))
    (ga9 : PySem.W.findIn K (.ref C9) "__getattribute__" = some (some (.builtin "BaseException.__getattribute__")))
    (gg9 : PySem.W.findIn K (.ref C9) "__getattr__" = some none)
    (kC9 : PySem.W.keepIn K (.ref C9) = true)
    (tC9 : PySem.W.typeIn K (.ref C9) = some (.type "type"))
    (ca9 : PySem.W.findIn K (.ref C9) "__class__" = some (some (.builtin "object.__class__")))
    (no9_0 : PySem.W.findIn K (.ref C9) "forces" = some none)
    (i9 : PySem.W.findIn K (.ref C9) "__init__" = some (some (.ref f9)))
    (t9 : PySem.W.typeIn K (.ref f9) = some (.type "function"))
    (l9 : K.lookup f9 = some ⟨oc9, od9, .func (PySem.W.fnOf "__init__" "NoForces.__init__" (defArgs sI9) (defBody sI9) (defScope sI9) .none kV9 dc9 pm9 an9 cd9 ct9), sl9⟩)
    (c9 : PySem.W.codeIn K cd9 "NoForces.__init__" = true)
    (k9 : PySem.W.keepIn K (.ref f9) = true)
    (aC10 : PySem.W.nsIn K mainGlobals "NoLever" = some (some (.ref C10)))
    (x10 : K.lookup C10 = some (excClassObj nm10 q10 C10 N10 bs10 (bmOf CH) true sn10 sb10 ab10 co10 dd10 ma10 mb10 mc10 md10 me10 "ValueError.__new__"))
    (sa10 : PySem.W.findIn K (.ref C10) "__setattr__" = some (some (.builtin "object.__setattr__")))
    (ga10 : PySem.W.findIn K (.ref C10) "__getattribute__" = some (some (.builtin "BaseException.__getattribute__")))
    (gg10 : PySem.W.findIn K (.ref C10) "__getattr__" = some none)
    (kC10 : PySem.W.keepIn K (.ref C10) = true)
    (tC10 : PySem.W.typeIn K (.ref C10) = some (.type "type"))
    (ca10 : PySem.W.findIn K (.ref C10) "__class__" = some (some (.builtin "object.__class__")))
    (no10_0 : PySem.W.findIn K (.ref C10) "name" = some none)
    (i10 : PySem.W.findIn K (.ref C10) "__init__" = some (some (.ref f10)))
    (t10 : PySem.W.typeIn K (.ref f10) = some (.type "function"))
    (l10 : K.lookup f10 = some ⟨oc10, od10, .func (PySem.W.fnOf "__init__" "NoLever.__init__" (defArgs sI10) (defBody sI10) (defScope sI10) .none kV10 dc10 pm10 an10 cd10 ct10), sl10⟩)
    (c10 : PySem.W.codeIn K cd10 "NoLever.__init__" = true)
    (k10 : PySem.W.keepIn K (.ref f10) = true)
    (aC11 : PySem.W.nsIn K mainGlobals "NoText" = some (some (.ref C11)))
    (x11 : K.lookup C11 = some (excClassObj nm11 q11 C11 N11 bs11 (bmOf CH) true sn11 sb11 ab11 co11 dd11 ma11 mb11 mc11 md11 me11 "ValueError.__new__"))
    (sa11 : PySem.W.findIn K (.ref C11) "__setattr__" = some (some (.builtin "object.__setattr__")))
    (ga11 : PySem.W.findIn K (.ref C11) "__getattribute__" = some (some (.builtin "BaseException.__getattribute__")))
    (gg11 : PySem.W.findIn K (.ref C11) "__getattr__" = some none)
    (kC11 : PySem.W.keepIn K (.ref C11) = true)
    (tC11 : PySem.W.typeIn K (.ref C11) = some (.type "type"))
    (ca11 : PySem.W.findIn K (.ref C11) "__class__" = some (some (.builtin "object.__class__")))
    (no11_0 : PySem.W.findIn K (.ref C11) "value" = some none)
    (i11 : PySem.W.findIn K (.ref C11) "__init__" = some (some (.ref f11)))
    (t11 : PySem.W.typeIn K (.ref f11) = some (.type "function"))
    (l11 : K.lookup f11 = some ⟨oc11, od11, .func (PySem.W.fnOf "__init__" "NoText.__init__" (defArgs sI11) (defBody sI11) (defScope sI11) .none kV11 dc11 pm11 an11 cd11 ct11), sl11⟩)
    (c11 : PySem.W.codeIn K cd11 "NoText.__init__" = true)
    (k11 : PySem.W.keepIn K (.ref f11) = true)
    (aC12 : PySem.W.nsIn K mainGlobals "Stuck" = some (some (.ref C12)))
    (x12 : K.lookup C12 = some (excClassObj nm12 q12 C12 N12 bs12 (bmOf CH) true sn12 sb12 ab12 co12 dd12 ma12 mb12 mc12 md12 me12 "ValueError.__new__"))
    (sa12 : PySem.W.findIn K (.ref C12) "__setattr__" = some (some (.builtin "object.__setattr__")))
    (ga12 : PySem.W.findIn K (.ref C12) "__getattribute__" = some (some (.builtin "BaseException.__getattribute__")))
    (gg12 : PySem.W.findIn K (.ref C12) "__getattr__" = some none)
    (kC12 : PySem.W.keepIn K (.ref C12) = true)
    (tC12 : PySem.W.typeIn K (.ref C12) = some (.type "type"))
    (ca12 : PySem.W.findIn K (.ref C12) "__class__" = some (some (.builtin "object.__class__")))
    (no12_0 : PySem.W.findIn K (.ref C12) "load" = some none)
    (no12_1 : PySem.W.findIn K (.ref C12) "forces" = some none)
    (i12 : PySem.W.findIn K (.ref C12) "__init__" = some (some (.ref f12)))
    (t12 : PySem.W.typeIn K (.ref f12) = some (.type "function"))
    (l12 : K.lookup f12 = some ⟨oc12, od12, .func (PySem.W.fnOf "__init__" "Stuck.__init__" (defArgs sI12) (defBody sI12) (defScope sI12) .none kV12 dc12 pm12 an12 cd12 ct12), sl12⟩)
    (c12 : PySem.W.codeIn K cd12 "Stuck.__init__" = true)
    (k12 : PySem.W.keepIn K (.ref f12) = true)
    (aC13 : PySem.W.nsIn K mainGlobals "Loose" = some (some (.ref C13)))
    (x13 : K.lookup C13 = some (excClassObj nm13 q13 C13 N13 bs13 (bmOf CH) true sn13 sb13 ab13 co13 dd13 ma13 mb13 mc13 md13 me13 "ValueError.__new__"))
    (sa13 : PySem.W.findIn K (.ref C13) "__setattr__" = some (some (.builtin "object.__setattr__")))
    (ga13 : PySem.W.findIn K (.ref C13) "__getattribute__" = some (some (.builtin "BaseException.__getattribute__")))
    (gg13 : PySem.W.findIn K (.ref C13) "__getattr__" = some none)
    (kC13 : PySem.W.keepIn K (.ref C13) = true)
    (tC13 : PySem.W.typeIn K (.ref C13) = some (.type "type"))
    (ca13 : PySem.W.findIn K (.ref C13) "__class__" = some (some (.builtin "object.__class__")))
    (no13_0 : PySem.W.findIn K (.ref C13) "names" = some none)
    (i13 : PySem.W.findIn K (.ref C13) "__init__" = some (some (.ref f13)))
    (t13 : PySem.W.typeIn K (.ref f13) = some (.type "function"))
    (l13 : K.lookup f13 = some ⟨oc13, od13, .func (PySem.W.fnOf "__init__" "Loose.__init__" (defArgs sI13) (defBody sI13) (defScope sI13) .none kV13 dc13 pm13 an13 cd13 ct13), sl13⟩)
    (c13 : PySem.W.codeIn K cd13 "Loose.__init__" = true)
    (k13 : PySem.W.keepIn K (.ref f13) = true)
    (aC14 : PySem.W.nsIn K mainGlobals "NothingToUndo" = some (some (.ref C14)))
    (x14 : K.lookup C14 = some (excClassObj nm14 q14 C14 N14 bs14 (bmOf CH) true sn14 sb14 ab14 co14 dd14 ma14 mb14 mc14 md14 me14 "ValueError.__new__"))
    (sa14 : PySem.W.findIn K (.ref C14) "__setattr__" = some (some (.builtin "object.__setattr__")))
    (ga14 : PySem.W.findIn K (.ref C14) "__getattribute__" = some (some (.builtin "BaseException.__getattribute__")))
    (gg14 : PySem.W.findIn K (.ref C14) "__getattr__" = some none)
    (kC14 : PySem.W.keepIn K (.ref C14) = true)
    (tC14 : PySem.W.typeIn K (.ref C14) = some (.type "type"))
    (ca14 : PySem.W.findIn K (.ref C14) "__class__" = some (some (.builtin "object.__class__")))
    (xx14 : PySem.W.excIn K C14 [.type "ValueError", .type "Exception", .type "BaseException", .type "object"] "ValueError.__new__" = true)
    (A0 : PySem.W.nsIn K mainGlobals "_law_mixed" = some (some (.ref g0)))
    (L0 : K.lookup g0 = some ⟨Oc0, Od0, .func (PySem.W.fnOf "_law_mixed" "_law_mixed" (defArgs sMixed) (defBody sMixed) (defScope sMixed) .none KV0 Dc0 Pm0 An0 Cd0 Ct0), Sl0⟩)
    (D0 : PySem.W.codeIn K Cd0 "_law_mixed" = true)
    (E0 : PySem.W.keepIn K (.ref g0) = true)
    (A1 : PySem.W.nsIn K mainGlobals "_law_pile" = some (some (.ref g1)))
    (L1 : K.lookup g1 = some ⟨Oc1, Od1, .func (PySem.W.fnOf "_law_pile" "_law_pile" (defArgs sPile) (defBody sPile) (defScope sPile) .none KV1 Dc1 Pm1 An1 Cd1 Ct1), Sl1⟩)
    (D1 : PySem.W.codeIn K Cd1 "_law_pile" = true)
    (E1 : PySem.W.keepIn K (.ref g1) = true)
    (A2 : PySem.W.nsIn K mainGlobals "_law_take" = some (some (.ref g2)))
    (L2 : K.lookup g2 = some ⟨Oc2, Od2, .func (PySem.W.fnOf "_law_take" "_law_take" (defArgs sTake) (defBody sTake) (defScope sTake) .none KV2 Dc2 Pm2 An2 Cd2 Ct2), Sl2⟩)
    (D2 : PySem.W.codeIn K Cd2 "_law_take" = true)
    (E2 : PySem.W.keepIn K (.ref g2) = true)
    (A3 : PySem.W.nsIn K mainGlobals "_law_odd" = some (some (.ref g3)))
    (L3 : K.lookup g3 = some ⟨Oc3, Od3, .func (PySem.W.fnOf "_law_odd" "_law_odd" (defArgs sOdd) (defBody sOdd) (defScope sOdd) .none KV3 Dc3 Pm3 An3 Cd3 Ct3), Sl3⟩)
    (D3 : PySem.W.codeIn K Cd3 "_law_odd" = true)
    (E3 : PySem.W.keepIn K (.ref g3) = true)
    (A4 : PySem.W.nsIn K mainGlobals "_law_alike" = some (some (.ref g4)))
    (L4 : K.lookup g4 = some ⟨Oc4, Od4, .func (PySem.W.fnOf "_law_alike" "_law_alike" (defArgs sAlike) (defBody sAlike) (defScope sAlike) .none KV4 Dc4 Pm4 An4 Cd4 Ct4), Sl4⟩)
    (D4 : PySem.W.codeIn K Cd4 "_law_alike" = true)
    (E4 : PySem.W.keepIn K (.ref g4) = true)
    (A5 : PySem.W.nsIn K mainGlobals "_law_both" = some (some (.ref g5)))
    (L5 : K.lookup g5 = some ⟨Oc5, Od5, .func (PySem.W.fnOf "_law_both" "_law_both" (defArgs sBoth) (defBody sBoth) (defScope sBoth) .none KV5 Dc5 Pm5 An5 Cd5 Ct5), Sl5⟩)
    (D5 : PySem.W.codeIn K Cd5 "_law_both" = true)
    (E5 : PySem.W.keepIn K (.ref g5) = true)
    (A6 : PySem.W.nsIn K mainGlobals "_law_kinds" = some (some (.ref g6)))
    (L6 : K.lookup g6 = some ⟨Oc6, Od6, .func (PySem.W.fnOf "_law_kinds" "_law_kinds" (defArgs sKinds) (defBody sKinds) (defScope sKinds) .none KV6 Dc6 Pm6 An6 Cd6 Ct6), Sl6⟩)
    (D6 : PySem.W.codeIn K Cd6 "_law_kinds" = true)
    (E6 : PySem.W.keepIn K (.ref g6) = true)
    (A7 : PySem.W.nsIn K mainGlobals "_law_values_of" = some (some (.ref g7)))
    (L7 : K.lookup g7 = some ⟨Oc7, Od7, .func (PySem.W.fnOf "_law_values_of" "_law_values_of" (defArgs sVals) (defBody sVals) (defScope sVals) .none KV7 Dc7 Pm7 An7 Cd7 Ct7), Sl7⟩)
    (D7 : PySem.W.codeIn K Cd7 "_law_values_of" = true)
    (E7 : PySem.W.keepIn K (.ref g7) = true)
    (A8 : PySem.W.nsIn K mainGlobals "_law_held" = some (some (.ref g8)))
    (L8 : K.lookup g8 = some ⟨Oc8, Od8, .func (PySem.W.fnOf "_law_held" "_law_held" (defArgs sHeld) (defBody sHeld) (defScope sHeld) .none KV8 Dc8 Pm8 An8 Cd8 Ct8), Sl8⟩)
    (D8 : PySem.W.codeIn K Cd8 "_law_held" = true)
    (E8 : PySem.W.keepIn K (.ref g8) = true)
    (A9 : PySem.W.nsIn K mainGlobals "law" = some (some (.ref g9)))
    (L9 : K.lookup g9 = some ⟨Oc9, Od9, .func (PySem.W.fnOf "law" "law" (defArgs sLaw) (defBody sLaw) (defScope sLaw) .none KV9 Dc9 Pm9 An9 Cd9 Ct9), Sl9⟩)
    (D9 : PySem.W.codeIn K Cd9 "law" = true)
    (E9 : PySem.W.keepIn K (.ref g9) = true)
    (zint : PySem.W.nsIn K mainGlobals "int" = some none)
    (zlen : PySem.W.nsIn K mainGlobals "len" = some none)
    (zabs : PySem.W.nsIn K mainGlobals "abs" = some none)
    (zrepr : PySem.W.nsIn K mainGlobals "repr" = some none)
    (zisinstance : PySem.W.nsIn K mainGlobals "isinstance" = some none)
    (zenumerate : PySem.W.nsIn K mainGlobals "enumerate" = some none)
    (zlist : PySem.W.nsIn K mainGlobals "list" = some none)
    (zrange : PySem.W.nsIn K mainGlobals "range" = some none)
    (zValueError : PySem.W.nsIn K mainGlobals "ValueError" = some none)
    (hne : ∀ w, w < 15 → ∀ v, v < 15 → (decide ((Cs.mk C0 C1 C2 C3 C4 C5 C6 C7 C8 C9 C10 C11 C12 C13 C14).at_ w = (Cs.mk C0 C1 C2 C3 C4 C5 C6 C7 C8 C9 C10 C11 C12 C13 C14).at_ v) || decide (CH = (Cs.mk C0 C1 C2 C3 C4 C5 C6 C7 C8 C9 C10 C11 C12 C13 C14).at_ v)) = decide (w = v)) :
    ∃ fd : FuncData, (∀ (s : Shared) (v : Value), BindsTo s fd ⟨[v], []⟩ [("script", v)]) ∧ ∀ base : Heap, K.In base → base.Ns mainGlobals mg → FnG l.prog wd K mg base CX0 5 fa fd ["script"] (spLaw K) := by
  have e := hfa.symm.trans (PySem.W.mg_of X G A9)
  cases e
  have v0 : ExV K C0 := exv_mk x0 sa0 ga0 gg0 kC0 tC0 ca0 cg ct
  have v1 : ExV K C1 := exv_mk x1 sa1 ga1 gg1 kC1 tC1 ca1 cg ct
  have v2 : ExV K C2 := exv_mk x2 sa2 ga2 gg2 kC2 tC2 ca2 cg ct
  have v3 : ExV K C3 := exv_mk x3 sa3 ga3 gg3 kC3 tC3 ca3 cg ct
  have v4 : ExV K C4 := exv_mk x4 sa4 ga4 gg4 kC4 tC4 ca4 cg ct
  have v5 : ExV K C5 := exv_mk x5 sa5 ga5 gg5 kC5 tC5 ca5 cg ct
  have v6 : ExV K C6 := exv_mk x6 sa6 ga6 gg6 kC6 tC6 ca6 cg ct
  have v7 : ExV K C7 := exv_mk x7 sa7 ga7 gg7 kC7 tC7 ca7 cg ct
  have v8 : ExV K C8 := exv_mk x8 sa8 ga8 gg8 kC8 tC8 ca8 cg ct
  have v9 : ExV K C9 := exv_mk x9 sa9 ga9 gg9 kC9 tC9 ca9 cg ct
  have v10 : ExV K C10 := exv_mk x10 sa10 ga10 gg10 kC10 tC10 ca10 cg ct
  have v11 : ExV K C11 := exv_mk x11 sa11 ga11 gg11 kC11 tC11 ca11 cg ct
  have v12 : ExV K C12 := exv_mk x12 sa12 ga12 gg12 kC12 tC12 ca12 cg ct
  have v13 : ExV K C13 := exv_mk x13 sa13 ga13 gg13 kC13 tC13 ca13 cg ct
  have v14 : ExV K C14 := exv_mk x14 sa14 ga14 gg14 kC14 tC14 ca14 cg ct
  have hx : ∀ w, w < 15 → ∃ (nm q : Str) (N : Addr) (bs : List Value) (sn : List Str) (sub : List Value) (ab : Bool) (col : Option Bool) (dd : Option Addr) (m0 m1 m2 m3 m5 : Option Value), K.lookup ((Cs.mk C0 C1 C2 C3 C4 C5 C6 C7 C8 C9 C10 C11 C12 C13 C14).at_ w) = some (excClassObj nm q ((Cs.mk C0 C1 C2 C3 C4 C5 C6 C7 C8 C9 C10 C11 C12 C13 C14).at_ w) N bs (bmOf CH) true sn sub ab col dd m0 m1 m2 m3 m5 "ValueError.__new__")
    | 0, _ => ⟨_, _, _, _, _, _, _, _, _, _, _, _, _, _, x0⟩
    | 1, _ => ⟨_, _, _, _, _, _, _, _, _, _, _, _, _, _, x1⟩
    | 2, _ => ⟨_, _, _, _, _, _, _, _, _, _, _, _, _, _, x2⟩
    | 3, _ => ⟨_, _, _, _, _, _, _, _, _, _, _, _, _, _, x3⟩
    | 4, _ => ⟨_, _, _, _, _, _, _, _, _, _, _, _, _, _, x4⟩
    | 5, _ => ⟨_, _, _, _, _, _, _, _, _, _, _, _, _, _, x5⟩
    | 6, _ => ⟨_, _, _, _, _, _, _, _, _, _, _, _, _, _, x6⟩
    | 7, _ => ⟨_, _, _, _, _, _, _, _, _, _, _, _, _, _, x7⟩
    | 8, _ => ⟨_, _, _, _, _, _, _, _, _, _, _, _, _, _, x8⟩
    | 9, _ => ⟨_, _, _, _, _, _, _, _, _, _, _, _, _, _, x9⟩
    | 10, _ => ⟨_, _, _, _, _, _, _, _, _, _, _, _, _, _, x10⟩
    | 11, _ => ⟨_, _, _, _, _, _, _, _, _, _, _, _, _, _, x11⟩
    | 12, _ => ⟨_, _, _, _, _, _, _, _, _, _, _, _, _, _, x12⟩
    | 13, _ => ⟨_, _, _, _, _, _, _, _, _, _, _, _, _, _, x13⟩
    | 14, _ => ⟨_, _, _, _, _, _, _, _, _, _, _, _, _, _, x14⟩
    | n + 15, q => absurd q (by omega)
  have ht : ∀ w, w < 15 → PySem.W.typeIn K (.ref ((Cs.mk C0 C1 C2 C3 C4 C5 C6 C7 C8 C9 C10 C11 C12 C13 C14).at_ w)) = some (.type "type") ∧ ExV K ((Cs.mk C0 C1 C2 C3 C4 C5 C6 C7 C8 C9 C10 C11 C12 C13 C14).at_ w)
    | 0, _ => ⟨tC0, v0⟩
    | 1, _ => ⟨tC1, v1⟩
    | 2, _ => ⟨tC2, v2⟩
    | 3, _ => ⟨tC3, v3⟩
    | 4, _ => ⟨tC4, v4⟩
    | 5, _ => ⟨tC5, v5⟩
    | 6, _ => ⟨tC6, v6⟩
    | 7, _ => ⟨tC7, v7⟩
    | 8, _ => ⟨tC8, v8⟩
    | 9, _ => ⟨tC9, v9⟩
    | 10, _ => ⟨tC10, v10⟩
    | 11, _ => ⟨tC11, v11⟩
    | 12, _ => ⟨tC12, v12⟩
    | 13, _ => ⟨tC13, v13⟩
    | 14, _ => ⟨tC14, v14⟩
    | n + 15, q => absurd q (by omega)
  have kit : Kit K (Cs.mk C0 C1 C2 C3 C4 C5 C6 C7 C8 C9 C10 C11 C12 C13 C14) CH := by
    refine ⟨fun w v hw hv => ?_, fun w hw => ?_, fun w hw => ?_, fun w hw => (ht w hw).2⟩
    · obtain ⟨nm, q, N, bs, sn, sub, ab, col, dd, m0, m1, m2, m3, m5, e⟩ := hx w hw
      obtain ⟨_, _, _, _, _, _, _, _, _, _, _, _, _, _, e2⟩ := hx v hv
      exact kit_cls_of (nm' := nm) (q' := q) (N' := N) (bs' := bs) (sn' := sn) (sub' := sub) (ab' := ab) (col' := col) (dd' := dd) (n0 := m0) (n1 := m1) (n2 := m2) (n3 := m3) (n5 := m5) (DH := CH) e (cls_some e2) (ht v hv).1 (hne w hw v hv)
    · obtain ⟨nm, q, N, bs, sn, sub, ab, col, dd, m0, m1, m2, m3, m5, e⟩ := hx w hw
      exact kit_cls_of (nm' := nm) (q' := q) (N' := N) (bs' := bs) (sn' := sn) (sub' := sub) (ab' := ab) (col' := col) (dd' := dd) (n0 := m0) (n1 := m1) (n2 := m2) (n3 := m3) (n5 := m5) (DH := CH) e iH tH (by simp)
    · obtain ⟨nm, q, N, bs, sn, sub, ab, col, dd, m0, m1, m2, m3, m5, e⟩ := hx w hw
      exact kit_val_of e
  have F0 := fun_mk (st := sI0) l0 c0 k0
  have F1 := fun_mk (st := sI1) l1 c1 k1
  have F2 := fun_mk (st := sI2) l2 c2 k2
  have F3 := fun_mk (st := sI3) l3 c3 k3
  have F4 := fun_mk (st := sI4) l4 c4 k4
  have F5 := fun_mk (st := sI5) l5 c5 k5
  have F6 := fun_mk (st := sI6) l6 c6 k6
  have F7 := fun_mk (st := sI7) l7 c7 k7
  have F8 := fun_mk (st := sI8) l8 c8 k8
  have F9 := fun_mk (st := sI9) l9 c9 k9
  have F10 := fun_mk (st := sI10) l10 c10 k10
  have F11 := fun_mk (st := sI11) l11 c11 k11
  have F12 := fun_mk (st := sI12) l12 c12 k12
  have F13 := fun_mk (st := sI13) l13 c13 k13
  have J0 := fun_mk (st := sMixed) L0 D0 E0
  have b0 := J0.binds (ps := ["cell", "k"]) fun _ _ _ _ _ _ us hl => match us, hl with | [_, _], _ => rfl
  have J1 := fun_mk (st := sPile) L1 D1 E1
  have b1 := J1.binds (ps := ["script", "k"]) fun _ _ _ _ _ _ us hl => match us, hl with | [_, _], _ => rfl
  have J2 := fun_mk (st := sTake) L2 D2 E2
  have b2 := J2.binds (ps := ["pile", "many"]) fun _ _ _ _ _ _ us hl => match us, hl with | [_, _], _ => rfl
  have J3 := fun_mk (st := sOdd) L3 D3 E3
  have b3 := J3.binds (ps := ["pile"]) fun _ _ _ _ _ _ us hl => match us, hl with | [_], _ => rfl
  have J4 := fun_mk (st := sAlike) L4 D4 E4
  have b4 := J4.binds (ps := ["one", "other"]) fun _ _ _ _ _ _ us hl => match us, hl with | [_, _], _ => rfl
  have J5 := fun_mk (st := sBoth) L5 D5 E5
  have b5 := J5.binds (ps := ["which", "thing", "more"]) fun _ _ _ _ _ _ us hl => match us, hl with | [_, _, _], _ => rfl
  have J6 := fun_mk (st := sKinds) L6 D6 E6
  have b6 := J6.binds (ps := ["error"]) fun _ _ _ _ _ _ us hl => match us, hl with | [_], _ => rfl
  have J7 := fun_mk (st := sVals) L7 D7 E7
  have b7 := J7.binds (ps := ["which", "error"]) fun _ _ _ _ _ _ us hl => match us, hl with | [_, _], _ => rfl
  have J8 := fun_mk (st := sHeld) L8 D8 E8
  have b8 := J8.binds (ps := ["which", "thing"]) fun _ _ _ _ _ _ us hl => match us, hl with | [_, _], _ => rfl
  have J9 := fun_mk (st := sLaw) L9 D9 E9
  have b9 := J9.binds (ps := ["script"]) fun _ _ _ _ _ _ us hl => match us, hl with | [_], _ => rfl
  have yint := PySem.W.mg_none_of X G zint
  have ylen := PySem.W.mg_none_of X G zlen
  have yabs := PySem.W.mg_none_of X G zabs
  have yrepr := PySem.W.mg_none_of X G zrepr
  have yisinstance := PySem.W.mg_none_of X G zisinstance
  have yenumerate := PySem.W.mg_none_of X G zenumerate
  have ylist := PySem.W.mg_none_of X G zlist
  have yrange := PySem.W.mg_none_of X G zrange
  have yValueError := PySem.W.mg_none_of X G zValueError
  refine ⟨PySem.W.fnOf "law" "law" (defArgs sLaw) (defBody sLaw) (defScope sLaw) .none KV9 Dc9 Pm9 An9 Cd9 Ct9, fun s v => .of_eq rfl, fun base _ _ => ?_⟩
  have T : Kls l.prog wd K mg base (Cs.mk C0 C1 C2 C3 C4 C5 C6 C7 C8 C9 C10 C11 C12 C13 C14) := ⟨kl0 (PySem.W.mg_of X G aC0) v0 no0_0 i0 t0 F0, kl1 (PySem.W.mg_of X G aC1) v1 no1_0 i1 t1 F1, kl2 (PySem.W.mg_of X G aC2) v2 no2_0 i2 t2 F2, kl3 (PySem.W.mg_of X G aC3) v3 no3_0 i3 t3 F3, kl4 (PySem.W.mg_of X G aC4) v4 no4_0 i4 t4 F4, kl5 (PySem.W.mg_of X G aC5) v5 no5_0 i5 t5 F5, kl6 (PySem.W.mg_of X G aC6) v6 no6_0 i6 t6 F6, kl7 (PySem.W.mg_of X G aC7) v7 no7_0 i7 t7 F7, kl8 (PySem.W.mg_of X G aC8) v8 no8_0 i8 t8 F8, kl9 (PySem.W.mg_of X G aC9) v9 no9_0 i9 t9 F9, kl10 (PySem.W.mg_of X G aC10) v10 no10_0 i10 t10 F10, kl11 (PySem.W.mg_of X G aC11) v11 no11_0 i11 t11 F11, kl13 (PySem.W.mg_of X G aC13) v13 no13_0 i13 t13 F13, kl12 (PySem.W.mg_of X G aC12) v12 no12_0 no12_1 i12 t12 F12, PySem.W.mg_of X G aC14, v14, xx14⟩
  have GM := ok_mixed (P := l.prog) (w := wd) (base := base) J0 yint
  have GP := ok_pile (P := l.prog) (w := wd) (base := base) J1 yint ylen yabs
  have GT := ok_take (P := l.prog) (w := wd) (base := base) J2 yint GM (PySem.W.mg_of X G A0) E0 b0
  have GO := ok_odd (P := l.prog) (w := wd) (base := base) J3 GT (PySem.W.mg_of X G A2) E2 b2
  have GA := ok_alike (P := l.prog) (w := wd) (base := base) J4 yrepr
  have GB := ok_both (P := l.prog) (w := wd) (base := base) J5 T
  have GK := ok_kinds (P := l.prog) (w := wd) (base := base) J6 T kit yisinstance yenumerate
  have GV := ok_vals (P := l.prog) (w := wd) (base := base) J7 T
  have GH := ok_held (P := l.prog) (wd := wd) (base := base) J8 GB (PySem.W.mg_of X G A5) E5 b5 GV (PySem.W.mg_of X G A7) E7 b7 GA (PySem.W.mg_of X G A4) E4 b4 yisinstance ylist
  exact ok_law (P := l.prog) (wd := wd) (base := base) J9 kit GP (PySem.W.mg_of X G A1) E1 b1 GO (PySem.W.mg_of X G A3) E3 b3 GB (PySem.W.mg_of X G A5) E5 b5 GV (PySem.W.mg_of X G A7) E7 b7 GA (PySem.W.mg_of X G A4) E4 b4 GH (PySem.W.mg_of X G A8) E8 b8 GK (PySem.W.mg_of X G A6) E6 b6 (PySem.W.mg_of X G aH) yisinstance yint yrange yValueError
end Paw

open PySem PySem.W PyProof.Rows in
set_option maxRecDepth 100000 in
set_option maxHeartbeats 0 in
theorem PySem.Challenge.cw_pawlhall_k92_errors_made_holds : PySem.Challenge.rw_pawlhall_k92_errors_made.Holds := by
  w_on; o_law; k_head; (case hw => w_witness2)
  k_fill
  refine Paw.walkG (l := PySem.Challenge.rw_pawlhall_k92_errors_made) (n := 63) (k := 5) (CX := fun _ => L2.CX0) (sp := Paw.spLaw) (x := "script") rfl (by decide) rfl ⟨rfl, by decide, by decide⟩ (by decide +kernel) (fun w h Y => PySem.W.kIn_of Y) ?F (fun K H a ns _ _ hS => ⟨a, ns, rfl, hS, fun _ => rfl⟩) (fun _ _ _ _ _ z => z)
  case F =>
    intro w mg fa h KX G hmg
    refine' Paw.all_mk KX G hmg ?cg ?ct ?aH ?iH ?tH ?aC0 ?x0 ?sa0 ?ga0 ?gg0 ?kC0 ?tC0 ?ca0 ?no0_0 ?i0 ?t0 ?l0 ?c0 ?k0 ?aC1 ?x1 ?sa1 ?ga1 ?gg1 ?kC1 ?tC1 ?ca1 ?no1_0 ?i1 ?t1 ?l1 ?c1 ?k1 ?aC2 ?x2 ?sa2 ?ga2 ?gg2 ?kC2 ?tC2 ?ca2 ?no2_0 ?i2 ?t2 ?l2 ?c2 ?k2 ?aC3 ?x3 ?sa3 ?ga3 ?gg3 ?kC3 ?tC3 ?ca3 ?no3_0 ?i3 ?t3 ?l3 ?c3 ?k3 ?aC4 ?x4 ?sa4 ?ga4 ?gg4 ?kC4 ?tC4 ?ca4 ?no4_0 ?i4 ?t4 ?l4 ?c4 ?k4 ?aC5 ?x5 ?sa5 ?ga5 ?gg5 ?kC5 ?tC5 ?ca5 ?no5_0 ?i5 ?t5 ?l5 ?c5 ?k5 ?aC6 ?x6 ?sa6 ?ga6 ?gg6 ?kC6 ?tC6 ?ca6 ?no6_0 ?i6 ?t6 ?l6 ?c6 ?k6 ?aC7 ?x7 ?sa7 ?ga7 ?gg7 ?kC7 ?tC7 ?ca7 ?no7_0 ?i7 ?t7 ?l7 ?c7 ?k7 ?aC8 ?x8 ?sa8 ?ga8 ?gg8 ?kC8 ?tC8 ?ca8 ?no8_0 ?i8 ?t8 ?l8 ?c8 ?k8 ?aC9 ?x9 ?sa9 ?ga9 ?gg9 ?kC9 ?tC9 ?ca9 ?no9_0 ?i9 ?t9 ?l9 ?c9 ?k9 ?aC10 ?x10 ?sa10 ?ga10 ?gg10 ?kC10 ?tC10 ?ca10 ?no10_0 ?i10 ?t10 ?l10 ?c10 ?k10 ?aC11 ?x11 ?sa11 ?ga11 ?gg11 ?kC11 ?tC11 ?ca11 ?no11_0 ?i11 ?t11 ?l11 ?c11 ?k11 ?aC12 ?x12 ?sa12 ?ga12 ?gg12 ?kC12 ?tC12 ?ca12 ?no12_0 ?no12_1 ?i12 ?t12 ?l12 ?c12 ?k12 ?aC13 ?x13 ?sa13 ?ga13 ?gg13 ?kC13 ?tC13 ?ca13 ?no13_0 ?i13 ?t13 ?l13 ?c13 ?k13 ?aC14 ?x14 ?sa14 ?ga14 ?gg14 ?kC14 ?tC14 ?ca14 ?xx14 ?A0 ?L0 ?D0 ?E0 ?A1 ?L1 ?D1 ?E1 ?A2 ?L2 ?D2 ?E2 ?A3 ?L3 ?D3 ?E3 ?A4 ?L4 ?D4 ?E4 ?A5 ?L5 ?D5 ?E5 ?A6 ?L6 ?D6 ?E6 ?A7 ?L7 ?D7 ?E7 ?A8 ?L8 ?D8 ?E8 ?A9 ?L9 ?D9 ?E9 ?zint ?zlen ?zabs ?zrepr ?zisinstance ?zenumerate ?zlist ?zrange ?zValueError ?hne
    (case cg => k_is)
    (case ct => k_is)
    (case aH => k_is)
    (case iH => k_is)
    (case tH => k_is)
    (case aC0 => k_is)
    (case x0 => k_is)
    (case sa0 => k_is)
    (case ga0 => k_is)
    (case gg0 => k_is)
    (case kC0 => k_is)
    (case tC0 => k_is)
    (case ca0 => k_is)
    (case no0_0 => k_is)
    (case i0 => k_is)
    (case t0 => k_is)
    (case l0 => k_is)
    (case c0 => k_is)
    (case k0 => k_is)
    (case aC1 => k_is)
    (case x1 => k_is)
    (case sa1 => k_is)
    (case ga1 => k_is)
    (case gg1 => k_is)
    (case kC1 => k_is)
    (case tC1 => k_is)
    (case ca1 => k_is)
    (case no1_0 => k_is)
    (case i1 => k_is)
    (case t1 => k_is)
    (case l1 => k_is)
    (case c1 => k_is)
    (case k1 => k_is)
    (case aC2 => k_is)
    (case x2 => k_is)
    (case sa2 => k_is)
    (case ga2 => k_is)
    (case gg2 => k_is)
    (case kC2 => k_is)
    (case tC2 => k_is)
    (case ca2 => k_is)
    (case no2_0 => k_is)
    (case i2 => k_is)
    (case t2 => k_is)
    (case l2 => k_is)
    (case c2 => k_is)
    (case k2 => k_is)
    (case aC3 => k_is)
    (case x3 => k_is)
    (case sa3 => k_is)
    (case ga3 => k_is)
    (case gg3 => k_is)
    (case kC3 => k_is)
    (case tC3 => k_is)
    (case ca3 => k_is)
    (case no3_0 => k_is)
    (case i3 => k_is)
    (case t3 => k_is)
    (case l3 => k_is)
    (case c3 => k_is)
    (case k3 => k_is)
    (case aC4 => k_is)
    (case x4 => k_is)
    (case sa4 => k_is)
    (case ga4 => k_is)
    (case gg4 => k_is)
    (case kC4 => k_is)
    (case tC4 => k_is)
    (case ca4 => k_is)
    (case no4_0 => k_is)
    (case i4 => k_is)
    (case t4 => k_is)
    (case l4 => k_is)
    (case c4 => k_is)
    (case k4 => k_is)
    (case aC5 => k_is)
    (case x5 => k_is)
    (case sa5 => k_is)
    (case ga5 => k_is)
    (case gg5 => k_is)
    (case kC5 => k_is)
    (case tC5 => k_is)
    (case ca5 => k_is)
    (case no5_0 => k_is)
    (case i5 => k_is)
    (case t5 => k_is)
    (case l5 => k_is)
    (case c5 => k_is)
    (case k5 => k_is)
    (case aC6 => k_is)
    (case x6 => k_is)
    (case sa6 => k_is)
    (case ga6 => k_is)
    (case gg6 => k_is)
    (case kC6 => k_is)
    (case tC6 => k_is)
    (case ca6 => k_is)
    (case no6_0 => k_is)
    (case i6 => k_is)
    (case t6 => k_is)
    (case l6 => k_is)
    (case c6 => k_is)
    (case k6 => k_is)
    (case aC7 => k_is)
    (case x7 => k_is)
    (case sa7 => k_is)
    (case ga7 => k_is)
    (case gg7 => k_is)
    (case kC7 => k_is)
    (case tC7 => k_is)
    (case ca7 => k_is)
    (case no7_0 => k_is)
    (case i7 => k_is)
    (case t7 => k_is)
    (case l7 => k_is)
    (case c7 => k_is)
    (case k7 => k_is)
    (case aC8 => k_is)
    (case x8 => k_is)
    (case sa8 => k_is)
    (case ga8 => k_is)
    (case gg8 => k_is)
    (case kC8 => k_is)
    (case tC8 => k_is)
    (case ca8 => k_is)
    (case no8_0 => k_is)
    (case i8 => k_is)
    (case t8 => k_is)
    (case l8 => k_is)
    (case c8 => k_is)
    (case k8 => k_is)
    (case aC9 => k_is)
    (case x9 => k_is)
    (case sa9 => k_is)
    (case ga9 => k_is)
    (case gg9 => k_is)
    (case kC9 => k_is)
    (case tC9 => k_is)
    (case ca9 => k_is)
    (case no9_0 => k_is)
    (case i9 => k_is)
    (case t9 => k_is)
    (case l9 => k_is)
    (case c9 => k_is)
    (case k9 => k_is)
    (case aC10 => k_is)
    (case x10 => k_is)
    (case sa10 => k_is)
    (case ga10 => k_is)
    (case gg10 => k_is)
    (case kC10 => k_is)
    (case tC10 => k_is)
    (case ca10 => k_is)
    (case no10_0 => k_is)
    (case i10 => k_is)
    (case t10 => k_is)
    (case l10 => k_is)
    (case c10 => k_is)
    (case k10 => k_is)
    (case aC11 => k_is)
    (case x11 => k_is)
    (case sa11 => k_is)
    (case ga11 => k_is)
    (case gg11 => k_is)
    (case kC11 => k_is)
    (case tC11 => k_is)
    (case ca11 => k_is)
    (case no11_0 => k_is)
    (case i11 => k_is)
    (case t11 => k_is)
    (case l11 => k_is)
    (case c11 => k_is)
    (case k11 => k_is)
    (case aC12 => k_is)
    (case x12 => k_is)
    (case sa12 => k_is)
    (case ga12 => k_is)
    (case gg12 => k_is)
    (case kC12 => k_is)
    (case tC12 => k_is)
    (case ca12 => k_is)
    (case no12_0 => k_is)
    (case no12_1 => k_is)
    (case i12 => k_is)
    (case t12 => k_is)
    (case l12 => k_is)
    (case c12 => k_is)
    (case k12 => k_is)
    (case aC13 => k_is)
    (case x13 => k_is)
    (case sa13 => k_is)
    (case ga13 => k_is)
    (case gg13 => k_is)
    (case kC13 => k_is)
    (case tC13 => k_is)
    (case ca13 => k_is)
    (case no13_0 => k_is)
    (case i13 => k_is)
    (case t13 => k_is)
    (case l13 => k_is)
    (case c13 => k_is)
    (case k13 => k_is)
    (case aC14 => k_is)
    (case x14 => k_is)
    (case sa14 => k_is)
    (case ga14 => k_is)
    (case gg14 => k_is)
    (case kC14 => k_is)
    (case tC14 => k_is)
    (case ca14 => k_is)
    (case xx14 => k_exc)
    (case A0 => k_is)
    (case L0 => k_is)
    (case D0 => k_is)
    (case E0 => k_is)
    (case A1 => k_is)
    (case L1 => k_is)
    (case D1 => k_is)
    (case E1 => k_is)
    (case A2 => k_is)
    (case L2 => k_is)
    (case D2 => k_is)
    (case E2 => k_is)
    (case A3 => k_is)
    (case L3 => k_is)
    (case D3 => k_is)
    (case E3 => k_is)
    (case A4 => k_is)
    (case L4 => k_is)
    (case D4 => k_is)
    (case E4 => k_is)
    (case A5 => k_is)
    (case L5 => k_is)
    (case D5 => k_is)
    (case E5 => k_is)
    (case A6 => k_is)
    (case L6 => k_is)
    (case D6 => k_is)
    (case E6 => k_is)
    (case A7 => k_is)
    (case L7 => k_is)
    (case D7 => k_is)
    (case E7 => k_is)
    (case A8 => k_is)
    (case L8 => k_is)
    (case D8 => k_is)
    (case E8 => k_is)
    (case A9 => k_is)
    (case L9 => k_is)
    (case D9 => k_is)
    (case E9 => k_is)
    (case zint => k_is)
    (case zlen => k_is)
    (case zabs => k_is)
    (case zrepr => k_is)
    (case zisinstance => k_is)
    (case zenumerate => k_is)
    (case zlist => k_is)
    (case zrange => k_is)
    (case zValueError => k_is)
    (case hne => decide +kernel)

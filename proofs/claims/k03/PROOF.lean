import PyProof.Rows.All
import Wide.All
import OpenK.AllK
import Wide.FinOn
import HandS.ForMost
import HandS.ForExc
import HandS.ExcInit
import HandS.ExcValue
import HandS.ExcIs
import HandS.IsInst
import HandS.Wide
import HandS.Defaults
import HandS.MakeKw
import KE.KExcIs
import HandS.Star
import HandS.Gcd
import HandS.CallLocal
import HandS.CallSlots
import HandS.WordsExc
import HandS.Walk
import KE.GoesMore
import HandS.ClsMeth
import HandS.Text
import HandS.Conv
import HandS.RaiseMore
import PyProof.NeKinds
import PyProof.StrLawsIn
import HandS.MakeKwOnly
import PySem.Challenge.RW_pawlhall_k03_parts_refused
set_option Elab.async false
set_option linter.all false
set_option maxRecDepth 100000
set_option maxHeartbeats 2000000
namespace Paw
open PySem PySem.Spec PyProof.Rows L2

/-! ### defs that want to know that no repr is under way around them -/
/-- the table of modules is where it was booted, and nobody tracks it -/
def Sys (h : Heap) (H : Hp) : Prop := H sysModules = none ∧ ∃ (o : Obj) (es : Array DictEntry) (ep : Nat), h.get? sysModules = some o ∧ o.data = .dict es ep
structure FnG (P : Program) (w : World) (K : PySem.W.Frag) (mg : Str → Option Value) (base : Heap) (CX : CXT) (k : Nat) (f : Addr) (fd : FuncData) (ps : List Str) (sp : Sp) : Prop where
  arity : ∀ vs H Q E, sp vs H Q E → vs.length = ps.length
  goes : ∀ (A : Around), A.guards = some [] → ∀ (outer : List Env) (s : Shared) (H : Hp) (args : Args) (us : List Value) (vs : List V) (Q : VK) (E : XK),
    Sys s.heap H → Room k A → Env0 P w K mg base A outer s H → BindsTo s fd args (ps.zip us) → Vals vs us → sp vs H Q E →
      codeAny (model P w) A (.call (.ref f) args) (CR CX outer P w H s Q E) s

section
variable {P : Program} {w : World} {K : PySem.W.Frag} {mg : Str → Option Value} {base : Heap} {CX : CXT} {k j : Nat} {f : Addr} {fd : FuncData} {ps : List Str} {sp : Sp}
theorem FnG.of (F : FnOk P w K mg base CX k f fd ps sp) : FnG P w K mg base CX k f fd ps sp := ⟨F.len, fun A _ o s H args us vs Q E _ => F.run A o s H args us vs Q E⟩
theorem FnG.up (F : FnG P w K mg base CX j f fd ps sp) (h : j ≤ k) : FnG P w K mg base CX k f fd ps sp :=
  ⟨F.arity, fun A g o s H args us vs Q E hS hr => F.goes A g o s H args us vs Q E hS (hr.mono h)⟩
end

theorem fnG_of {CX : CXT} {P : Program} {w : World} {K : PySem.W.Frag} {mg : Str → Option Value} {base : Heap} {k : Nat} {f : Addr} {name qual : Str} {params : Arguments} {body : List Stmt} {scope : Scope}
    {dV kV doc pm cdv ct oc : Value} {an od : Option Addr} {osl : Array (Option Value)} {N ps : List Str} {sp : Sp}
    (here : K.lookup f = some ⟨oc, od, .func (PySem.W.fnOf name qual params body scope dV kV doc pm an cdv ct), osl⟩) (code : PySem.W.codeIn K cdv qual = true) (S : FnScope N ps scope)
    (arity : ∀ vs H Q E, sp vs H Q E → vs.length = ps.length)
    (inner : ∀ (A : Around), A.guards = some [] → ∀ (outer : List Env) (s : Shared) (H : Hp) (vs : List V) (Q : VK) (E : XK), Sys s.heap H → Room k (A.deeper (envOfC qual scope s.heap.objs.size f cdv)) → sp vs H Q E →
      ∃ t, PSs (cxOf CX P w K mg base N qual scope f cdv A outer s H E) body t ∧ t { nx := fun _ H' => Q .non H', rt := Q } (start N vs) H) :
    FnG P w K mg base CX (k + 1) f (PySem.W.fnOf name qual params body scope dV kV doc pm an cdv ct) ps sp := by
  constructor
  · exact arity
  intro A hG outer s H args us vs Q E hS room e0 bound rel want
  have KIn : K.In s.heap := e0.mod.kin.keeps fun b o e => (e0.bs b o e).1
  have free : s.heap.NoLimit := e0.mod.nolimit.keeps fun b o e => (e0.bs b o e).1
  have places : ∀ y ∈ ps.zip us, scope.names.lookup y.1 = some .local ∨ (scope.names.lookup y.1 = some .cell ∧ ((cellsFrom (s.heap.objs.size + 1) scope.names []).lookup y.1).isSome = true) := by
    rintro ⟨n, v⟩ hy
    have hn := (List.of_mem_zip hy).1
    rcases S.par n hn with q | q
    · exact Or.inl q
    · exact Or.inr ⟨q, PySem.W.cellsFrom_some _ _ _ (Or.inl q)⟩
  apply codeAny_call_function room.depth (KIn _ _ here) rfl S.co S.gen rfl (PySem.W.codeRec_of KIn code) (bound _ _ _ _ _)
  apply wpAny_newFunctionEnv_cells S.kind places
  intro env he s1 x
  cases he
  refine ⟨free.keeps x.toInCall.keep, codeAny_func ?_⟩
  have ⟨t, ht, hq⟩ := inner A hG outer s H vs Q E hS (room.deeper _) want
  have I := inv_start (CX := CX) (E := E) S room.hd e0 (arity _ _ _ _ want) rel x
  apply wpAny_mono (ht.run [] s1 (start N vs) H _ I hq)
  · intro fl s' hs
    cases fl with
    | ret u =>
      have ⟨v, σ', H', J, rv, q⟩ := hs
      exact ⟨v, H', J.os, J.bare, J.base, J.hok, rv, q⟩
    | next =>
      have ⟨σ', H', J, q⟩ := hs
      exact ⟨V.non, H', J.os, J.bare, J.base, J.hok, rfl, q⟩
    | brk => exact hs.elim fun _ ⟨_, _, q⟩ => q.elim
    | cont => exact hs.elim fun _ ⟨_, _, q⟩ => q.elim
  · exact fun e s' hs => hs
section
variable {P : Program} {w : World} {K : PySem.W.Frag} {mg : Str → Option Value} {base : Heap}
/-- a def of the text that may look at repr -/
theorem funG {CX : CXT} {x qual : Str} {st : Stmt} {f : Addr} {fd : FuncData} {N ps : List Str} {k : Nat} {sp : Sp} (F : Fun K x qual st f fd) (S : FnScope N ps (defScope st)) (arity : ∀ vs H Q E, sp vs H Q E → vs.length = ps.length)
    (body : ∀ (cdv : Value) (A : Around), A.guards = some [] → ∀ (outer : List Env) (s : Shared) (H : Hp) (vs : List V) (Q : VK) (E : XK), Sys s.heap H → Room k (A.deeper (envOfC qual (defScope st) s.heap.objs.size f cdv)) → sp vs H Q E →
      ∃ t, PSs (cxOf CX P w K mg base N qual (defScope st) f cdv A outer s H E) (defBody st) t ∧ t { nx := fun _ H' => Q .non H', rt := Q } (start N vs) H) : FnG P w K mg base CX (k + 1) f fd ps sp := by
  have ⟨oc, od, kV, doc, pm, an, cdv, ct, osl, e, here, code⟩ := F.ex
  cases e
  exact fnG_of here code S arity (body cdv)
/-- .. out of which nothing is raised -/
theorem funG0 {x qual : Str} {st : Stmt} {f : Addr} {fd : FuncData} {N ps : List Str} {k : Nat} {sp : Sp} (F : Fun K x qual st f fd) (S : FnScope N ps (defScope st)) (arity : ∀ vs H Q E, sp vs H Q E → vs.length = ps.length)
    (body : ∀ (cdv : Value) (A : Around), A.guards = some [] → ∀ (outer : List Env) (s : Shared) (H : Hp) (vs : List V) (Q : VK) (E : XK), Sys s.heap H → Room k (A.deeper (envOfC qual (defScope st) s.heap.objs.size f cdv)) → sp vs H Q E →
      ∃ t, PSs (cxOf CX0 P w K mg base N qual (defScope st) f cdv A outer s H E).nox (defBody st) t ∧ t { nx := fun _ H' => Q .non H', rt := Q } (start N vs) H) : FnG P w K mg base CX0 (k + 1) f fd ps sp := by
  refine funG F S arity fun cdv A hG outer s H vs Q E hS room want => ?_
  obtain ⟨t, h, q⟩ := body cdv A hG outer s H vs Q E hS room want
  exact ⟨t, h.nox, q⟩
end
section
variable {X : Cx} {pins : List (Addr × Obj)} {σ : L2.St} {H : Hp} {s : Shared}
theorem sys_inv (I : Inv X pins σ H s) (S : Sys X.s_0.heap X.H_0) (hx : X.ex = []) : Sys s.heap H := by
  obtain ⟨h1, o, es, ep, h2, h3⟩ := S
  have nx : sysModules ∉ X.ex := by rw [hx]; exact List.not_mem_nil
  obtain ⟨sl, h4⟩ := I.base.any h2 h1 nx
  exact ⟨I.base.free _ o h2 h1 nx, _, es, ep, h4, h3⟩
/-- what a def that looks at repr must find around it -/
structure Gd (X : Cx) : Prop where
  g : X.A.guards = some []
  s : Sys X.s_0.heap X.H_0
  x : X.ex = []
variable {CX : CXT} {k : Nat} {f : Addr} {fd : FuncData} {ps : List Str} {sp : Sp} {dvs : List V} {ds : List Value} {E : XK} {x : Str} {p pos : Pos} {e : Expr} {es : List Expr} {t : TA}
theorem callee_goes {Q : VK} {us : List Value} {vs : List V} (F : FnG X.prog X.w X.K X.mg X.base CX k f fd ps sp) (g : Gd X) (hr : Room k X.A) (hb : Binds X.K fd ps ds) (hd : Vals dvs ds) (hx : Passes CX X E)
    (I : Inv X pins σ H s) (r : Vals vs us) (h : sp (vs ++ dvs) H Q E) : wpAny (model X.prog X.w) X.A (call (.ref f) us) (EP X pins σ Q) X.xe s := by
  have rel : Vals (vs ++ dvs) (us ++ ds) := r.append hd
  have many : (us ++ ds).length = ps.length := rel.length.symm.trans (F.arity _ _ _ _ h)
  apply wpAny_call
  apply codeAny_mono (F.goes X.A g.g X.stack s H ⟨us, []⟩ (us ++ ds) (vs ++ dvs) Q E (sys_inv I g.s g.x) hr I.env0 (hb s us I.kIn many) rel h)
  intro r s' q
  match r, q with
  | .error e, q => exact hx pins σ H s e s' I q
  | .ok (.ret u), q => exact I.after q
/-- f(e, ..), f a def that looks at repr -/
theorem pe_callG (F : FnG X.prog X.w X.K X.mg X.base CX k f fd ps sp) (g : Gd X) (hr : Room k X.A) (hg : Gl X x) (hm : X.mg x = some (.ref f)) (hk : PySem.W.keepIn X.K (.ref f) = true) (hb : Binds X.K fd ps ds) (hd : Vals dvs ds) (hx : Passes CX X E)
    (ha : PA X (e :: es) t) (hdb : (x == ("__debug__" : Str)) = false := by decide) (he : starEach (e :: es) X.env = (false, eval e X.env) :: starEach es X.env := by rfl) (hpl : (backTo pos (starEach es X.env)).any (·.1) = false := by rfl) :
    PE X (.Call (.Name x p) (e :: es) [] pos) (tCall sp dvs E t) := by
  constructor
  intro pins s σ H Q I h
  apply wpAny_Call_Name_kw
  apply ld_glob I hg hm _ hdb
  apply PySem.W.callWith_K (h₀ := X.base) I.ok.mod.kin hk _ he hpl
  apply thn (ha.run pos pins s σ H _ I h)
  rintro us s1 ⟨vs, H1, I1, r, q⟩
  exact ⟨I1.kIn, callee_goes F g hr hb hd hx I1 r q⟩
/-- f(), f a def that looks at repr -/
theorem pe_callG0 (F : FnG X.prog X.w X.K X.mg X.base CX k f fd ps sp) (g : Gd X) (hr : Room k X.A) (hg : Gl X x) (hm : X.mg x = some (.ref f)) (hk : PySem.W.keepIn X.K (.ref f) = true) (hb : Binds X.K fd ps ds) (hd : Vals dvs ds) (hx : Passes CX X E)
    (hdb : (x == ("__debug__" : Str)) = false := by decide) : PE X (.Call (.Name x p) [] [] pos) (tCall sp dvs E tNil) := by
  constructor
  intro pins s σ H Q I h
  apply wpAny_Call_Name_kw
  apply ld_glob I hg hm _ hdb
  exact PySem.W.callWith_K0 I.kIn hk (callee_goes (us := []) F g hr hb hd hx I .nil h)
end
end Paw

set_option maxRecDepth 100000
set_option maxHeartbeats 2000000
namespace Paw
open PySem PySem.Spec PyProof.Rows L2

/-! ### data on the heap, dicts too, and its repr -/
def dKey : Key → PyData
  | .inl i => .int i
  | .inr x => .str x
mutual
inductive RD (K : PySem.W.Frag) (H : Hp) : V → PyData → Prop
  | non : RD K H .non .none
  | bl (b : Bool) : RD K H (.bl b) (.bool b)
  | int (i : Int) : RD K H (.int i) (.int i)
  | str (x : Str) : RD K H (.str x) (.str x)
  | lst {a : Addr} {xs : List V} {ds : List PyData} (h : SqL K H a xs) (hs : RDs K H xs ds) : RD K H (.ref a) (.list ds)
  | tup {a : Addr} {xs : List V} {ds : List PyData} (h : SqT K H a xs) (hs : RDs K H xs ds) : RD K H (.ref a) (.tuple ds)
  | dic {a : Addr} {kvs : List (Key × V)} {ds : List (PyData × PyData)} (h : H a = some (.dK kvs)) (hs : RDk K H kvs ds) : RD K H (.ref a) (.dict ds)
inductive RDs (K : PySem.W.Frag) (H : Hp) : List V → List PyData → Prop
  | nil : RDs K H [] []
  | cons {v : V} {vs : List V} {d : PyData} {ds : List PyData} (h : RD K H v d) (hs : RDs K H vs ds) : RDs K H (v :: vs) (d :: ds)
inductive RDk (K : PySem.W.Frag) (H : Hp) : List (Key × V) → List (PyData × PyData) → Prop
  | nil : RDk K H [] []
  | cons {k : Key} {v : V} {vs : List (Key × V)} {d : PyData} {ds : List (PyData × PyData)} (h : RD K H v d) (hs : RDk K H vs ds) : RDk K H ((k, v) :: vs) ((dKey k, d) :: ds)
end
section
variable {X : Cx} {pins : List (Addr × Obj)} {σ : L2.St} {H : Hp} {s : Shared}
theorem key_reads {h : Heap} {P : Program} {w : World} {k : Key} {v : Value} (e : (mixKind P w).is k v = true) : Reads h v (dKey k) [] := by
  rcases keyIs_shape (show keyIs k v = true from e) with ⟨i, t, rfl, rfl⟩ | ⟨x, t, rfl, rfl⟩
  · exact Reads.int i t
  · exact Reads.str x t
theorem app_no {as bs : List Addr} {a : Addr} (h1 : a ∉ as) (h2 : a ∉ bs) : a ∉ as ++ bs := fun z => (List.mem_append.mp z).elim h1 h2
theorem cons_no {bs : List Addr} {a b : Addr} (h1 : a ≠ b) (h2 : a ∉ bs) : a ∉ b :: bs := fun z => (List.mem_cons.mp z).elim h1 h2
mutual
theorem RD.reads (I : Inv X pins σ H s) (S : Sys s.heap H) : ∀ (d : PyData) (v : V) (u : Value), RD X.K H v d → RelV v u → ∃ as, Reads s.heap u d as ∧ sysModules ∉ as
  | .none, _, _, h, r => by
    cases h
    cases r
    exact ⟨[], Reads.none, List.not_mem_nil⟩
  | .bool b, _, _, h, r => by
    cases h
    cases r
    exact ⟨[], Reads.bool b, List.not_mem_nil⟩
  | .int i, _, _, h, r => by
    cases h
    obtain ⟨t, rfl⟩ := r
    exact ⟨[], Reads.int i t, List.not_mem_nil⟩
  | .str x, _, _, h, r => by
    cases h
    obtain ⟨t, rfl⟩ := r
    exact ⟨[], Reads.str x t, List.not_mem_nil⟩
  | .list ds, _, _, h, r => by
    cases h with
    | @lst a xs _ hs ha =>
      cases r
      obtain ⟨its, rv, ⟨o, n, ho, hc, _, hd⟩, _⟩ := I.list hs
      obtain ⟨as, hr, hn⟩ := RDs.reads I S ds _ its ha rv
      refine ⟨_, Reads.list ho hc hd hr, cons_no (fun z => ?_) hn⟩
      obtain ⟨_, o', es, ep, e1, e2⟩ := S
      rw [z, ho] at e1
      have e3 := Option.some.inj e1
      rw [← e3, hd] at e2
      cases e2
  | .tuple ds, _, _, h, r => by
    cases h with
    | tup hs ha =>
      cases r
      obtain ⟨its, rv, ⟨o, ho, hc, n, hd⟩, _⟩ := I.tuple hs
      obtain ⟨as, hr, hn⟩ := RDs.reads I S ds _ its ha rv
      exact ⟨_, Reads.tuple ho hc hd hr, hn⟩
  | .dict ds, _, _, h, r => by
    cases h with
    | @dic a kvs _ hs ha =>
      cases r
      obtain ⟨_, hz, vs, rel, o, es, ep, ho, hx, hd, _, hp, _⟩ := dk_of I.hok hs
      obtain ⟨bs, h1, h2, hn⟩ := RDk.reads I S ds kvs vs es.toList ha rel hp
      exact ⟨_, Reads.dict ho hx.1 hd h1 h2, app_no (cons_no (fun z => by rw [z] at hz; exact absurd hz (by simp)) List.not_mem_nil) hn⟩
theorem RDs.reads (I : Inv X pins σ H s) (S : Sys s.heap H) : ∀ (ds : List PyData) (vs : List V) (us : List Value), RDs X.K H vs ds → Vals vs us → ∃ as, ReadsAll s.heap us ds as ∧ sysModules ∉ as
  | [], _, _, h, r => by
    cases h
    cases r
    exact ⟨[], ReadsAll.nil, List.not_mem_nil⟩
  | d :: ds, _, _, h, r => by
    cases h with
    | cons h1 h2 =>
      cases r with
      | cons r1 r2 =>
        obtain ⟨as, q1, n1⟩ := RD.reads I S d _ _ h1 r1
        obtain ⟨bs, q2, n2⟩ := RDs.reads I S ds _ _ h2 r2
        exact ⟨_, ReadsAll.cons q1 q2, app_no n1 n2⟩
theorem RDk.reads (I : Inv X pins σ H s) (S : Sys s.heap H) : ∀ (ds : List (PyData × PyData)) (kvs : List (Key × V)) (vs : List (Key × Value)) (es : List DictEntry), RDk X.K H kvs ds → KV kvs vs → Pairs (mixKind X.prog X.w) es vs →
    ∃ bs, ReadsAll s.heap (es.map (·.key)) (ds.map (·.1)) [] ∧ ReadsAll s.heap (es.map (·.val)) (ds.map (·.2)) bs ∧ sysModules ∉ bs
  | [], _, _, _, h, r, p => by
    cases h
    cases r
    cases p
    exact ⟨[], ReadsAll.nil, ReadsAll.nil, List.not_mem_nil⟩
  | (kd, d) :: ds, _, _, _, h, r, p => by
    cases h with
    | cons h1 h2 =>
      cases r with
      | @cons _ q _ _ r1 r2 =>
        cases p with
        | @cons e _ es _ p1 p2 p3 =>
          obtain ⟨k1, r1⟩ := r1
          obtain ⟨as, q1, n1⟩ := RD.reads I S d _ e.val h1 (by rw [p2]; exact r1)
          obtain ⟨bs, q2, q3, n2⟩ := RDk.reads I S ds _ _ es h2 r2 p3
          have kr : Reads s.heap e.key (dKey q.1) [] := key_reads p1
          refine ⟨as ++ bs, ?_, ReadsAll.cons q1 q3, app_no n1 n2⟩
          have z := ReadsAll.cons kr q2
          rw [← k1] at z
          exact z
end
end
def rReprD (K : PySem.W.Frag) : List V → Hp → VK → Prop := fun xs H Q => ∃ (x : V) (d : PyData), xs = [x] ∧ RD K H x d ∧ d.showable = true ∧ d.shown.length ≤ sizeLine ∧ d.depth ≤ 50 ∧ Q (.str d.shown) H
theorem call_reprD {X : Cx} {k : Nat} (g : Gd X) (hr : Room k X.A) : CallR X (.builtin "repr") (rReprD X.K) := by
  intro pins s σ H xs us Q I r h
  obtain ⟨x, d, rfl, hd, sh, sz, dp, q⟩ := h
  obtain ⟨u, rfl, ru⟩ := vals1 r
  have S := sys_inv I g.s g.x
  obtain ⟨as, rd, hn⟩ := RD.reads I S d x u hd ru
  have hu : X.A.units + (d.depth + 1) < cLine := by have := hr.units; omega
  cases rd with
  | none => exact P.repr_of_none ⟨.str _, H, I.tok _, ⟨_, rfl⟩, q⟩
  | bool b => exact P.repr_of_bool ⟨.str _, H, I.tok _, ⟨_, rfl⟩, q⟩
  | int i t => exact P.repr_of_int (by simpa [PyData.showable] using sh) ⟨.str _, H, I.tok _, ⟨_, rfl⟩, q⟩
  | str y t => exact P.repr_of_str ⟨.str _, H, I.tok _, ⟨_, rfl⟩, q⟩ sz
  | list e1 e2 e3 e4 => exact repr_of_reads' (Reads.list e1 e2 e3 e4) sh (fun _ => hn) g.g hu (fun _ _ e => e) (fun h' u tk hk => ⟨.str _, H, I.kept (t' := tk) hk, ⟨u, rfl⟩, q⟩) sz
  | tuple e1 e2 e3 e4 => exact repr_of_reads' (Reads.tuple e1 e2 e3 e4) sh (fun _ => hn) g.g hu (fun _ _ e => e) (fun h' u tk hk => ⟨.str _, H, I.kept (t' := tk) hk, ⟨u, rfl⟩, q⟩) sz
  | dict e1 e2 e3 e4 e5 => exact repr_of_reads' (Reads.dict e1 e2 e3 e4 e5) sh (fun _ => hn) g.g hu (fun _ _ e => e) (fun h' u tk hk => ⟨.str _, H, I.kept (t' := tk) hk, ⟨u, rfl⟩, q⟩) sz
end Paw

set_option maxRecDepth 100000
set_option maxHeartbeats 2000000
namespace Paw
open PySem PySem.Spec PyProof.Rows L2

/-! ### a law's end, from the promise of a def that may look at repr -/
def GoesWell (s1 : Shared) (r : Result) (s' : Shared) : Prop := r = .ok (.ret (.bool true)) ∧ OldK s1.heap s'.heap ∧ s'.os = s1.os ∧ AllBare s'.gens
/-- the call of the law from an abstract heap in which at most the script stands -/
theorem law_coreG {P : Program} {w : World} {K : PySem.W.Frag} {mg mb : Str → Option Value} {CX : CXT} {k : Nat} {fa a : Addr} {fd : FuncData} {x : Str} {sp : Sp} {s1 : Shared} {oa : Obj} {H : Hp}
    (KIn : K.In s1.heap) (nsG : s1.heap.Ns mainGlobals mg) (nsB : s1.heap.Ns builtinsNs mb) (boot : ∀ x : Str, x ≠ "__name__" → mb x = bootBuiltins x) (lim : s1.heap.NoLimit) (mods : ∃ mm, s1.heap.Ns sysModules mm) (gens : s1.gens = #[])
    (ha : s1.heap.get? a = some oa) (hna : ∀ es ep, oa.data ≠ .dict es ep) (room : Room k callerA)
    (F : ∀ base : Heap, K.In base → base.Ns mainGlobals mg → FnG P w K mg base CX k fa fd [x] sp) (bind : ∀ (s : Shared) (u : Value), BindsTo s fd ⟨[u], []⟩ [(x, u)])
    (only : Only H) (alone : ∀ b, H b ≠ none → b = a) (apart : H a ≠ none → K.lookup a = none) (ok : HOk P w H s1.heap)
    (want : sp [.ref a] H (fun v _ => v = .bl true) fun _ _ _ => False) (calm : ∀ e s', CX [] H s1 (fun _ _ _ => False) e s' → False) :
    codeAny (model P w) callerA (.call (.ref fa) ⟨[.ref a], []⟩) (GoesWell s1) s1 := by
  have free_of : ∀ {b : Addr} {o : Obj} {es : Array DictEntry} {ep : Nat}, s1.heap.get? b = some o → o.data = .dict es ep → H b = none := by
    intro b o es ep e d
    cases q : H b with
    | none => rfl
    | some u =>
      have eb := alone b (by rw [q]; exact Option.some_ne_none u)
      rw [eb, ha] at e
      cases e
      exact absurd d (hna es ep)
  have hid : ∀ {b : Addr} {m : Str → Option Value}, s1.heap.Ns b m → (hidT s1.heap H).Ns b m := by
    rintro b m ⟨o, es, ep, e, d, rest⟩
    exact ⟨o, es, ep, hidT_get e (free_of e d), d, rest⟩
  have KBase : K.In (hidT s1.heap H) := by
    intro b o e
    refine hidT_get (KIn b o e) ?_
    cases q : H b with
    | none => rfl
    | some u =>
      have nn : H b ≠ none := by rw [q]; exact Option.some_ne_none u
      have eb := alone b nn
      rw [eb] at nn e
      rw [apart nn] at e
      cases e
  have M : Mod K mg (hidT s1.heap H) := by
    refine ⟨KBase, hid nsG, ⟨mb, hid nsB, boot⟩, ?_⟩
    obtain ⟨mc, q1, q2⟩ := lim
    exact ⟨mc, hid q1, q2⟩
  have e0 : Env0 P w K mg (hidT s1.heap H) callerA [] s1 H := by
    refine ⟨rfl, M, fun b o e => of_hidT e, Nat.le_of_eq (hidT_size _ _), trivial, fun b hb => ?_, ok, .of_eq gens⟩
    exact absurd (show b ∈ ([] : List Addr) from hb) List.not_mem_nil
  have S : Sys s1.heap H := by
    obtain ⟨mm, o, es, ep, e, d, _⟩ := mods
    exact ⟨free_of e d, o, es, ep, e, d⟩
  apply codeAny_mono ((F _ KBase (hid nsG)).goes callerA rfl [] s1 H ⟨[.ref a], []⟩ [.ref a] [.ref a] _ _ S room e0 (bind s1 (.ref a)) (.cons rfl .nil) want)
  intro r s' h
  match r, h with
  | .error e, h => exact (calm e s' h).elim
  | .ok (.ret u), ⟨v, H', os, bare, un, ok', rel, q⟩ =>
    cases (show v = .bl true from q)
    cases (show u = Value.bool true from rel)
    refine ⟨rfl, OldK.of_keep fun b o e => ?_, os, bare⟩
    cases q2 : H b with
    | none => exact un.keep b o e q2 List.not_mem_nil List.not_mem_nil
    | some u =>
      rcases only b with z | ⟨ob, xs, z⟩
      · rw [q2] at z
        cases z
      · have z1 := (ok b _ z).1
        have z2 := (ok' b _ (un.frzs b ob _ z)).1
        rw [e] at z1
        cases z1
        exact z2
theorem law_callG {P : Program} {w : World} {K : PySem.W.Frag} {mg mb : Str → Option Value} {CX : CXT} {k : Nat} {fa a : Addr} {fd : FuncData} {x : Str} {sp : Sp} {s1 : Shared} {vs : List Value} {ns : List Int}
    (KIn : K.In s1.heap) (nsG : s1.heap.Ns mainGlobals mg) (nsB : s1.heap.Ns builtinsNs mb) (boot : ∀ x : Str, x ≠ "__name__" → mb x = bootBuiltins x) (lim : s1.heap.NoLimit) (mods : ∃ mm, s1.heap.Ns sysModules mm) (gens : s1.gens = #[])
    (ha : s1.heap.get? a = some { cls := .type "list", data := .seq vs.toArray }) (isInts : IntsAre vs ns) (short : ns.length ≤ sizeLine) (room : Room k callerA)
    (F : ∀ base : Heap, K.In base → base.Ns mainGlobals mg → FnG P w K mg base CX k fa fd [x] sp) (bind : ∀ (s : Shared) (u : Value), BindsTo s fd ⟨[u], []⟩ [(x, u)])
    (want : ∀ H : Hp, Only H → SqL K H a (ns.map V.int) → sp [.ref a] H (fun v _ => v = .bl true) fun _ _ _ => False) (calm : ∀ H e s', CX [] H s1 (fun _ _ _ => False) e s' → False) :
    codeAny (model P w) callerA (.call (.ref fa) ⟨[.ref a], []⟩) (GoesWell s1) s1 := by
  have rel := vals_ints isInts
  have hna : ∀ es ep, (Data.seq vs.toArray 0 : Data) ≠ .dict es ep := fun es ep q => by cases q
  cases here : K.lookup a with
  | some o =>
    have e := KIn a o here
    rw [ha] at e
    cases e
    have sq : SqL K (fun _ => none) a (ns.map V.int) := by
      refine Or.inr ⟨_, vs.toArray, _, here, rfl, rfl, rfl, ?_, ?_⟩
      · rw [List.size_toArray, isInts.length]
        exact short
      · rw [List.toList_toArray]
        exact rel
    exact law_coreG KIn nsG nsB boot lim mods gens ha hna room F bind (fun _ => Or.inl rfl) (fun b z => absurd rfl z) (fun z => absurd rfl z) (fun b u z => by cases z) (want _ (fun _ => Or.inl rfl) sq) (calm _)
  | none =>
    let o : HO := .frz { cls := .type "list", data := .seq vs.toArray } (.lst (ns.map V.int))
    have at_a : (upd (fun _ => none) a o) a = some o := upd_same
    have off : ∀ {b : Addr}, b ≠ a → (upd (fun _ => none) a o) b = none := fun {b} h => upd_ne h
    have only : Only (upd (fun _ => none) a o) := by
      intro b
      by_cases h : b = a
      · rw [h]
        exact Or.inr ⟨_, _, at_a⟩
      · exact Or.inl (off h)
    refine law_coreG KIn nsG nsB boot lim mods gens ha hna room F bind only (fun b z => ?_) (fun _ => here) (fun b u z => ?_) (want _ only (Or.inl (Or.inr ⟨_, at_a⟩))) (calm _)
    · by_cases h : b = a
      · exact h
      · exact absurd (off h) z
    · by_cases h : b = a
      · rw [h] at z ⊢
        rw [at_a] at z
        cases z
        refine ⟨ha, ?_, vs, _, rel, ha⟩
        rw [List.length_map]
        exact short
      · rw [off h] at z
        cases z
theorem walkG {l : PySem.W.OpenLaw} {n k : Nat} {q : Program} {loose : List Str} {XP : (Str → Option Value) → Heap → Prop} {YP : World → Heap → Prop} {d : DefRec} {K : Params → PySem.W.Frag} {CX : World → CXT} {sp : PySem.W.Frag → Sp} {x : Str}
    (hn : l.most = some n) (hn2 : n ≤ sizeLine) (hdf : d.params.defaults = []) (hr : Room k callerA) (him : importsNone q = true)
    (hY : ∀ (w : World) (h : Heap), YP w h → (K w.params).In h)
    (F : ∀ (w : World) (mg : Str → Option Value) (fa : Addr) (h : Heap), (K w.params).In h → h.Ns mainGlobals mg → mg d.name = some (.ref fa) →
      ∃ fd : FuncData, (∀ (s : Shared) (u : Value), BindsTo s fd ⟨[u], []⟩ [(x, u)]) ∧
        ∀ base : Heap, (K w.params).In base → base.Ns mainGlobals mg → FnG l.prog w (K w.params) mg base (CX w) k fa fd [x] (sp (K w.params)))
    (want : ∀ (K : PySem.W.Frag) (H : Hp) (a : Addr) (ns : List Int), ns.length ≤ n → Only H → SqL K H a (ns.map V.int) → sp K [.ref a] H (fun v _ => v = .bl true) fun _ _ _ => False)
    (calm : ∀ (w : World) (H : Hp) (s : Shared) (e : Value) (s' : Shared), CX w [] H s (fun _ _ _ => False) e s' → False) :
    PySem.W.WalkO q loose XP YP l.row.toRowW d [] (fun f vs => PySem.call f vs) := by
  apply Att.attach_call hn hdf
  intro w s0 s1 mg mb fa o pm cd doc a vs ns G Y ho hd hcd hmg hobj hints hlen hg
  obtain ⟨fd, hb, hF⟩ := F w mg fa _ (hY w _ Y) G.T.g hmg
  exact law_callG (hY w _ Y) G.T.g G.T.b G.T.builtins G.T.nolimit (let ⟨mm, z, _⟩ := (G.T.seer him).mods; ⟨mm, z⟩) hg hobj hints (Nat.le_trans hlen hn2) hr hF hb (fun H hO hS => want _ H a ns hlen hO hS) fun H e s' => calm w H s1 e s'
end Paw

set_option maxRecDepth 100000
set_option maxHeartbeats 4000000
/-! ### an own exception class called with keywords -/
namespace PySem
namespace PawX
open PySem.W PySem.Calls PyProof.Rows PySem.HandSPX
section
variable {M : Model} {prog : Program} {w : World} {A : Around} {E : Value → Shared → Prop} {R : Result → Shared → Prop} {hp : Heap} {gs : Array GenState} {dr : Drawn} {tk : Nat} {os : OsState}
variable {nm q : Str} {C N : Addr} {bs bm bmB : List Value} {hdct : Bool} {sn : List Str} {sub : List Value} {ab : Bool} {col : Option Bool} {dd : Option Addr} {k0 k1 k2 k3 k5 : Option Value} {B newId initId : String}
variable {pos : List Value} {kw : List (Str × Value)}
theorem kw_check (F : ExcBaseFacts B newId initId bmB) (hT : ∀ X : String, bm.contains (.type X) = bmB.contains (.type X)) {Q : Unit → Shared → Prop}
    (hC : hp.get? C = some (excClassObj nm q C N bs bm hdct sn sub ab col dd k0 k1 k2 k3 k5 newId)) (then_ : Q () ⟨hp, gs, dr, tk, os⟩) :
    wpAny M A (checkBuiltinCall newId ⟨.ref C :: pos, kw⟩) Q E ⟨hp, gs, dr, tk, os⟩ := by
  have cont : (Value.ref C :: bm).contains (.type B) = true := by
    rw [List.contains_cons, hT, F.hasB, Bool.or_true]
  have star := F.noStar
  simp only [checkBuiltinCall, F.newKind, F.newSplit, F.newRow]
  repeat (first
    | refine wpAny_loadPart_at hC ?_
    | (refine wpAny_isSubtype_exc hC ?_; rw [cont])
    | refine wpAny_staticBase_exc hC ?_
    | refine wpAny_madeBy_exc hC ?_
    | simp only [bne_self_eq_false, Bool.false_eq_true, if_false]
    | wp_step)
  exact then_
theorem kw_new (F : ExcBaseFacts B newId initId bmB) (hT : ∀ X : String, bm.contains (.type X) = bmB.contains (.type X))
    (hC : hp.get? C = some (excClassObj nm q C N bs bm hdct sn sub ab col dd k0 k1 k2 k3 k5 newId))
    (then_ : R (.ok (.ret (.ref (hp.objs.size + 1)))) ⟨(hp.push (W.kdv_tup pos)).push (excO C hp.objs.size), gs, dr, tk, os⟩) (short : pos.length ≤ sizeLine) :
    codeAny (model prog w) A (.builtin newId ⟨.ref C :: pos, kw⟩) R ⟨hp, gs, dr, tk, os⟩ := by
  have fin := F.ends
  have cB : (Value.ref C :: bm).contains (.type B) = true := by
    rw [List.contains_cons, hT, F.hasB, Bool.or_true]
  have cA : (Value.ref C :: bm).contains (.type "AttributeError") = false := by
    rw [List.contains_cons, hT, F.noAttr]
    rfl
  have cN : (Value.ref C :: bm).contains (.type "NameError") = false := by
    rw [List.contains_cons, hT, F.noName]
    rfl
  refine codeAny_builtinAt F.entry ?_
  unfold Builtin.«BaseException.__new__»
  refine wpAt_bind ?_
  show wpAt _ _ _ (stack >>= _) _ _ _
  refine wpAt_bind (wpAt_stack fun p below => wpAt_of_wpAny ?_)
  wp_walk
  refine wpAt_of_wpAny ?_
  rw [F.owner]
  repeat (first
    | with_reducible refine wpAny_madeHere_exc F.canon hC ?_
    | with_reducible refine wpAny_loadPart_at hC ?_
    | (with_reducible refine wpAny_isSubtype_exc hC ?_; first | rw [cB] | rw [cA] | rw [cN])
    | wp_step)
  show R _ _
  rw [Heap.size_push]
  exact then_
theorem kw_type_call (F : ExcBaseFacts B newId initId bmB) (hT : ∀ X : String, bm.contains (.type X) = bmB.contains (.type X)) {fI : Addr} {Q : Fin → Shared → Prop}
    (hC : hp.get? C = some (excClassObj nm q C N bs bm hdct sn sub ab col dd k0 k1 k2 k3 k5 newId))
    (found : W.Looks (model prog w) hp (typeLookup (.ref C) "__init__") (some (.ref fI))) (bound : ∀ self, W.Looks (model prog w) hp (bindSpecial (.ref fI) self) (.ref fI, [self])) (short : pos.length ≤ sizeLine)
    (runs : codeAny (model prog w) A (.call (.ref fI) ⟨.ref (hp.objs.size + 1) :: pos, kw⟩)
      (fun r s' => match r with | .ok (.ret v) => v = .none ∧ Q (.done (.ret (.ref (hp.objs.size + 1)))) s' | .ok _ => False | .error e => E e s')
      ⟨(hp.push (W.kdv_tup pos)).push (excO C hp.objs.size), gs, dr, tk, os⟩) :
    wpAny (model prog w) A (Builtin.«type.__call__» ⟨.ref C :: pos, kw⟩) Q E ⟨hp, gs, dr, tk, os⟩ := by
  repeat (first
    | with_reducible refine wpAny_loadPart_at hC ?_
    | with_reducible refine wpAny_madeBy_exc hC ?_
    | wp_step)
  refine codeAny_call_builtin_code (Code.quiet_builtin _ F.quiet) (kw_check F hT hC ?_)
  refine kw_new F hT hC ?_ short
  show wpAny _ _ _ _ _ _
  have old : ∀ b o, hp.get? b = some o → ((hp.push (W.kdv_tup pos)).push (excO C hp.objs.size)).get? b = some o :=
    fun b o e => Heap.get?_push_of_some _ (Heap.get?_push_of_some _ e)
  have hC2 := old _ _ hC
  have made : ((hp.push (W.kdv_tup pos)).push (excO C hp.objs.size)).get? (hp.objs.size + 1) = some (excO C hp.objs.size) := by heap_get
  have cC : (Value.ref C :: bm).contains (.ref C) = true := by simp
  have look2 := found.keeps old
  have bind2 := (bound (.ref (hp.objs.size + 1))).keeps old
  unfold isInstance
  repeat (first
    | with_reducible refine wpAny_loadPart_at made ?_
    | (with_reducible refine wpAny_isSubtype_exc hC2 ?_; rw [cC])
    | wp_step)
  show wpAny _ _ (typeLookup (.ref C) _) _ _ _
  refine look2.at ?_
  refine wpAny_holding (wpAny_bind (bind2.at ?_))
  refine wpAny_bind (wpAny_call (codeAny_mono runs fun r s' z => ?_))
  rcases r with e | (v | _ | _ | _) <;> first | exact z | exact z.elim | skip
  obtain ⟨rfl, z⟩ := z
  first
    | exact wpAny_pure (wpAny_pure z)
    | (wp_walk; exact z)
theorem kw_call (F : ExcBaseFacts B newId initId bmB) (hT : ∀ X : String, bm.contains (.type X) = bmB.contains (.type X)) {fI : Addr}
    (hC : hp.get? C = some (excClassObj nm q C N bs bm hdct sn sub ab col dd k0 k1 k2 k3 k5 newId))
    (found : W.Looks (model prog w) hp (typeLookup (.ref C) "__init__") (some (.ref fI))) (bound : ∀ self, W.Looks (model prog w) hp (bindSpecial (.ref fI) self) (.ref fI, [self])) (short : pos.length ≤ sizeLine)
    (runs : codeAny (model prog w) (A.under (.builtin "type.__call__" ⟨.ref C :: pos, kw⟩)) (.call (.ref fI) ⟨.ref (hp.objs.size + 1) :: pos, kw⟩) (W.InitBack (hp.objs.size + 1) R)
      ⟨(hp.push (W.kdv_tup pos)).push (excO C hp.objs.size), gs, dr, tk, os⟩) :
    codeAny (model prog w) A (.call (.ref C) ⟨pos, kw⟩) R ⟨hp, gs, dr, tk, os⟩ := by
  have f1 := tc_lookup
  have f2 := tc_bind (.ref C)
  have ty : (⟨hp, gs, dr, tk, os⟩ : Shared).TypeIs (.ref C) "type" := ⟨_, hC, rfl⟩
  refine codeAny_of_tree ?_
  show wpAny _ _ (callAny (.ref C) _) _ _ _
  repeat (any_goals (first | assumption | with_reducible refine wpAny_loadPart_at hC ?_ | wp_step))
  refine ⟨rfl, ?_⟩
  refine codeAny_call_builtin_at (Code.quiet_builtin _ (by decide +kernel)) entry_typeCall (wpAny_check_type_call_sub hC (kw_type_call F hT hC found bound short ?_))
  refine codeAny_mono runs fun r s' z => ?_
  rcases r with e | (v | _ | _ | _) <;> exact z
end
end PawX
end PySem

set_option maxRecDepth 100000
set_option maxHeartbeats 2000000
namespace Paw
open PySem PySem.Spec PyProof.Rows L2

/-! ### exceptions of the program's own classes as values -/
/-- what the written part says of such a class -/
structure ExV (K : PySem.W.Frag) (C : Addr) : Prop where
  oex : OexC K C
  ga : PySem.W.findIn K (.ref C) "__getattribute__" = some (some (.builtin "BaseException.__getattribute__"))
  gg : PySem.W.findIn K (.ref C) "__getattr__" = some none
  hd : PySem.W.hasDictIn K C = true
  ca : PySem.W.findIn K (.ref C) "__class__" = some (some (.builtin "object.__class__"))
  cg : PySem.W.specialIn K (.builtin "object.__class__") "__get__" = some (some (.builtin "getset_descriptor.__get__"))
  ct : PySem.W.takesIn K (.builtin "object.__class__") = some true
  ob : PySem.W.mroIn K C (.type "object") = some true
/-- an error stands at a: of the class at C, with the fields fs -/
def Err (H : Hp) (a C : Addr) (fs : List (Str × V)) : Prop := ∃ d, H a = some (exo a C (some d)) ∧ H d = some (exd d fs)
/-- an error stands at a, with fields or without -/
def ErrAny (H : Hp) (a C : Addr) : Prop := ∃ d, H a = some (exo a C d) ∧ ∀ dx, d = some dx → ∃ fs, H dx = some (exd dx fs)
theorem Err.any {H : Hp} {a C : Addr} {fs : List (Str × V)} (h : Err H a C fs) : ErrAny H a C := by
  obtain ⟨d, h1, h2⟩ := h
  exact ⟨some d, h1, fun dx e => ⟨fs, by cases e; exact h2⟩⟩
theorem Err.mono {H H' : Hp} {a C : Addr} {fs : List (Str × V)} (h : Err H a C fs) (s : Same H H') : Err H' a C fs := by
  obtain ⟨d, h1, h2⟩ := h
  exact ⟨d, s _ _ h1, s _ _ h2⟩
theorem ErrAny.mono {H H' : Hp} {a C : Addr} (h : ErrAny H a C) (s : Same H H') : ErrAny H' a C := by
  obtain ⟨d, h1, h2⟩ := h
  exact ⟨d, s _ _ h1, fun dx e => (h2 dx e).elim fun fs q => ⟨fs, s _ _ q⟩⟩
/-- C(e, .., k = v, ..) as a value: n values behind one another, m by name -/
def tErr (C : Addr) (n m : Nat) (sp : Sp) (gV : List V → List V → List V) (t tk : TA) : TE := fun σ H Q => t σ H fun vs H1 => tk σ H1 fun zs H2 => vs.length = n ∧ n ≤ 1000 ∧ zs.length = m ∧
  ∀ a, H2 a = none → sp (gV (.ref a :: vs) zs) (upd H2 a (exo a C none)) (fun v H3 => v = .non ∧ Q (.ref a) H3) fun _ _ _ => False
section
variable {X : Cx} {CX : CXT} {k n : Nat} {f C : Addr} {fd : FuncData} {ps ks : List Str} {sp : Sp} {x : Str} {p pos : Pos} {e : Expr} {es : List Expr} {kws : List Keyword} {t tk : TA} {te : TE} {g : List Value → List Value → List Value} {gV : List V → List V → List V}
theorem err_runs {pins : List (Addr × Obj)} {σ : L2.St} {H : Hp} {s : Shared} {Q : VK} {us ws : List Value} {vs zs : List V} (T : OexC X.K C) (iC : PySem.W.findIn X.K (.ref C) "__init__" = some (some (.ref f))) (tI : PySem.W.typeIn X.K (.ref f) = some (.type "function"))
    (F : FnOk X.prog X.w X.K X.mg X.base CX k f fd ps sp) (hr : Room (k + 1) X.A) (hb : KBn X.K fd ps (n + 1) ks g gV) (hx : Passes CX X fun _ _ _ => False) (I : Inv X pins σ H s) (r : Vals vs us) (rz : Vals zs ws) (l1 : vs.length = n) (l0 : n ≤ 1000) (l2 : zs.length = ks.length)
    (h : ∀ a, H a = none → sp (gV (.ref a :: vs) zs) (upd H a (exo a C none)) (fun v H3 => v = .non ∧ Q (.ref a) H3) fun _ _ _ => False) :
    wpAny (model X.prog X.w) X.A (call (.ref C) us (ks.zip ws)) (EP X pins σ Q) X.xe s := by
  obtain ⟨nm, q, N, bs, bm, sn, sub, ab, col, dd, k0, k1, k2, k3, k5, hC, hbm⟩ := T.cls
  obtain ⟨hp, gs, dr, tk, os⟩ := s
  have new : hp.objs.size ≤ hp.objs.size + 1 := Nat.le_succ _
  have hq := h (hp.objs.size + 1) (I.hok.fresh new)
  have old : ∀ b o, hp.get? b = some o → ((hp.push (PySem.W.kdv_tup us)).push (PySem.HandSPX.excO C hp.objs.size)).get? b = some o := fun b o z => Heap.get?_push_of_some _ (Heap.get?_push_of_some _ z)
  have made : ((hp.push (PySem.W.kdv_tup us)).push (PySem.HandSPX.excO C hp.objs.size)).get? (hp.objs.size + 1) = some (PySem.HandSPX.excO C hp.objs.size) := by heap_get
  have J : Inv X pins σ (upd H (hp.objs.size + 1) (exo (hp.objs.size + 1) C none)) ⟨(hp.push (PySem.W.kdv_tup us)).push (PySem.HandSPX.excO C hp.objs.size), gs, dr, tk, os⟩ :=
    I.laid (t' := tk) old new (exo_ok made)
  have r1 : Vals (V.ref (hp.objs.size + 1) :: vs) (Value.ref (hp.objs.size + 1) :: us) := .cons rfl r
  have n1 : (Value.ref (hp.objs.size + 1) :: us).length = n + 1 := by
    rw [List.length_cons, ← r.length, l1]
  have short : us.length ≤ sizeLine := by
    rw [← r.length, l1, sizeLine_eq]
    omega
  apply wpAny_call
  apply PySem.PawX.kw_call PySem.F.excBase_ValueError (fun Y => PySem.HandSPX.refsVE_contains Y bm hbm) (I.kIn _ _ hC) (PySem.W.looks_findIn I.kIn iC) (fun self => PySem.W.bind_fn I.kIn self tI) short
  apply codeAny_mono (F.run _ X.stack _ _ ⟨Value.ref (hp.objs.size + 1) :: us, ks.zip ws⟩ (g (Value.ref (hp.objs.size + 1) :: us) ws) _ _ _ (hr.make C us (ks.zip ws)) (J.env0.make C us (ks.zip ws)) (hb.to _ (Value.ref (hp.objs.size + 1) :: us) ws J.kIn n1 (rz.length.symm.trans l2)) (hb.rel r1 rz) hq)
  intro r s' q
  match r, q with
  | .error er, q => exact hx pins σ _ _ er s' J q
  | .ok (.ret u), q =>
    obtain ⟨v, H', I3, rv, ev, q3⟩ := J.after q
    subst ev
    exact ⟨rv, .ref (hp.objs.size + 1), H', I3, rfl, q3⟩
theorem pe_err (T : OexC X.K C) (iC : PySem.W.findIn X.K (.ref C) "__init__" = some (some (.ref f))) (tI : PySem.W.typeIn X.K (.ref f) = some (.type "function")) (F : FnOk X.prog X.w X.K X.mg X.base CX k f fd ps sp) (hr : Room (k + 1) X.A) (hg : Gl X x) (hm : X.mg x = some (.ref C))
    (hb : KBn X.K fd ps (n + 1) [] g gV) (hx : Passes CX X fun _ _ _ => False) (ha : PA X (e :: es) t) (hdb : (x == ("__debug__" : Str)) = false := by decide) (he : starEach (e :: es) X.env = (false, eval e X.env) :: starEach es X.env := by rfl)
    (hpl : (backTo pos (starEach es X.env)).any (·.1) = false := by rfl) : PE X (.Call (.Name x p) (e :: es) [] pos) (tErr C n 0 sp gV t tNil) := by
  constructor
  intro pins s σ H Q I h
  apply wpAny_Call_Name_kw
  apply ld_glob I hg hm _ hdb
  apply PySem.W.callWith_K (h₀ := X.base) I.ok.mod.kin T.kC _ he hpl
  apply thn (ha.run pos pins s σ H _ I h)
  rintro us s1 ⟨vs, H1, I1, r, l1, l0, _, q⟩
  have z := err_runs (ks := []) (ws := []) (zs := []) T iC tI F hr hb hx I1 r .nil l1 l0 rfl q
  exact ⟨I1.kIn, z⟩
theorem pe_errK0 (T : OexC X.K C) (iC : PySem.W.findIn X.K (.ref C) "__init__" = some (some (.ref f))) (tI : PySem.W.typeIn X.K (.ref f) = some (.type "function")) (F : FnOk X.prog X.w X.K X.mg X.base CX k f fd ps sp) (hr : Room (k + 1) X.A) (hg : Gl X x) (hm : X.mg x = some (.ref C))
    (hb : KBn X.K fd ps 1 ks g gV) (hx : Passes CX X fun _ _ _ => False) (hkw : PK X kws tk) (hall : (backToKw pos (keywordEach kws X.env)).all (·.1.isSome) = true := by rfl) (hks : (backToKw pos (keywordEach kws X.env)).filterMap (·.1) = ks := by rfl)
    (hdb : (x == ("__debug__" : Str)) = false := by decide) (hpl : ((backTo pos (starEach [] X.env)).any (·.1) || (backToKw pos (keywordEach kws X.env)).any (·.1.isNone)) = false := by rfl) :
    PE X (.Call (.Name x p) [] kws pos) (tErr C 0 ks.length sp gV tNil tk) := by
  constructor
  intro pins s σ H Q I h
  apply wpAny_Call_Name_kw
  apply ld_glob I hg hm _ hdb
  apply PySem.W.callWith_KW0 (h₀ := X.base) I.ok.mod.kin T.kC hall _ hpl
  apply thn (hkw.run pos pins s σ H _ I h)
  rintro ws s2 ⟨zs, H2, I2, rz, l1, l0, l2, q⟩
  refine ⟨I2.kIn, ?_⟩
  rw [hks]
  exact err_runs (us := []) (vs := []) T iC tI F hr hb hx I2 .nil rz l1 l0 l2 q
theorem pe_errK (T : OexC X.K C) (iC : PySem.W.findIn X.K (.ref C) "__init__" = some (some (.ref f))) (tI : PySem.W.typeIn X.K (.ref f) = some (.type "function")) (F : FnOk X.prog X.w X.K X.mg X.base CX k f fd ps sp) (hr : Room (k + 1) X.A) (hg : Gl X x) (hm : X.mg x = some (.ref C))
    (hb : KBn X.K fd ps (n + 1) ks g gV) (hx : Passes CX X fun _ _ _ => False) (ha : PA X (e :: es) t) (hkw : PK X kws tk) (hall : (backToKw pos (keywordEach kws X.env)).all (·.1.isSome) = true := by rfl) (hks : (backToKw pos (keywordEach kws X.env)).filterMap (·.1) = ks := by rfl)
    (hdb : (x == ("__debug__" : Str)) = false := by decide) (he : starEach (e :: es) X.env = (false, eval e X.env) :: starEach es X.env := by rfl) (hpl : ((backTo pos (starEach (e :: es) X.env)).any (·.1) || (backToKw pos (keywordEach kws X.env)).any (·.1.isNone)) = false := by rfl) :
    PE X (.Call (.Name x p) (e :: es) kws pos) (tErr C n ks.length sp gV t tk) := by
  constructor
  intro pins s σ H Q I h
  apply wpAny_Call_Name_kw
  apply ld_glob I hg hm _ hdb
  apply PySem.W.callWith_KW (h₀ := X.base) I.ok.mod.kin T.kC hall _ hpl he
  apply thn (ha.run pos pins s σ H _ I h)
  rintro us s1 ⟨vs, H1, I1, r, q⟩
  apply thn (hkw.run pos pins s1 σ H1 _ I1 q)
  rintro ws s2 ⟨zs, H2, I2, rz, l1, l0, l2, q2⟩
  refine ⟨I2.kIn, ?_⟩
  rw [hks]
  exact err_runs T iC tI F hr hb hx I2 r rz l1 l0 l2 q2
/-- C(), C an own class of errors without __init__ -/
theorem pe_err0 {bmB : List Value} {B newId initId : String} (F : ExcBaseFacts B newId initId bmB) (q : PySem.W.excIn X.K C bmB newId = true) (gC : X.mg x = some (.ref C)) (kC : PySem.W.keepIn X.K (.ref C) = true) (hg : Gl X x)
    (hdb : (x == ("__debug__" : Str)) = false := by decide) : PE X (.Call (.Name x p) [] [] pos) (fun σ H Q => ∀ a, H a = none → Q (.ref a) (upd H a (exo a C none))) := by
  constructor
  intro pins s σ H Q I h
  apply wpAny_Call_Name_kw
  apply ld_glob I hg gC _ hdb
  apply PySem.W.callWith_K0 I.kIn kC
  obtain ⟨bm, N, nm, qn, bs, hdct, sn, sub, ab, col, dd, k0, k1, k2, k3, k5, mN, hC, hN, hni, T⟩ := exc_obj I.kIn q
  refine wpAny_call_exc_subT F T hC hN hni (fun h' a hm => ?_) (by show 0 ≤ sizeLine; omega)
  have new : H a = none := I.hok.gone hm.new
  obtain ⟨t, ht, _, _⟩ := hm.there
  exact ⟨.ref a, upd H a (exo a C none), I.laidN hm.keeps hm.new new (exo_ok ht), rfl, h a new⟩
/-- e.f, e an error with the field f -/
def tErrFld (K : PySem.W.Frag) (nm : Str) (te : TE) : TE := fun σ H Q => te σ H fun x H1 => ∃ (a C : Addr) (fs : List (Str × V)) (v : V), x = .ref a ∧ ExV K C ∧ PySem.W.findIn K (.ref C) nm = some none ∧ Err H1 a C fs ∧ fs.lookup nm = some v ∧ Q v H1
theorem pe_errFld {nm : Str} (he : PE X e te) (hb : attributeBase e nm X.env (eval e X.env) = eval e X.env := by rfl) : PE X (.Attribute e nm pos) (tErrFld X.K nm te) := by
  constructor
  intro pins s σ H Q I h
  apply attr_of hb
  apply thn (he.run pins s σ H _ I h)
  rintro u s1 ⟨x, H1, I1, rx, a, C, fs, v, rfl, T, no, ⟨d, ea, ed⟩, l, q⟩
  cases (show u = Value.ref a from rx)
  obtain ⟨t1, ho⟩ := exo_at I1.hok ea
  obtain ⟨mA, hn, rel⟩ := exd_at I1.hok ed
  obtain ⟨od, hod, hl⟩ := lookIn_ns hn
  obtain ⟨u, hu, ru⟩ := RelO.some_of (v := v) (o := mA nm) (by rw [← l]; exact rel nm)
  have J : PySem.W.InstAt s1.heap a _ C (some od) := ⟨ho, rfl, rfl, hod⟩
  exact HandSPX.exc_get I1.kIn J T.ga T.gg T.oex.exC (PySem.W.findObj_own T.hd no rfl (by rw [hl, hu])) (handed_of ru) ⟨v, H1, I1.tok _, ru, q⟩
/-- isinstance(e, c), e an error -/
def rErrIs (K : PySem.W.Frag) : List V → Hp → VK → Prop := fun xs H Q => ∃ (a C : Addr) (c : V) (cv : Value) (b : Bool), xs = [.ref a, c] ∧ ClsV c cv ∧ ExV K C ∧ ErrAny H a C ∧ PySem.W.kitOne K (.ref C) cv = some b ∧ Q (.bl b) H
theorem call_errIs : CallR X (.builtin "isinstance") (rErrIs X.K) := by
  intro pins s σ H xs us Q I r h
  obtain ⟨a, C, c, cv, b, rfl, hc, T, ⟨d, ea, ed⟩, ek, q⟩ := h
  obtain ⟨u1, u2, rfl, r1, r2⟩ := vals2 r
  cases (show u1 = Value.ref a from r1)
  have e2 := hc.eq r2
  subst e2
  obtain ⟨t1, ho⟩ := exo_at I.hok ea
  have hcl : (PySem.W.clsIn X.K C).isSome = true := by
    obtain ⟨cd, hcd, _⟩ := PySem.W.any_some T.hd
    rw [hcd]
    rfl
  have fin : ∀ tk, EP X pins σ Q (.bool b) { s with toks := tk } := fun tk => ⟨.bl b, H, I.tok tk, rfl, q⟩
  cases d with
  | none =>
    have J : PySem.W.InstAt s.heap a _ C none := ⟨ho, rfl, rfl, trivial⟩
    exact PySem.W.kia_one (PySem.W.kitx_exc hcl T.ga T.gg T.oex.exC T.ca T.cg T.ct T.ob) I.kIn J ek (fun z => nomatch z) fin
  | some dx =>
    obtain ⟨fs, ed⟩ := ed dx rfl
    obtain ⟨mA, hn, rel⟩ := exd_at I.hok ed
    obtain ⟨od, hod, hl⟩ := lookIn_ns hn
    have J : PySem.W.InstAt s.heap a _ C (some od) := ⟨ho, rfl, rfl, hod⟩
    exact PySem.W.kia_one (PySem.W.kitx_exc hcl T.ga T.gg T.oex.exC T.ca T.cg T.ct T.ob) I.kIn J ek (fun z => nomatch z) fin
end
end Paw

set_option maxRecDepth 100000
set_option maxHeartbeats 2000000
namespace Paw
open PySem PySem.Spec PyProof.Rows L2

/-! ### how long a repr is -/
mutual
def siz : PyData → Nat
  | .none => 4
  | .bool _ => 5
  | .int i => i.natAbs.log2 + 2
  | .str x => 10 * x.length + 2
  | .list xs => 2 + sizs xs
  | .tuple xs => 4 + sizs xs
  | .dict kvs => 2 + sizk kvs
def sizs : List PyData → Nat
  | [] => 0
  | x :: xs => siz x + 2 + sizs xs
def sizk : List (PyData × PyData) → Nat
  | [] => 0
  | (k, v) :: r => siz k + siz v + 4 + sizk r
end
mutual
/-- every text in it has signs below 2^32 -/
def plainD : PyData → Bool
  | .none | .bool _ | .int _ => true
  | .str x => x.cps.toList.all fun c => decide (c < 16 ^ 8)
  | .list xs => plainDs xs
  | .tuple xs => plainDs xs
  | .dict kvs => plainDk kvs
def plainDs : List PyData → Bool
  | [] => true
  | x :: xs => plainD x && plainDs xs
def plainDk : List (PyData × PyData) → Bool
  | [] => true
  | (k, v) :: r => plainD k && plainD v && plainDk r
end
theorem text_from_le : ∀ (ts : List Str) (k : Nat) (acc : Str), (textFrom k acc ts).length ≤ acc.length + piled ts
  | [], k, acc => by
    rw [piled_nil]
    exact Nat.le_refl _
  | t :: ts, k, acc => by
    rw [piled_cons]
    have c2 : ((", " : Str)).length = 2 := by decide +kernel
    have e : textFrom k acc (t :: ts) = textFrom (k + 1) (acc ++ Str.ofString (if k > 0 then ", " else "") ++ t) ts := rfl
    have l : (Str.ofString (if k > 0 then ", " else "")).length ≤ 2 := by
      split <;> decide +kernel
    have ih := text_from_le ts (k + 1) (acc ++ Str.ofString (if k > 0 then ", " else "") ++ t)
    rw [strLen_append, strLen_append] at ih
    rw [e]
    omega
theorem join_le (ts : List Str) : (Str.join ", " ts).length ≤ piled ts := by
  by_cases h : ts = []
  · subst h
    decide +kernel
  · have := join_length_add ts h
    omega
theorem one_sign : (("[" : Str)).length = 1 ∧ (("]" : Str)).length = 1 ∧ (("(" : Str)).length = 1 ∧ (("{" : Str)).length = 1 ∧ (("}" : Str)).length = 1 ∧ ((": " : Str)).length = 2 := by decide +kernel
theorem list_text_le (ts : List Str) : (listText ts).length ≤ piled ts + 2 := by
  unfold listText
  have h := text_from_le ts 0 "["
  rw [strLen_append]
  have e := one_sign
  omega
theorem tuple_text_le (ts : List Str) : (tupleText ts).length ≤ piled ts + 3 := by
  have e3 : (((if ts.length == 1 then ",)" else ")" : String) : Str)).length ≤ 2 := by split <;> decide +kernel
  have h := join_le ts
  unfold tupleText
  rw [strLen_append, strLen_append]
  have e := one_sign
  omega
theorem dict_text_le (ts : List Str) : (dictText ts).length ≤ piled ts + 2 := by
  have h := join_le ts
  unfold dictText
  rw [strLen_append, strLen_append]
  have e := one_sign
  omega
mutual
theorem shown_le : ∀ d : PyData, plainD d = true → d.shown.length ≤ siz d
  | .none, _ => by
    show (("None" : Str)).length ≤ 4
    decide +kernel
  | .bool b, _ => by
    cases b <;> decide +kernel
  | .int i, _ => by
    have h := int_text_length_le (a := i) (k := i.natAbs.log2 + 1) (Nat.succ_pos _) (Nat.lt_succ_self _)
    show (Str.ofString (toString i)).length ≤ i.natAbs.log2 + 2
    rw [PySem.ofString_length]
    exact h
  | .str x, h => by
    show (reprText x).length ≤ 10 * x.length + 2
    refine StrLaws.reprText_len x fun c hc => ?_
    have z : (x.cps.toList.all fun c => decide (c < 16 ^ 8)) = true := h
    exact of_decide_eq_true (List.all_eq_true.mp z c hc)
  | .list xs, h => by
    have ih := shown_les xs h
    have e := list_text_le (PyData.shownAll xs)
    show (listText (PyData.shownAll xs)).length ≤ 2 + sizs xs
    omega
  | .tuple xs, h => by
    have ih := shown_les xs h
    have e := tuple_text_le (PyData.shownAll xs)
    show (tupleText (PyData.shownAll xs)).length ≤ 4 + sizs xs
    omega
  | .dict kvs, h => by
    have ih := shown_lek kvs h
    have e := dict_text_le (PyData.shownKv kvs)
    show (dictText (PyData.shownKv kvs)).length ≤ 2 + sizk kvs
    omega
theorem shown_les : ∀ ds : List PyData, plainDs ds = true → piled (PyData.shownAll ds) ≤ sizs ds
  | [], _ => by
    show piled [] ≤ 0
    rw [piled_nil]
    omega
  | d :: ds, h => by
    have z : (plainD d && plainDs ds) = true := h
    rw [Bool.and_eq_true] at z
    have h1 := shown_le d z.1
    have h2 := shown_les ds z.2
    show piled (d.shown :: PyData.shownAll ds) ≤ siz d + 2 + sizs ds
    rw [piled_cons]
    omega
theorem shown_lek : ∀ ds : List (PyData × PyData), plainDk ds = true → piled (PyData.shownKv ds) ≤ sizk ds
  | [], _ => by
    show piled [] ≤ 0
    rw [piled_nil]
    omega
  | (k, d) :: ds, h => by
    have z : (plainD k && plainD d && plainDk ds) = true := h
    rw [Bool.and_eq_true, Bool.and_eq_true] at z
    have h0 := shown_le k z.1.1
    have h1 := shown_le d z.1.2
    have h2 := shown_lek ds z.2
    show piled ((k.shown ++ ": " ++ d.shown) :: PyData.shownKv ds) ≤ siz k + siz d + 4 + sizk ds
    rw [piled_cons, strLen_append, strLen_append]
    have e := one_sign
    omega
end
/-- all that repr asks of data -/
structure Fit (d : PyData) : Prop where
  plain : plainD d = true
  show_ : d.showable = true
  small : siz d ≤ 1000000
  depth : d.depth ≤ 40
theorem Fit.size {d : PyData} (h : Fit d) : d.shown.length ≤ sizeLine := by
  have := shown_le d h.plain
  have := h.small
  rw [sizeLine_eq]
  omega
/-! ### built-ins by their names -/
theorem bt_int : bootBuiltins "int" = some (.type "int") := by decide +kernel
theorem bt_list : bootBuiltins "list" = some (.type "list") := by decide +kernel
theorem bt_range : bootBuiltins "range" = some (.type "range") := by decide +kernel
theorem bt_enumerate : bootBuiltins "enumerate" = some (.type "enumerate") := by decide +kernel
theorem bt_str : bootBuiltins "str" = some (.type "str") := by decide +kernel
theorem bt_dict : bootBuiltins "dict" = some (.type "dict") := by decide +kernel
theorem bt_tuple : bootBuiltins "tuple" = some (.type "tuple") := by decide +kernel
theorem bt_zip : bootBuiltins "zip" = some (.type "zip") := by decide +kernel
theorem bt_bool : bootBuiltins "bool" = some (.type "bool") := by decide +kernel
theorem bt_len : bootBuiltins "len" = some (.builtin "len") := by decide +kernel
theorem bt_abs : bootBuiltins "abs" = some (.builtin "abs") := by decide +kernel
theorem bt_repr : bootBuiltins "repr" = some (.builtin "repr") := by decide +kernel
theorem bt_isinstance : bootBuiltins "isinstance" = some (.builtin "isinstance") := by decide +kernel
theorem bt_sorted : bootBuiltins "sorted" = some (.builtin "sorted") := by decide +kernel
theorem bt_max : bootBuiltins "max" = some (.builtin "max") := by decide +kernel
theorem bt_min : bootBuiltins "min" = some (.builtin "min") := by decide +kernel
theorem bt_ord : bootBuiltins "ord" = some (.builtin "ord") := by decide +kernel
theorem bt_sum : bootBuiltins "sum" = some (.builtin "sum") := by decide +kernel
theorem bt_all : bootBuiltins "all" = some (.builtin "all") := by decide +kernel
theorem bt_any : bootBuiltins "any" = some (.builtin "any") := by decide +kernel
end Paw

set_option maxRecDepth 100000
set_option maxHeartbeats 4000000
namespace Paw
open PySem PySem.Spec PyProof.Rows L2

/-! ### a caught error that is kept -/
/-- at a: an error that has been raised and caught, of the class cls, its own dict at d -/
def exr (a : Addr) (cls : Value) (d : Option Addr) : HO := .ext fun h => ∃ (oe : Obj) (vs : Array Value), h.get? a = some oe ∧ Zc cls d oe ∧ oe.data = .fields vs
theorem exr_ok {P : Program} {w : World} {H : Hp} {h : Heap} {a : Addr} {cls : Value} {d : Option Addr} {oe : Obj} {vs : Array Value} (e : h.get? a = some oe) (z : Zc cls d oe) (q : oe.data = .fields vs) : ObjOk P w H h a (exr a cls d) :=
  ⟨⟨oe, vs, e, z, q⟩, ⟨oe, e⟩, fun _ _ ⟨o, v, k, r⟩ m => ⟨o, v, m o k, r⟩⟩
theorem exr_at {P : Program} {w : World} {H : Hp} {h : Heap} {a : Addr} {cls : Value} {d : Option Addr} (ok : HOk P w H h) (e : H a = some (exr a cls d)) : ∃ (oe : Obj) (vs : Array Value), h.get? a = some oe ∧ Zc cls d oe ∧ oe.data = .fields vs := by
  have x : ObjOk P w H h a (.ext fun h => ∃ (oe : Obj) (vs : Array Value), h.get? a = some oe ∧ Zc cls d oe ∧ oe.data = .fields vs) := ok a _ e
  exact x.1
section
variable {X : Cx} {pins : List (Addr × Obj)} {σ : L2.St} {H : Hp} {s : Shared}
/-- an object that is not tracked yet, and that was not there at the entry, is tracked from here on -/
theorem inv_track {a : Addr} {O : HO} (I : Inv X pins σ H s) (n0 : X.s_0.heap.get? a = none) (nH : H a = none) (nL : a ≠ X.env.locals) (nC : ∀ x c, X.env.cells.lookup x = some c → c ≠ a) (nP : ∀ p ∈ X.pn ++ pins, p.1 ≠ a)
    (ok : ObjOk X.prog X.w (upd H a O) s.heap a O) : Inv X pins σ (upd H a O) s := by
  have off : ∀ {b : Addr} {o : HO}, H b = some o → upd H a O b = some o := fun {b o} e => (upd_ne (ne_of_none e nH)).trans e
  have old : ∀ {b : Addr} {o : Obj}, X.s_0.heap.get? b = some o → b ≠ a := fun {b o} e z => by
    rw [z, n0] at e
    cases e
  constructor
  · exact I.ok
  · exact I.os
  · exact I.bare
  · constructor
    · exact I.base.keep
    · exact I.base.slot
    · intro b o e n x
      rw [upd_ne (old e)]
      exact I.base.free b o e n x
    · exact I.base.there
    · exact fun b xs e => off (I.base.tups b xs e)
    · exact fun b o u e => off (I.base.frzs b o u e)
    · intro b ps e
      obtain ⟨m, q⟩ := I.base.tbls b ps e
      exact ⟨m, off q⟩
  · exact I.loc
  · exact I.cell
  · rw [upd_ne nL.symm]
    exact I.free
  · intro x c e
    rw [upd_ne (nC x c e)]
    exact I.freeC x c e
  · intro p hp
    obtain ⟨q1, q2, q3⟩ := I.pin p hp
    refine ⟨q1, ?_, q3⟩
    rw [upd_ne (nP p hp)]
    exact q2
  · intro b o e
    by_cases hb : b = a
    · subst hb
      rw [upd_same] at e
      cases e
      exact ok
    · rw [upd_ne hb] at e
      exact (I.hok b o e).stay (fun c u _ q => q) (fun c q => off q) fun c xs q => off q
  · exact I.len
/-- into a suite, nothing pinned -/
theorem inv_into (I : Inv X pins σ H s) (a : Addr) : Inv (X.suite a (X.pn ++ pins)) [] σ H s := by
  refine ⟨I.ok.suite _ _, I.os, I.bare, I.base, I.loc, I.cell, I.free, I.freeC, fun p hp => I.pin p ?_, I.hok, I.len⟩
  have e : p ∈ (X.pn ++ pins) ++ [] := hp
  rw [List.append_nil] at e
  exact e
theorem inv_out {a : Addr} (I : Inv (X.suite a (X.pn ++ pins)) [] σ H s) (ok : X.Ok) : Inv X pins σ H s :=
  ⟨ok, I.os, I.bare, I.base, I.loc, I.cell, I.free, I.freeC, fun p hp => I.pin p (List.mem_append_left _ hp), I.hok, I.len⟩
end
/-- what «except x as n» wishes: slot i is n's; the error is tracked at a -/
def wKeep (K : PySem.W.Frag) (c : Value) (i : Nat) (ts : Addr → TS) (Wout : WX) (D : Ends) : WX := fun cls d σ H =>
  ∃ b, PySem.W.exmOne K cls c = some b ∧
    (b = true → ∀ a, H a = none → ts a { nx := fun σ' H' => D.nx (σ'.set i none) H', rt := D.rt, bk := fun σ' H' => D.bk (σ'.set i none) H', ct := fun σ' H' => D.ct (σ'.set i none) H' } (σ.set i (some (.ref a))) (upd H a (exr a cls d))) ∧
    (b = false → Wout cls d σ H)
section
variable {X : Cx} {x n : Str} {c : Value} {i : Nat} {body suite : List Stmt} {b0 : Stmt} {np pos pos' : Pos} {tb : WX → TS} {ts : Addr → TS} {Wout : WX}
theorem ps_try_keep (hs : X.stack = X.env :: X.outer) (hf : X.env.frame = some X.env.locals) (hex : X.ex = []) (hN : X.N.Nodup) (hi : X.N[i]? = some n) (hln : X.env.kindOf n = some .local) (hc : Names X x c) (tk : Takes X Wout)
    (inner : ∀ (W : WX) (pn : List (Addr × Obj)) (xe : Value → Shared → Prop), Takes (X.tr pn xe) W → PassesOwn (model X.prog X.w) X.A X.env xe → PSs (X.tr pn xe) body (tb W))
    (hsu : ∀ (a : Addr) (pn : List (Addr × Obj)), PSs (X.suite a pn) (b0 :: suite) (ts a)) :
    PS X (.Try body [.ExceptHandler (some (.Name x np)) (some n) (b0 :: suite) pos'] [] [] pos) (fun D σ H => tb (wKeep X.K c i ts Wout D) D σ H) := by
  constructor
  intro pins s σ H D I h
  have ok := I.ok
  have frames : X.A.frames = some (X.env :: X.outer) := by
    rw [ok.frames, hs]
  have away : ∀ b, b ∉ X.ex := by
    intro b z
    rw [hex] at z
    cases z
  apply wpAny_Try_except
  let air : Value → Shared → Prop := fun e s₁ => wpAny (model X.prog X.w) X.A (noteFrame e X.env) (fun _ s₂ => wpAny (model X.prog X.w) X.A (setFlight e none)
    (fun _ s₃ => wpAny (model X.prog X.w) X.A (handleBy e X.env [.ExceptHandler (some (.Name x np)) (some n) (b0 :: suite) pos']) (SP X pins D) X.xe s₃) X.xe s₂) X.xe s₁
  have caught : Takes (X.tr (X.pn ++ pins) air) (wKeep X.K c i ts Wout D) := by
    rintro u s' ⟨a, B, sI, pins', σ', H', cls, d, rfl, J0, nb, up, sky, na, os, ag, b, hb1, yes, no⟩
    have J : Inv X pins σ' H' sI := J0.ofTry ok
    have sky2 : Sky B (X.env :: X.outer) a (Zc cls d) X.env.locals s'.heap := hs ▸ sky
    show wpAny (model X.prog X.w) X.A (noteFrame (.ref a) X.env) _ _ _
    apply Sky.land Zc.steady frames hf sky2
    intro h3 fl3 up3
    have J3 : Inv X pins σ' H' { s' with heap := h3 } := J.landed nb fl3.1 (up.trans up3) os ag
    obtain ⟨oe3, vs3, he3, hz3, hd3⟩ := fl3.there
    have offFrames : a ∉ frs (X.env :: X.outer) := by
      intro hm
      obtain ⟨_, o', e', hnf⟩ := fl3.2.2.1.mem hm
      rw [he3] at e'
      cases e'
      exact hnf _ hd3
    have nL : a ≠ X.env.locals := fun z => offFrames (List.mem_filterMap.mpr ⟨X.env, List.mem_cons_self, by rw [hf, z]⟩)
    have nI : sI.heap.get? a = none := by
      cases q : sI.heap.get? a with
      | none => rfl
      | some o =>
        have z := nb a o q (by rw [hs]; exact offFrames)
        rw [fl3.2.1] at z
        cases z
    have n0 : X.s_0.heap.get? a = none := by
      cases q : X.s_0.heap.get? a with
      | none => rfl
      | some o =>
        obtain ⟨o', z⟩ := J.base.there a o q (away a)
        rw [nI] at z
        cases z
    have nC : ∀ y k, X.env.cells.lookup y = some k → k ≠ a := by
      intro y k e z
      obtain ⟨v, o, ho, _⟩ := J.cell y k e
      rw [z, nI] at ho
      cases ho
    have nP : ∀ p ∈ X.pn ++ pins, p.1 ≠ a := by
      intro p hp z
      have q := (J.pin p hp).1
      rw [z, nI] at q
      cases q
    have J3t := inv_into (inv_track (O := exr a cls d) J3 n0 na nL nC nP (exr_ok he3 hz3 hd3)) a
    apply wpAny_handleBy_cons _ (by intro q; cases q)
    apply codeAny_handlers_test
    have typ : PySem.W.Looks (model X.prog X.w) h3 (typeOf (.ref a)) cls := by
      intro A Q E s k q
      exact wpAny_typeOf_ref (k _ _ he3) (by rw [hz3.1]; exact q)
    have fits := PySem.W.exm_one (M := model X.prog X.w) J3.kIn typ hb1
    have clause : ∀ {Q : Value → Shared → Prop} {E : Value → Shared → Prop}, Q c { s' with heap := h3 } → wpAny (model X.prog X.w) (X.A.mark (some (.ref a))) (eval (.Name x np) X.env) Q E { s' with heap := h3 } := by
      intro Q E q
      obtain ⟨hg, hdbg, hm | ⟨hm, hv, hnn⟩⟩ := hc
      · exact ld_glob (X := X.suite a (X.pn ++ pins)) J3t hg hm q hdbg
      · exact ld_blt (X := X.suite a (X.pn ++ pins)) J3t hg hm hv q hnn hdbg
    refine clause (fits.here ?_)
    cases b with
    | false =>
      show wpAny _ X.A (handleBy (.ref a) X.env []) _ _ _
      apply wpAny_handleBy_nil
      obtain ⟨_, _, _, oe, vs, T, oT, ts2, he, hz, hd, h1, _⟩ := id fl3
      unfold PySem.passOn
      apply wpAny_bind
      apply wpAny_field he hd h1
      rw [if_neg (show ¬ ((Value.ref T == Value.none) = true) from by simp)]
      have last : wpAny (model X.prog X.w) X.A (setFlight (.ref a) X.env.frame) (fun _ s4 => wpAny (model X.prog X.w) X.A (throw (.ref a) : Sem Flow) (SP X pins D) X.xe s4) X.xe { s' with heap := h3 } := by
        rw [hf]
        apply HandSPX.setFlight_upZ fl3
        intro h4 hh4 up4
        apply wpAny_throw
        apply tk
        refine ⟨a, B, sI, pins, σ', H', cls, d, rfl, J, nb, (up.trans up3).trans up4, .inr (.inr ?_), na, os, ag, no rfl⟩
        rw [hs]
        exact hh4
      first
        | exact wpAny_bind (wpAny_pure (wpAny_bind last))
        | exact wpAny_bind last
    | true =>
      apply codeAny_handlers_suite_as
      apply HandSPX.lands_againZ fl3
      intro h4 fl4 up4
      have J4 : Inv X pins σ' H' { s' with heap := h4 } := J.landed nb fl4.1 ((up.trans up3).trans up4) os ag
      obtain ⟨oe4, vs4, he4, hz4, hd4⟩ := fl4.there
      have J4t := inv_into (inv_track (O := exr a cls d) J4 n0 na nL nC nP (exr_ok he4 hz4 hd4)) a
      apply store_ok (X := X.suite a (X.pn ++ pins)) (v := .ref a) J4t hN hi (.inl hln) rfl _ (.inr hln)
      intro s5 S5
      have done : ∀ {σ6 : L2.St} {H6 : Hp} {s6 : Shared} {Q : Shared → Prop}, Inv (X.suite a (X.pn ++ pins)) [] σ6 H6 s6 → (∀ s7, Inv X pins (σ6.set i none) H6 s7 → Q s7) →
          wpAny (model X.prog X.w) X.A (do bindName X.env n .none; unbindBehindTheSuite X.env n pos') (fun _ s7 => Q s7) X.xe s6 := fun {σ6 H6 s6 Q} S6 hq => gone_ok (inv_out S6 ok) hN hi hln hq
      apply wpAny_mono ((hsu a (X.pn ++ pins)).run [] s5 _ _ _ S5 (yes rfl a na))
      · intro f s6 hsp
        match f, hsp with
        | .next, ⟨σ6, H6, S6, q6⟩ => exact done S6 fun s7 J7 => ⟨_, _, J7, q6⟩
        | .brk, ⟨σ6, H6, S6, q6⟩ => exact done S6 fun s7 J7 => ⟨_, _, J7, q6⟩
        | .cont, ⟨σ6, H6, S6, q6⟩ => exact done S6 fun s7 J7 => ⟨_, _, J7, q6⟩
        | .ret u, ⟨v6, σ6, H6, S6, r6, q6⟩ => exact done S6 fun s7 J7 => ⟨_, _, _, J7, r6, q6⟩
      · exact fun _ _ z => False.elim z
  apply wpAny_mono ((inner (wKeep X.K c i ts Wout D) (X.pn ++ pins) air caught PassesOwn.looking).run [] s σ H D (I.toTry _) h)
  · intro f s1 hsp
    match f, hsp with
    | .next, ⟨σ', H', J', q⟩ => exact wpAny_execs_nil ⟨σ', H', J'.ofTry ok, q⟩
    | .brk, ⟨σ', H', J', q⟩ => exact ⟨σ', H', J'.ofTry ok, q⟩
    | .cont, ⟨σ', H', J', q⟩ => exact ⟨σ', H', J'.ofTry ok, q⟩
    | .ret u, ⟨v, σ', H', J', r, q⟩ => exact ⟨v, σ', H', J'.ofTry ok, r, q⟩
  · exact fun e s1 he => he
end
end Paw

set_option maxRecDepth 100000
set_option maxHeartbeats 4000000
namespace Paw
open PySem PySem.Spec PyProof.Rows L2

/-! ### // by any whole number but 0 -/
def CDivZ (_ j : Int) : Prop := j ≠ 0 ∧ j.natAbs.log2 < 9000
theorem op_fdivZ {X : Cx} : OpR X (binaryOp .FloorDiv) (rI CDivZ fun i j => .int (i.fdiv j)) := opI fun i j _ _ _ _ _ hc q => floordiv_int hc.1 q (.inl (PyProof.noPylong_of_log2 hc.2))
theorem div_any {i j : Int} {b : Nat} (h : j ≠ 0) (hb : j.natAbs < 2 ^ b) (h0 : 0 < b) (h9 : b ≤ 9000) : CDivZ i j := ⟨h, Nat.lt_of_lt_of_le (PySem.Flt.log2_lt_of h0 hb) h9⟩
/-! ### the type of data -/
def kindOf : PyData → String
  | .none => "NoneType"
  | .bool _ => "bool"
  | .int _ => "int"
  | .str _ => "str"
  | .list _ => "list"
  | .tuple _ => "tuple"
  | .dict _ => "dict"
theorem RD.ty {K : PySem.W.Frag} {H : Hp} {x : V} {d : PyData} (h : RD K H x d) : TyX K H x (.type (kindOf d)) := by
  cases h with
  | non => exact .base .non
  | bl b => exact .base (.bl b)
  | int i => exact .base (.int i)
  | str x => exact .base (.str x)
  | lst h hs =>
    rcases h with (h | ⟨o, h⟩) | ⟨o, its, n, hk, hc, _⟩
    · exact .base (.lst h)
    · exact .base (.frz h)
    · exact .kList hk hc
  | tup h hs =>
    rcases h with (h | ⟨o, h⟩) | ⟨o, its, n, hk, hc, _⟩
    · exact .base (.tup h)
    · exact .fTuple h
    · exact .kTuple hk hc
  | dic h hs => exact .base (.dK h)
def isI : PyData → Bool
  | .int _ => true
  | _ => false
def isB : PyData → Bool
  | .bool _ => true
  | _ => false
def isT : PyData → Bool
  | .tuple _ => true
  | _ => false
def isL : PyData → Bool
  | .list _ => true
  | _ => false
theorem kit_int {K : PySem.W.Frag} (d : PyData) : PySem.W.kitOne K (.type (kindOf d)) (.type "int") = some (isI d || isB d) := by
  cases d
  · exact kit_ty (a := "NoneType") (r := false) (by decide +kernel)
  · exact kit_ty (a := "bool") (r := true) (by decide +kernel)
  · exact kit_ty (a := "int") (r := true) (by decide +kernel)
  · exact kit_ty (a := "str") (r := false) (by decide +kernel)
  · exact kit_ty (a := "list") (r := false) (by decide +kernel)
  · exact kit_ty (a := "tuple") (r := false) (by decide +kernel)
  · exact kit_ty (a := "dict") (r := false) (by decide +kernel)
theorem kit_bool {K : PySem.W.Frag} (d : PyData) : PySem.W.kitOne K (.type (kindOf d)) (.type "bool") = some (isB d) := by
  cases d
  · exact kit_ty (a := "NoneType") (r := false) (by decide +kernel)
  · exact kit_ty (a := "bool") (r := true) (by decide +kernel)
  · exact kit_ty (a := "int") (r := false) (by decide +kernel)
  · exact kit_ty (a := "str") (r := false) (by decide +kernel)
  · exact kit_ty (a := "list") (r := false) (by decide +kernel)
  · exact kit_ty (a := "tuple") (r := false) (by decide +kernel)
  · exact kit_ty (a := "dict") (r := false) (by decide +kernel)
theorem kit_tuple {K : PySem.W.Frag} (d : PyData) : PySem.W.kitOne K (.type (kindOf d)) (.type "tuple") = some (isT d) := by
  cases d
  · exact kit_ty (a := "NoneType") (r := false) (by decide +kernel)
  · exact kit_ty (a := "bool") (r := false) (by decide +kernel)
  · exact kit_ty (a := "int") (r := false) (by decide +kernel)
  · exact kit_ty (a := "str") (r := false) (by decide +kernel)
  · exact kit_ty (a := "list") (r := false) (by decide +kernel)
  · exact kit_ty (a := "tuple") (r := true) (by decide +kernel)
  · exact kit_ty (a := "dict") (r := false) (by decide +kernel)
theorem kit_list {K : PySem.W.Frag} (d : PyData) : PySem.W.kitOne K (.type (kindOf d)) (.type "list") = some (isL d) := by
  cases d
  · exact kit_ty (a := "NoneType") (r := false) (by decide +kernel)
  · exact kit_ty (a := "bool") (r := false) (by decide +kernel)
  · exact kit_ty (a := "int") (r := false) (by decide +kernel)
  · exact kit_ty (a := "str") (r := false) (by decide +kernel)
  · exact kit_ty (a := "list") (r := true) (by decide +kernel)
  · exact kit_ty (a := "tuple") (r := false) (by decide +kernel)
  · exact kit_ty (a := "dict") (r := false) (by decide +kernel)
/-! ### a caught error's field -/
def tExcFld (K : PySem.W.Frag) (nm : Str) (te : TE) : TE := fun σ H Q => te σ H fun x H1 => ∃ (a C d : Addr) (fs : List (Str × V)) (v : V), x = .ref a ∧ ExV K C ∧ PySem.W.findIn K (.ref C) nm = some none ∧ H1 a = some (exr a (.ref C) (some d)) ∧ H1 d = some (.xd fs) ∧ fs.lookup nm = some v ∧ Q v H1
section
variable {X : Cx} {e : Expr} {te : TE} {pos : Pos}
theorem pe_excFld {nm : Str} (he : PE X e te) (hb : attributeBase e nm X.env (eval e X.env) = eval e X.env := by rfl) : PE X (.Attribute e nm pos) (tExcFld X.K nm te) := by
  constructor
  intro pins s σ H Q I h
  apply attr_of hb
  apply thn (he.run pins s σ H _ I h)
  rintro u s1 ⟨x, H1, I1, rx, a, C, d, fs, v, rfl, T, no, ea, ed, l, q⟩
  cases (show u = Value.ref a from rx)
  obtain ⟨oe, vs, ho, hz, hd⟩ := exr_at I1.hok ea
  obtain ⟨mA, hn, rel⟩ := (show ObjOk X.prog X.w H1 s1.heap d (.xd fs) from I1.hok d _ ed)
  obtain ⟨od, hod, hl⟩ := lookIn_ns hn
  obtain ⟨u, hu, ru⟩ := RelO.some_of (v := v) (o := mA nm) (by rw [← l]; exact rel nm)
  have J : PySem.W.InstAt s1.heap a oe C (some od) := by
    refine ⟨ho, hz.1, ?_, ?_⟩
    · unfold PySem.W.notCls
      rw [hd]
    · rw [hz.2]
      exact hod
  exact HandSPX.exc_get I1.kIn J T.ga T.gg T.oex.exC (PySem.W.findObj_own T.hd no rfl (by rw [hl, hu])) (handed_of ru) ⟨v, H1, I1.tok _, ru, q⟩
end
/-! ### an own error of one value, raised -/
def spI1 (K : PySem.W.Frag) (fl : Str) : Sp := fun vs H Q _ => ∃ (a C : Addr) (v : V), vs = [.ref a, v] ∧ OexC K C ∧ PySem.W.findIn K (.ref C) fl = some none ∧ H a = some (exo a C none) ∧ ∀ dx, H dx = none → dx ≠ a → Q .non (upd (upd H dx (exd dx [(fl, v)])) a (exo a C (some dx)))
theorem ok_init1 {P : Program} {w : World} {K : PySem.W.Frag} {mg : Str → Option Value} {base : Heap} {fl q : Str} {st : Stmt} {f : Addr} {fd : FuncData} (F : Fun K "__init__" q st f fd) (S : FnScope ["self", fl] ["self", fl] (defScope st)) (l0 : (defScope st).names.lookup ("self" : Str) = some NameKind.local) (l1 : (defScope st).names.lookup fl = some NameKind.local)
    (hb : ∃ p1 p2 p3 p4, defBody st = [.Assign [.Attribute (.Name "self" p1) fl p2] (.Name fl p3) p4]) (d1 : (fl == ("__debug__" : Str)) = false) (d2 : (fl == ("__classdict__" : Str)) = false) : FnOk P w K mg base CX0 1 f fd ["self", fl] (spI1 K fl) := by
  refine F.ok S (fun vs H Q E h => ?_) (fun cdv A outer s H vs Q E hr h => ?_)
  · obtain ⟨a, C, v, rfl, _⟩ := h
    rfl
  · obtain ⟨a, C, v, rfl, T, no, ha, k⟩ := h
    obtain ⟨p1, p2, p3, p4, hb⟩ := hb
    rw [hb]
    refine ⟨_, pss_one (ps_ost (pv 0 rfl (Or.inl l0)) (pv 1 rfl (Or.inl l1) d1 d2)), ?_⟩
    exact ⟨v, rfl, .ref a, rfl, a, C, rfl, T, no, .inl ⟨ha, k⟩⟩
/-- what the raising of such an error must serve -/
def Thrown (fl : Str) (C : Addr) (v : V) (H : Hp) (E : XK) : Prop := ∀ (d : Addr) (H' : Hp), H d = none → Same H H' → H' d = some (.xd [(fl, v)]) → E (.ref C) (some d) H'
theorem Thrown.mono {fl : Str} {C : Addr} {v : V} {H H1 : Hp} {E : XK} (h : Thrown fl C v H E) (s : Same H H1) : Thrown fl C v H1 E := fun d H' n s' e => h d H' (s.free n) (s.trans s') e
theorem thrown_mk {K : PySem.W.Frag} {C : Addr} {fl : Str} {v : V} {H1 : Hp} {E : XK} (T : OexC K C) (no : PySem.W.findIn K (.ref C) fl = some none) (h : Thrown fl C v H1 E) (a : Addr) (ha : H1 a = none) :
    spI1 K fl (.ref a :: ([v] ++ [])) (upd H1 a (exo a C none)) (fun u H2 => u = .non ∧ ∃ (d : Addr) (fs : List (Str × V)), H2 a = some (exo a C (some d)) ∧ H2 d = some (exd d fs) ∧ H1 d = none ∧ E (.ref C) (some d) (upd (del H2 a) d (.xd fs))) (fun _ _ _ => False) := by
  refine ⟨a, C, v, rfl, T, no, upd_same, fun d hd ne => ⟨rfl, d, [(fl, v)], upd_same, (upd_ne ne).trans upd_same, (upd_ne ne).symm.trans hd, ?_⟩⟩
  have hd1 : H1 d = none := (upd_ne ne).symm.trans hd
  refine h d _ hd1 (fun b o e => ?_) upd_same
  have n1 := ne_of_none e ha
  have n2 := ne_of_none e hd1
  rw [upd_ne n2, del_ne n1, upd_ne n1, upd_ne n2, upd_ne n1]
  exact e
/-- the class, where it stands -/
structure Kv (P : Program) (w : World) (K : PySem.W.Frag) (mg : Str → Option Value) (base : Heap) (x fl : Str) (C : Addr) : Prop where
  g : mg x = some (.ref C)
  v : ExV K C
  no : PySem.W.findIn K (.ref C) fl = some none
  ini : ∃ (f : Addr) (fd : FuncData), PySem.W.findIn K (.ref C) "__init__" = some (some (.ref f)) ∧ PySem.W.typeIn K (.ref f) = some (.type "function") ∧ FnOk P w K mg base CX0 1 f fd ["self", fl] (spI1 K fl) ∧ Binds K fd ["self", fl] []
def tThrow (K : PySem.W.Frag) (fl : Str) (C : Addr) (W : WX) (te : TE) : TS := fun _ σ H => tMkO C (spI1 K fl) [] (tCons te tNil) σ H fun cls d H' => W cls d σ H'
section
variable {X : Cx} {W : WX} {fl x : Str} {C : Addr} {p pos pos' : Pos} {e : Expr} {te : TE}
/-- raise x(e) -/
theorem ps_throw (T : Kv X.prog X.w X.K X.mg X.base x fl C) (hr : Room 2 X.A) (hc : X.calm = true) (tk : Takes X W) (hg : Gl X x) (he : PE X e te) (hdb : (x == ("__debug__" : Str)) = false := by decide)
    (hs : starEach [e] X.env = (false, eval e X.env) :: starEach [] X.env := by rfl) : PS X (.Raise (some (.Call (.Name x p) [e] [] pos)) none pos') (tThrow X.K fl C W te) := by
  obtain ⟨f, fd, i1, i2, F, b⟩ := T.ini
  have h := ps_raise (pos := pos') hc tk (pmk_oex (p := p) (pos := pos) T.v.oex i1 i2 F hr b .nil pass0 hg T.g (pa_cons he pa_nil hs) hdb hs)
  constructor
  intro pins s σ H D I q
  exact h.run pins s σ H D I q
end
/-! ### calls by a promise of its own -/
section
variable {X : Cx} {CX : CXT} {k i : Nat} {R : Addr → Sp → Prop} {E : L2.St → XK} {x : Str} {p pos : Pos} {e fe : Expr} {es : List Expr} {t : TA} {tf : TE}
theorem run_fnRS {pins : List (Addr × Obj)} {σ : L2.St} {H : Hp} {s : Shared} {f : Addr} {sp : Sp} {Q : VK} {us : List Value} {vs : List V} (F : FnR X.prog X.w X.K X.mg X.base CX k f sp) (hr : Room k X.A) (hx : PassesAt CX X σ (E σ)) (I : Inv X pins σ H s) (r : Vals vs us) (h : sp vs H Q (E σ)) :
    wpAny (model X.prog X.w) X.A (call (.ref f) us) (EP X pins σ Q) X.xe s := by
  apply wpAny_call
  apply codeAny_mono (F X.A X.stack s H us vs Q (E σ) hr I.env0 r h)
  intro r s' q
  match r, q with
  | .error e, q => exact hx pins H s e s' I q
  | .ok (.ret u), q => exact I.after q
/-- what a callee that may be one of several must be -/
def Callees (X : Cx) (CX : CXT) (k : Nat) (R : Addr → Sp → Prop) : Prop := ∀ f sp, R f sp → FnR X.prog X.w X.K X.mg X.base CX k f sp ∧ PySem.W.keepIn X.K (.ref f) = true
/-- x(e, ..), x a local name -/
def tCallV (i : Nat) (R : Addr → Sp → Prop) (E : L2.St → XK) (t : TA) : TE := fun σ H Q => ∃ f sp, σ[i]? = some (some (.ref f)) ∧ R f sp ∧ t σ H fun vs H1 => sp vs H1 Q (E σ)
theorem pe_callV (A : Callees X CX k R) (hr : Room k X.A) (hx : ∀ σ, PassesAt CX X σ (E σ)) (hN : X.N[i]? = some x) (hv : Vis X.env.scope x) (ha : PA X (e :: es) t)
    (hdb : (x == ("__debug__" : Str)) = false := by decide) (hcd : (x == ("__classdict__" : Str)) = false := by decide)
    (he : starEach (e :: es) X.env = (false, eval e X.env) :: starEach es X.env := by rfl) (hpl : (backTo pos (starEach es X.env)).any (·.1) = false := by rfl) : PE X (.Call (.Name x p) (e :: es) [] pos) (tCallV i R E t) := by
  constructor
  rintro pins s σ H Q I ⟨f, sp, hs, hR, ht⟩
  obtain ⟨F, hk⟩ := A f sp hR
  apply wpAny_Call_Name_kw
  apply thn ((pe_var (pos := p) hN hv hdb hcd).run pins s σ H (fun v H1 => v = .ref f ∧ H1 = H) I ⟨.ref f, hs, rfl, rfl⟩)
  rintro u s1 ⟨v, H1, I1, r1, rfl, rfl⟩
  cases r1
  apply PySem.W.callWith_K (h₀ := X.base) I.ok.mod.kin hk _ he hpl
  apply thn (ha.run pos pins s1 σ _ _ I1 ht)
  rintro us s2 ⟨vs, H2, I2, r, q⟩
  exact ⟨I2.kIn, run_fnRS F hr (hx σ) I2 r q⟩
theorem pe_callV0 (A : Callees X CX k R) (hr : Room k X.A) (hx : ∀ σ, PassesAt CX X σ (E σ)) (hN : X.N[i]? = some x) (hv : Vis X.env.scope x)
    (hdb : (x == ("__debug__" : Str)) = false := by decide) (hcd : (x == ("__classdict__" : Str)) = false := by decide) : PE X (.Call (.Name x p) [] [] pos) (tCallV i R E tNil) := by
  constructor
  rintro pins s σ H Q I ⟨f, sp, hs, hR, ht⟩
  obtain ⟨F, hk⟩ := A f sp hR
  apply wpAny_Call_Name_kw
  apply thn ((pe_var (pos := p) hN hv hdb hcd).run pins s σ H (fun v H1 => v = .ref f ∧ H1 = H) I ⟨.ref f, hs, rfl, rfl⟩)
  rintro u s1 ⟨v, H1, I1, r1, rfl, rfl⟩
  cases r1
  exact PySem.W.callWith_K0 I1.kIn hk (run_fnRS (us := []) F hr (hx σ) I1 .nil ht)
/-- g(e, ..), g any expression that gives a def -/
def tCallF (R : Addr → Sp → Prop) (E : L2.St → XK) (tf : TE) (t : TA) : TE := fun σ H Q => tf σ H fun y H1 => ∃ f sp, y = .ref f ∧ R f sp ∧ t σ H1 fun vs H2 => sp vs H2 Q (E σ)
theorem pe_callF (A : Callees X CX k R) (hr : Room k X.A) (hx : ∀ σ, PassesAt CX X σ (E σ)) (hf : PE X fe tf) (ha : PA X (e :: es) t)
    (ht : eval (.Call fe (e :: es) [] pos) X.env = (do callWith pos (← eval fe X.env) [] (backTo pos (starEach (e :: es) X.env)) (backToKw pos (keywordEach [] X.env))) := by rfl)
    (he : starEach (e :: es) X.env = (false, eval e X.env) :: starEach es X.env := by rfl) (hpl : (backTo pos (starEach es X.env)).any (·.1) = false := by rfl) : PE X (.Call fe (e :: es) [] pos) (tCallF R E tf t) := by
  constructor
  intro pins s σ H Q I h
  refine Call_ (thn (hf.run pins s σ H _ I h) ?_) ht
  rintro u s1 ⟨y, H1, I1, ry, f, sp, rfl, hR, q⟩
  obtain ⟨F, hk⟩ := A f sp hR
  obtain rfl : u = Value.ref f := ry
  apply PySem.W.callWith_K (h₀ := X.base) I.ok.mod.kin hk _ he hpl
  apply thn (ha.run pos pins s1 σ H1 _ I1 q)
  rintro us s2 ⟨vs, H2, I2, r, q2⟩
  exact ⟨I2.kIn, run_fnRS F hr (hx σ) I2 r q2⟩
/-- x(e, ..), x a def of the module, by such a promise -/
def tCallG (sp : Sp) (E : L2.St → XK) (t : TA) : TE := fun σ H Q => t σ H fun vs H1 => sp vs H1 Q (E σ)
theorem pe_callRS {f : Addr} {sp : Sp} (F : FnR X.prog X.w X.K X.mg X.base CX k f sp) (hr : Room k X.A) (hg : Gl X x) (hm : X.mg x = some (.ref f)) (hk : PySem.W.keepIn X.K (.ref f) = true) (hx : ∀ σ, PassesAt CX X σ (E σ)) (ha : PA X (e :: es) t)
    (hdb : (x == ("__debug__" : Str)) = false := by decide) (he : starEach (e :: es) X.env = (false, eval e X.env) :: starEach es X.env := by rfl) (hpl : (backTo pos (starEach es X.env)).any (·.1) = false := by rfl) :
    PE X (.Call (.Name x p) (e :: es) [] pos) (tCallG sp E t) := by
  constructor
  intro pins s σ H Q I h
  apply wpAny_Call_Name_kw
  apply ld_glob I hg hm _ hdb
  apply PySem.W.callWith_K (h₀ := X.base) I.ok.mod.kin hk _ he hpl
  apply thn (ha.run pos pins s σ H _ I h)
  rintro us s1 ⟨vs, H1, I1, r, q⟩
  exact ⟨I1.kIn, run_fnRS F hr (hx σ) I1 r q⟩
/-- a def's usual promise as such a one -/
theorem fnR_of {P : Program} {w : World} {K : PySem.W.Frag} {mg : Str → Option Value} {base : Heap} {f : Addr} {fd : FuncData} {ps : List Str} {sp : Sp} {dvs : List V} {ds : List Value} (F : FnOk P w K mg base CX k f fd ps sp) (hb : Binds K fd ps ds) (hd : Vals dvs ds) :
    FnR P w K mg base CX k f (fun vs H Q E => sp (vs ++ dvs) H Q E) := by
  intro A outer s H us vs Q E hr e0 r h
  have rel : Vals (vs ++ dvs) (us ++ ds) := r.append hd
  have many : (us ++ ds).length = ps.length := rel.length.symm.trans (F.len _ _ _ _ h)
  have KX : K.In s.heap := e0.mod.kin.keeps fun b o e => (e0.bs b o e).1
  exact F.run A outer s H ⟨us, []⟩ (us ++ ds) (vs ++ dvs) Q E hr e0 (hb s us KX many) rel h
/-- nothing is let out at all -/
theorem calmAt (σ : L2.St) : PassesAt (L2.CX X.prog X.w) X σ (fun _ _ _ => False) := fun pins H s e s' I c => by
  obtain ⟨_, _, _, _, _, _, _, _, _, _, _, _, z⟩ := c
  exact z.elim
end
end Paw

set_option maxRecDepth 100000
set_option maxHeartbeats 4000000
namespace PySem
namespace PawX
open Sem (wp)
open AutoSeq1 (wpAny_loadPart')
/-- enumerate(t), t a tuple: its new iterator, then the object that counts -/
theorem enum_new_tup (t : Addr) (vs : Array Value) (m : Nat) (dc : Option Addr) (ss : Array (Option Value)) :
    Meets (Builtin.«enumerate.__new__» ⟨[.type "enumerate", .ref t], []⟩) (fun _ R s => s.heap.get? t = some { cls := .type "tuple", dict := dc, data := .seq vs m, slots := ss } ∧
      R (.ok (.ret (.ref (s.heap.push { cls := .type "tuple_iterator", data := .fields #[.ref t, .int 0 0] }).objs.size)))
        { s with heap := (s.heap.push { cls := .type "tuple_iterator", data := .fields #[.ref t, .int 0 0] }).push { cls := .type "enumerate", data := .fields #[.none, .bool false, .ref s.heap.objs.size, rawInt 0, .none, .none] } }) :=
  .of_wp fun P w A R s h => by
    obtain ⟨hp, gs, dr, tk, os⟩ := s
    obtain ⟨hl, h⟩ := h
    have sub := sub_enumerate
    have hT : Heap.IsTuple (Shared.heap ⟨hp, gs, dr, tk, os⟩) t vs := ⟨_, hl, rfl, m, rfl⟩
    wp_walk using wpAny_loadPart' hl
    refine wpAny_stack_any fun stk => wpAny_pure ?_
    split
    · rename_i c _ _ _ _ _
      cases (c == Value.type "enumerate") <;>
        · wp_walk using wpAny_loadPart' hl, wpAny_pyIter_tuple hT
          exact ⟨_, rfl, h⟩
    · wp_walk using wpAny_loadPart' hl, wpAny_pyIter_tuple hT
      exact ⟨_, rfl, h⟩
theorem enum_of_tup {P : Program} {w : World} {A : Around} {E : Value → Shared → Prop} {s : Shared} {t : Addr} {vs : Array Value} {Q : Value → Shared → Prop} (hT : s.heap.IsTuple t vs)
    (h : ∀ h2, IsEnum h2 (s.heap.objs.size + 1) s.heap.objs.size 0 .none → h2.IsTupleIter s.heap.objs.size t 0 → (∀ b o, s.heap.get? b = some o → h2.get? b = some o) → Q (.ref (s.heap.objs.size + 1)) { s with heap := h2 }) :
    wpAny (model P w) A (call (.type "enumerate") [.ref t]) Q E s := by
  obtain ⟨⟨c, dc, dt, ss⟩, ho, e1, m, e2⟩ := hT
  cases (show c = .type "tuple" from e1)
  cases (show dt = .seq vs m from e2)
  have made := enum_new_tup t vs m dc ss
  refine callType_new F.called_enumerate (by decide) (F.typeCall_enumerate_1 _)
    (F.newCall_enumerate_1 _) (fun ob => F.args_object_init_2 ob _) F.entry_enumerate_new made ⟨ho, ?_⟩
  have size1 : (s.heap.push { cls := .type "tuple_iterator", data := .fields #[.ref t, .int 0 0] }).objs.size = s.heap.objs.size + 1 := Heap.size_push _ _
  show _ ∧ _
  rw [size1]
  have en : IsEnum ((s.heap.push { cls := .type "tuple_iterator", data := .fields #[.ref t, .int 0 0] }).push { cls := .type "enumerate", data := .fields #[.none, .bool false, .ref s.heap.objs.size, rawInt 0, .none, .none] })
      (s.heap.objs.size + 1) s.heap.objs.size 0 .none := by
    have z := Heap.get?_push_size (s.heap.push { cls := .type "tuple_iterator", data := .fields #[.ref t, .int 0 0] }) (o := { cls := .type "enumerate", data := .fields #[.none, .bool false, .ref s.heap.objs.size, rawInt 0, .none, .none] }) rfl
    rw [size1] at z
    exact z
  have it0 : ((s.heap.push { cls := .type "tuple_iterator", data := .fields #[.ref t, .int 0 0] }).push { cls := .type "enumerate", data := .fields #[.none, .bool false, .ref s.heap.objs.size, rawInt 0, .none, .none] }).IsTupleIter s.heap.objs.size t 0 :=
    ⟨{ cls := .type "tuple_iterator", data := .fields #[.ref t, .int 0 0] }, Heap.get?_push_of_some _ (Heap.get?_push_size _ rfl), rfl, rfl⟩
  exact ⟨⟨_, en, rfl⟩, h _ en it0 fun b o x => Heap.get?_push_of_some _ (Heap.get?_push_of_some _ x)⟩
end PawX
end PySem
namespace Paw
open PySem PySem.Spec PyProof.Rows L2
/-- the tuple at a, each item in a new pair with its number -/
def Itu (K : PySem.W.Frag) (a : Addr) : It where
  go := fun i H => ∃ (xs : List V) (x : V), SqT K H a xs ∧ xs[i]? = some x
  yld := fun i H v H' => ∃ (T : Addr) (x : V), v = .ref T ∧ H T = none ∧ H' = upd H T (.tup [.int (i : Nat), x]) ∧ ∀ xs, SqT K H a xs → xs[i]? = some x
  stop := fun i H => ∃ xs : List V, SqT K H a xs ∧ xs.length = i
theorem tup_inj {X : Cx} {pins : List (Addr × Obj)} {σ : L2.St} {H : Hp} {s : Shared} {a : Addr} {xs ys : List V} (I : Inv X pins σ H s) (h : SqT X.K H a xs) (g : SqT X.K H a ys) : xs = ys := by
  obtain ⟨its, r1, ⟨o, ho, _, n, hd⟩, _⟩ := I.tuple h
  obtain ⟨jts, r2, ⟨o2, ho2, _, n2, hd2⟩, _⟩ := I.tuple g
  rw [ho] at ho2
  cases ho2
  rw [hd] at hd2
  injection hd2 with e1 e2
  have e : its = jts := by
    have z := congrArg Array.toList e1
    simpa using z
  subst e
  exact r1.inj r2
theorem turn_tupC {P : Program} {w : World} {K : PySem.W.Frag} {es : List Expr} {kk : Nat} {tp : Pos} (a e it : Addr) (hae : a ≠ e) (hai : a ≠ it) : Turn P w K (.Tuple es kk tp) (Itu K a) [e, it] e (fun i h => (∃ old, IsEnum h e it ((i : Nat) : Int) old) ∧ h.IsTupleIter it a i ∧ e ≠ it) where
  mem := List.mem_cons_self
  obj := by
    rintro i h ⟨⟨old, he⟩, ⟨o, ho, hc, hd⟩, _⟩ b hb
    rcases List.mem_cons.mp hb with z | z
    · rw [z]
      exact ⟨_, he, fun v q => nomatch q⟩
    · rw [List.mem_singleton.mp z]
      refine ⟨o, ho, fun v q => ?_⟩
      rw [hd] at q
      cases q
  keep := by
    rintro i h h' ⟨⟨old, he⟩, hi, hne⟩ k
    exact ⟨⟨old, k e List.mem_cons_self _ he⟩, hi.at fun o q => k it (List.mem_cons_of_mem _ List.mem_cons_self) o q, hne⟩
  item := by
    intro X hP hw hK hc i pins s σ H E I hf st hg
    subst hP
    subst hw
    subst hK
    obtain ⟨⟨old, he⟩, hit, hne⟩ := st
    obtain ⟨xs, x, hq, hx⟩ := hg
    obtain ⟨its, rv, pt, hz⟩ := I.tuple hq
    obtain ⟨u, hu, ru⟩ := rv.get hx
    have hel : e < s.heap.objs.size := Heap.lt_size he
    have hil : it < s.heap.objs.size := by
      obtain ⟨_, q, _⟩ := hit
      exact Heap.lt_size q
    have hT : s.heap.IsTuple a its.toArray := pt
    have lt : i < its.toArray.size := by
      have z := (List.getElem?_eq_some_iff.mp hu).1
      simpa using z
    have D := Draws.tuple (prog := X.prog) (w := X.w) (A := X.A.in1) (show X.A.in1.handled = none from I.ok.hd hc) it a hai its.toArray
    refine wpAny_pyNext_enum_itemD D he ⟨hit, hT⟩ lt hne (by simp [hne, hae.symm]) fun y h' tk hy ho st' hTu hsz hk => ?_
    have ey : y = u := by
      have z : its[i]? = some y := by simpa using hy
      rw [hu] at z
      exact (Option.some.inj z).symm
    subst ey
    refine ⟨_, rfl, wpAny_letOwnedTupleGo_enum (s := { s with heap := h', toks := tk + 1 }) ho fun h'' he' sb => ?_⟩
    have far : s.heap.objs.size ≠ e := Nat.ne_of_gt hel
    have hT2 := (sb.2 _ far).trans hTu
    have new : ObjOk X.prog X.w (upd H s.heap.objs.size (.tup [.int (i : Nat), x])) h'' s.heap.objs.size (.tup [.int (i : Nat), x]) := by
      refine ⟨by show 2 ≤ sizeLine; decide, [.int i tk, y], .cons ⟨_, rfl⟩ (.cons ru .nil), ?_⟩
      exact ⟨_, hT2, rfl, _, rfl⟩
    have I1 : Inv X pins σ (upd H s.heap.objs.size (.tup [.int (i : Nat), x])) { s with heap := h'', toks := tk + 1 } := by
      refine I.turnedNew (ch := [e, it]) (fun b ob hb q => ?_) hf (Nat.le_refl _) new
      have n1 : b ≠ e := fun z => hb (by rw [z]; exact List.mem_cons_self)
      have n2 : b ≠ it := fun z => hb (by rw [z]; exact List.mem_cons_of_mem _ List.mem_cons_self)
      exact (sb.2 b n1).trans (hk b ob n1 n2 q)
    refine ⟨.ref s.heap.objs.size, _, I1, rfl, ⟨_, x, rfl, I.hok.fresh (Nat.le_refl _), rfl, fun ys hy => ?_⟩, ⟨⟨y, ?_⟩, st'.1.at fun o q => (sb.2 it hne.symm).trans q, hne⟩, fun b hb => ?_⟩
    · rw [tup_inj I hy hq]
      exact hx
    · have e1 : ((i + 1 : Nat) : Int) = (i : Int) + 1 := Int.natCast_succ i
      rw [e1]
      exact he'
    · have lb : b < s.heap.objs.size := by
        rcases List.mem_cons.mp hb with z | z
        · rw [z]
          exact hel
        · rw [List.mem_singleton.mp z]
          exact hil
      rw [upd_ne (Nat.ne_of_lt lb)]
      exact (hf b hb).1
  done := by
    intro X hP hw hK hc i pins s σ H E I hf st hg
    subst hP
    subst hw
    subst hK
    obtain ⟨⟨old, he⟩, hit, hne⟩ := st
    obtain ⟨xs, hq, hx⟩ := hg
    obtain ⟨its, rv, pt, hz⟩ := I.tuple hq
    have hT : s.heap.IsTuple a its.toArray := pt
    have ei : i = its.toArray.size := by
      have z := rv.length
      simp
      omega
    subst ei
    have fit := hf it (List.mem_cons_of_mem _ List.mem_cons_self)
    obtain ⟨f0, f1, f2, f3, f4, f5⟩ := fit
    have D := Draws.tuple (prog := X.prog) (w := X.w) (A := X.A.in1) (show X.A.in1.handled = none from I.ok.hd hc) it a hai its.toArray
    exact wpAny_pyNext_enum_endD D he ⟨hit, hT⟩ fun h' eb => ⟨rfl, I.turned (t' := s.toks) (fun b o hb q => eb b o hb q) f0 f1 f3 f4 f5⟩
  self := by
    rintro A i s Q E ⟨⟨_, he⟩, _⟩ h
    exact wpAny_pyIter_enum he h
def iEnumT (K : PySem.W.Frag) (ta : TA) : TI := fun σ H R => ta σ H fun vs H1 => ∃ (a : Addr) (xs : List V), vs = [.ref a] ∧ SqT K H1 a xs ∧ R (Itu K a) H1
theorem pi_enumT {X : Cx} {e : Expr} {ta : TA} {p pos tp : Pos} {es : List Expr} {kk : Nat} (hg : Gl X "enumerate") (hm : X.mg "enumerate" = none) (ha : PA X [e] ta)
    (hs : starEach [e] X.env = [(false, eval e X.env)] := by rfl) : PI X (.Tuple es kk tp) (.Call (.Name "enumerate" p) [e] [] pos) (iEnumT X.K ta) := by
  constructor
  intro pins s σ H R I h
  refine Call_ (ld_blt I hg hm boot_enumerate (PyProof.Rows.callWith_type1 (thn (ha.run pos pins s σ H _ I h) ?_) hs rfl))
  rintro us s1 ⟨vs, H1, I1, r1, a, xs, rfl, hq, q⟩
  obtain ⟨u, rfl, ru⟩ := vals1 r1
  cases (show u = Value.ref a from ru)
  obtain ⟨its, rv, pt, hz⟩ := I1.tuple hq
  have hT : s1.heap.IsTuple a its.toArray := pt
  have la : a < s1.heap.objs.size := by
    obtain ⟨o, ho, _⟩ := pt
    exact Heap.lt_size ho
  apply PySem.PawX.enum_of_tup hT
  intro h2 he hit hk
  apply wpAny_pyIter_enum he
  refine ⟨s1.heap.objs.size + 1, [s1.heap.objs.size + 1, s1.heap.objs.size], _, Itu X.K a, H1, rfl, I1.kept (t' := s1.toks) hk, turn_tupC a (s1.heap.objs.size + 1) s1.heap.objs.size (Nat.ne_of_lt (Nat.lt_succ_of_lt la)) (Nat.ne_of_lt la), ⟨⟨.none, he⟩, hit, Nat.succ_ne_self _⟩, fun b hb => ?_, q⟩
  have hle : s1.heap.objs.size ≤ b := by
    rcases List.mem_cons.mp hb with z | z
    · rw [z]
      exact Nat.le_succ _
    · rw [List.mem_singleton.mp z]
      exact Nat.le_refl _
  exact I1.fpOk hle (I1.hok.fresh hle)
theorem walk_enumT {K : PySem.W.Frag} {a : Addr} {xs : List V} : Walk (Itu K a) xs.length (fun H => SqT K H a xs) (YPair (fun i => some (.int (i : Nat))) (fun i => xs[i]?)) where
  goes := fun i _ hi q => ⟨xs, xs[i], q, by simp [hi]⟩
  stops := fun _ q => ⟨xs, q, rfl⟩
  yields := by
    rintro i H v H' _ q ⟨T, x, h1, h2, h3, h4⟩
    exact ⟨T, .int (i : Nat), x, h1, h2, h3, rfl, h4 xs q⟩
end Paw

set_option maxRecDepth 100000
set_option maxHeartbeats 4000000
namespace Paw
open PySem PySem.Spec PyProof.Rows L2
/-! ### B.m(self, ..), B a class of the module, m a def of it -/
section
variable {X : Cx} {CX : CXT} {k : Nat} {C f : Addr} {mc : Value} {sp : Sp} {E : L2.St → XK} {x m : Str} {p pos apos : Pos} {e : Expr} {es : List Expr} {t : TA} {pl : Sem Bool}
theorem pe_ofCls (hg : Gl X x) (hm : X.mg x = some (.ref C)) (r : ClX.CRead X.K C mc) (at_ : PySem.W.findCls X.K (.ref C) mc m = some (.val (.ref f))) (F : FnR X.prog X.w X.K X.mg X.base CX k f sp) (hk : PySem.W.keepIn X.K (.ref f) = true) (hr : Room k X.A) (hx : ∀ σ, PassesAt CX X σ (E σ)) (ha : PA X (e :: es) t)
    (hdb : (x == ("__debug__" : Str)) = false := by decide) (hs : starEach (e :: es) X.env = (false, eval e X.env) :: starEach es X.env := by rfl) (hpl : (backTo pos (starEach es X.env)).any (·.1) = false := by rfl)
    (ht : eval (.Call (.Attribute (.Name x p) m apos) (e :: es) [] pos) X.env = (do
      let ov ← eval (.Name x p) X.env
      standAt apos.atName
      let (f, first) ← holding [ov] (getMethod ov m pl)
      callWith pos f first (backTo pos (starEach (e :: es) X.env)) (backToKw pos (keywordEach [] X.env))) := by rfl) :
    PE X (.Call (.Attribute (.Name x p) m apos) (e :: es) [] pos) (tCallG sp E t) := by
  constructor
  intro pins s σ H Q I h
  refine PySem.W.methodCall_KW (pl := pl) (ld_glob I hg hm ?_ hdb) ht
  apply PySem.W.method_cls I.kIn r.ga
  refine PySem.W.cls_value I.kIn r.rd at_ (by rfl) ?_
  have I1 := I.tok (s.toks + 1)
  apply PySem.W.callWith_K (h₀ := X.base) I1.ok.mod.kin hk _ hs hpl
  apply thn (ha.run pos pins _ σ H _ I1 h)
  rintro us s2 ⟨vs, H2, I2, rv, q⟩
  exact ⟨I2.kIn, run_fnRS F hr (hx σ) I2 rv q⟩
end
/-! ### making an object at slots, by a promise of its __init__ -/
def tMakeS (C : Addr) (sp : Sp) (E : L2.St → XK) (t : TA) : TE := fun σ H Q => t σ H fun vs H1 => ∀ x dx, H1 x = none → H1 dx = none → dx ≠ x → sp (.ref x :: vs) (upd (upd H1 dx (.own x)) x (.ins C dx [])) (fun v H2 => v = .non ∧ Q (.ref x) H2) (E σ)
section
variable {X : Cx} {CX : CXT} {k n : Nat} {C f : Addr} {fd : FuncData} {ps ks : List Str} {sp : Sp} {E : L2.St → XK} {x : Str} {p pos : Pos} {e : Expr} {es : List Expr} {kws : List Keyword} {t tk : TA} {g : List Value → List Value → List Value} {gV : List V → List V → List V}
/-- an error out of a def that was called when a new object stood there, at the slots -/
theorem pass_made {pins : List (Addr × Obj)} {σ : L2.St} {H : Hp} {s : Shared} {E' : XK} {er : Value} {s' : Shared} (hx : PassesAt CX X σ E') (I2 : Inv X pins σ H s) (c : CX X.stack H s E' er s') : X.xe er s' := hx pins H s er s' I2 c
theorem pe_makeS (M : Mk X.K C f) (F : FnR X.prog X.w X.K X.mg X.base CX k f sp) (hr : Room (k + 1) X.A) (hg : Gl X x) (hm : X.mg x = some (.ref C)) (hx : ∀ σ, PassesAt CX X σ (E σ)) (ha : PA X (e :: es) t) (hdb : (x == ("__debug__" : Str)) = false := by decide)
    (he : starEach (e :: es) X.env = (false, eval e X.env) :: starEach es X.env := by rfl) (hpl : (backTo pos (starEach es X.env)).any (·.1) = false := by rfl) : PE X (.Call (.Name x p) (e :: es) [] pos) (tMakeS C sp E t) := by
  constructor
  intro pins s σ H Q I h
  apply wpAny_Call_Name_kw
  apply ld_glob I hg hm _ hdb
  apply PySem.W.callWith_K (h₀ := X.base) I.ok.mod.kin M.kp _ he hpl
  apply thn (ha.run pos pins s σ H _ I h)
  rintro us s1 ⟨vs, H1, I1, r, q⟩
  refine ⟨I1.kIn, ?_⟩
  have far := Nat.ne_of_lt (Nat.lt_succ_self s1.heap.objs.size)
  have hq := q (s1.heap.objs.size + 1) s1.heap.objs.size (I1.hok.fresh (Nat.le_succ _)) (I1.hok.fresh (Nat.le_refl _)) far
  have I2 := Inv.made (C := C) I1
  have r2 : Vals (V.ref (s1.heap.objs.size + 1) :: vs) (Value.ref (s1.heap.objs.size + 1) :: us) := .cons rfl r
  apply wpAny_call
  refine make_map (f := f) I1.kIn M.makes M.init (beq_iff_eq.mp M.fn) ?_
  apply codeAny_mono (F _ X.stack _ _ (Value.ref (s1.heap.objs.size + 1) :: us) _ _ (E σ) (hr.make C us []) (I2.env0.make C us []) r2 hq)
  intro r' s' q'
  match r', q' with
  | .error er, q' => exact hx σ pins _ _ er s' I2 q'
  | .ok (.ret u), q' =>
    obtain ⟨v, H2, I3, rv, ev, q3⟩ := I2.after q'
    subst ev
    exact ⟨rv, V.ref (s1.heap.objs.size + 1), H2, I3, rfl, q3⟩
end
end Paw

set_option maxRecDepth 100000
set_option maxHeartbeats 2000000
namespace Paw
open PySem PySem.Spec PyProof.Rows L2
def top (i : Nat) : Stmt := PySem.Challenge.pw_pawlhall_k03_parts_refused.main.body.getD i (.Pass ⟨0, 0, 0, 0⟩)
abbrev sMixed : Stmt := top 31
abbrev sPile : Stmt := top 32
abbrev sTake : Stmt := top 33

/-! ### the draws -/
def BIG : Int := 10 ^ 50 * 10 ^ 50 * 10 ^ 50
theorem big_pos : 0 < BIG := by decide +kernel
theorem big_log : BIG.natAbs < 2 ^ 500 := by decide +kernel
/-- what stands in a pile: digits, the cell's rest, a count, a flag -/
def Pile (b : Bool) (L : List V) : Prop := ∃ d m c : Int, L = [.int d, .int m, .int c, .bl b] ∧ 0 ≤ d ∧ d < BIG ∧ 0 ≤ m ∧ m < 2147483647
def spMixed : Sp := fun vs H Q _ => ∃ c k : Int, vs = [.int c, .int k] ∧ ∀ r : Int, 0 ≤ r → Q (.int r) H
def spPile (K : PySem.W.Frag) : Sp := fun vs H Q _ => ∃ (a : Addr) (ns : List Int) (k : Nat), vs = [.ref a, .int (k : Int)] ∧ SqL K H a (ns.map V.int) ∧
  ∀ (H' : Hp) (p : Addr) (L : List V), Same H H' → H p = none → H' p = some (.lst L) → Pile (decide ((k : Int) < 2)) L → Q (.ref p) H'
/-- all that was tracked but p is as it was -/
def But (p : Addr) (H H' : Hp) : Prop := ∀ b o, b ≠ p → H b = some o → H' b = some o
def spTake : Sp := fun vs H Q _ => ∃ (p : Addr) (n : Int) (b : Bool) (L : List V), vs = [.ref p, .int n] ∧ 0 < n ∧ n.natAbs < 2 ^ 2000 ∧ H p = some (.lst L) ∧ Pile b L ∧
  ∀ (r : Int) (L' : List V) (H' : Hp), 0 ≤ r → r < n → Pile b L' → But p H H' → H' p = some (.lst L') → Q (.int r) H'
section
variable {P : Program} {w : World} {K : PySem.W.Frag} {mg : Str → Option Value} {base : Heap}
theorem scMixed : FnScope ["cell", "k", "figure"] ["cell", "k"] (defScope sMixed) := ⟨rfl, rfl, rfl, by decide +kernel, rfl, by decide +kernel, by decide +kernel⟩
theorem ok_mixed {f : Addr} {fd : FuncData} (F : Fun K "_law_mixed" "_law_mixed" sMixed f fd) (zi : mg "int" = none) : FnOk P w K mg base CX0 1 f fd ["cell", "k"] spMixed := by
  refine F.ok scMixed (fun vs H Q E h => ?_) (fun cdv A outer s H vs Q E hr h => ?_)
  · obtain ⟨c, k, rfl, _⟩ := h
    rfl
  · obtain ⟨c, k, rfl, q⟩ := h
    refine ⟨_, pss_cons (ps_set (i := 2) scMixed.nd rfl (Or.inl rfl) (pe_op op_mod (pe_callTy call_int1 (by rfl) zi bt_int (pa_cons
        (pe_op op_add (pe_op op_add (pe_op op_mul (pe_op op_mod (pe_callTy call_int1 (by rfl) zi bt_int (pa_cons (pv 0) pa_nil)) pe_int) pe_int) (pe_op op_mul (pv 1) pe_int)) pe_int) pa_nil)) pe_int))
      (pss_cons (ps_set (i := 2) scMixed.nd rfl (Or.inl rfl) (pe_op op_mod (pe_callTy call_int1 (by rfl) zi bt_int (pa_cons (pe_op op_mul (pv 2) (pv 2)) pa_nil)) pe_int))
      (pss_one (ps_ret (pe_op op_fdiv (pe_op op_mod (pe_callTy call_int1 (by rfl) zi bt_int (pa_cons (pe_op op_mul (pv 2) (pv 2)) pa_nil)) pe_int) pe_int)))), ?_⟩
    refine ⟨_, rfl, .inl ⟨_, rfl, _, _, rfl, rfl, (by show (0 : Int) < 2147483647; decide), _, _, rfl, rfl, .inr ⟨by decide, by decide⟩, _, rfl, _, _, rfl, rfl, .inr ⟨by decide, by decide⟩, _, _, rfl, rfl, _, _, rfl, rfl, .inl ⟨_, rfl, _, _, rfl, rfl, (by show (0 : Int) < 2147483647; decide), ?_⟩⟩⟩
    have e1 := Int.emod_nonneg (c % 2147483647 * 48271 + k * 69621 + 11) (by decide : (2147483647 : Int) ≠ 0)
    have e2 := Int.emod_lt_of_pos (c % 2147483647 * 48271 + k * 69621 + 11) (by decide : (0 : Int) < 2147483647)
    refine ⟨_, rfl, _, rfl, _, _, rfl, rfl, .inl ⟨by omega, by omega⟩, .inl ⟨_, rfl, _, _, rfl, rfl, (by show (0 : Int) < 2147483629; decide), ?_⟩⟩
    generalize (c % 2147483647 * 48271 + k * 69621 + 11) % 2147483647 = y at e1 e2 ⊢
    have e3 := Int.emod_nonneg (y * y) (by decide : (2147483629 : Int) ≠ 0)
    have e4 := Int.emod_lt_of_pos (y * y) (by decide : (0 : Int) < 2147483629)
    refine ⟨_, rfl, _, rfl, _, _, rfl, rfl, .inl ⟨by omega, by omega⟩, .inl ⟨_, rfl, _, _, rfl, rfl, (by show (0 : Int) < 2147483587; decide), _, _, rfl, rfl, ⟨by decide, by decide⟩, q _ ?_⟩⟩
    have e5 := Int.emod_nonneg (y * y % 2147483629 * (y * y % 2147483629)) (by decide : (2147483587 : Int) ≠ 0)
    omega
theorem scPile : FnScope ["script", "k", "cell", "digits"] ["script", "k"] (defScope sPile) := ⟨rfl, rfl, rfl, by decide +kernel, rfl, by decide +kernel, by decide +kernel⟩
theorem pow_big : (10 : Int) ^ (50 : Int).toNat * 10 ^ (50 : Int).toNat * 10 ^ (50 : Int).toNat = BIG := by decide +kernel
theorem pow_one : ((10 : Int) ^ (50 : Int).toNat).natAbs < 2 ^ 200 ∧ ((10 : Int) ^ (50 : Int).toNat * 10 ^ (50 : Int).toNat).natAbs < 2 ^ 400 := by decide +kernel
theorem big_mod (c : Int) : 0 ≤ c.fmod BIG ∧ c.fmod BIG < BIG := by
  have h := big_pos
  rw [Int.fmod_eq_emod_of_nonneg c (by omega)]
  exact ⟨Int.emod_nonneg _ (by omega), Int.emod_lt_of_pos _ h⟩
/-- the two ends of digits' menu -/
theorem menu_at (b : Bool) (x : Int) : atI [V.int 0, V.int x] (if b then 1 else 0) = some (.int (if b then x else 0)) := by
  cases b
  · exact atI_nat (j := 0) rfl
  · exact atI_nat (j := 1) rfl
theorem pile_is {c k : Int} {b b2 : Bool} (e : b2 = decide (k < 2)) : Pile (decide (k < 2)) [.int (if b then c.fmod BIG else 0), .int (c % 2147483647), .int (97 * k), .bl b2] := by
  have h := big_mod c
  have h0 := big_pos
  refine ⟨_, _, _, by rw [e], ?_, ?_, Int.emod_nonneg _ (by decide), Int.emod_lt_of_pos _ (by decide)⟩
  · cases b
    · exact Int.le_refl 0
    · exact h.1
  · cases b
    · exact h0
    · exact h.2
theorem ok_pile {f : Addr} {fd : FuncData} (F : Fun K "_law_pile" "_law_pile" sPile f fd) (zi : mg "int" = none) (zl : mg "len" = none) (za : mg "abs" = none) : FnOk P w K mg base CX0 1 f fd ["script", "k"] (spPile K) := by
  refine F.ok scPile (fun vs H Q E h => ?_) (fun cdv A outer s H vs Q E hr h => ?_)
  · obtain ⟨a, ns, k, rfl, _⟩ := h
    rfl
  · obtain ⟨a, ns, k, rfl, hS, q⟩ := h
    refine ⟨_, pss_cons (ps_set (i := 2) scPile.nd rfl (Or.inl rfl) pe_int)
      (pss_cons (ps_if (pt_cmpR op_lt (pv 1) (pe_callB call_len_seq (by rfl) zl bt_len (pa_cons (pv 0) pa_nil)) (nomark _)) (pss_one (ps_set (i := 2) scPile.nd rfl (Or.inl rfl) (pe_ix ix_list (pv 0) (pv 1) (fun _ _ => rfl)))) pss_nil)
      (pss_cons (ps_set (i := 3) scPile.nd rfl (Or.inl rfl) (pe_ix ix_list (pe_lst (pa_cons pe_int (pa_cons (pe_op op_modN (pe_callTy call_int1 (by rfl) zi bt_int (pa_cons (pv 2) pa_nil)) (pe_op op_mulW (pe_op op_mulW (pe_op op_pow pe_int pe_int) (pe_op op_pow pe_int pe_int)) (pe_op op_pow pe_int pe_int))) pa_nil)))
          (pe_callTy call_int1 (by rfl) zi bt_int (pa_cons (pe_cmpR op_ge (pe_callB call_abs (by rfl) za bt_abs (pa_cons (pv 2) pa_nil)) (pe_op op_pow pe_int pe_int) (nomark _)) pa_nil)) (fun _ _ => rfl)))
      (pss_one (ps_ret (pe_lst (pa_cons (pv 3) (pa_cons (pe_op op_mod (pe_callTy call_int1 (by rfl) zi bt_int (pa_cons (pv 2) pa_nil)) pe_int) (pa_cons (pe_op op_mul pe_int (pv 1)) (pa_cons (pe_cmpR op_lt (pv 1) pe_int (nomark _)) pa_nil))))))))), ?_⟩
    refine ⟨_, rfl, _, rfl, a, _, rfl, .inl hS, _, _, rfl, rfl, _, rfl, ?_⟩
    have hk : decide ((k : Int) < ((ns.map V.int).length : Int)) = true → ∃ z : Int, (ns.map V.int)[k]? = some (.int z) := fun h => by
      have e := of_decide_eq_true h
      rw [List.length_map] at e
      have e2 : k < ns.length := by omega
      exact ⟨ns[k], by rw [List.getElem?_map, List.getElem?_eq_getElem e2]; rfl⟩
    refine ite2 (fun h => (hk h).elim fun z hz => ⟨_, rfl, _, rfl, a, _, _, .int z, rfl, rfl, hS, atI_nat hz, ?_⟩) (fun h => ?_)
    all_goals
      refine ⟨_, rfl, .inl ⟨_, rfl, _, _, rfl, rfl, ⟨by decide, by decide, by decide⟩, _, _, rfl, rfl, ⟨by decide, by decide, by decide⟩, _, _, rfl, rfl, wide_mul pow_one.1 pow_one.1 (by decide) (by decide) (by decide), _, _, rfl, rfl, ⟨by decide, by decide, by decide⟩, _, _, rfl, rfl, wide_mul pow_one.2 pow_one.1 (by decide) (by decide) (by decide), _, _, rfl, rfl, (by rw [pow_big]; have := big_pos; omega), (by show 2 ≤ sizeLine; decide), fun l hl => ?_⟩⟩
      rw [pow_big]
      refine ⟨_, rfl, _, rfl, _, _, rfl, rfl, ⟨by decide, by decide, by decide⟩, _, _, rfl, rfl, .inr ⟨_, rfl, l, _, _, _, rfl, rfl, SqL.of upd_same, menu_at _ _, ?_⟩⟩
      refine ⟨_, rfl, _, rfl, .inl ⟨_, rfl, _, _, rfl, rfl, (by show (0 : Int) < 2147483647; decide), _, rfl, _, _, rfl, rfl, .inl ⟨by decide, by decide⟩, _, rfl, _, _, rfl, rfl, (by show 4 ≤ sizeLine; decide), fun p hp => ?_⟩⟩
      have np : p ≠ l := fun z => by
        rw [z, upd_same] at hp
        cases hp
      rw [upd_ne np] at hp
      refine q _ p _ (fun b o e => ?_) hp upd_same (pile_is rfl)
      rw [upd_ne (ne_of_none e hp), upd_ne (ne_of_none e hl)]
      exact e
theorem scTake : FnScope ["pile", "many", "digit"] ["pile", "many"] (defScope sTake) := ⟨rfl, rfl, rfl, by decide +kernel, rfl, by decide +kernel, by decide +kernel⟩
theorem ok_take {f fM : Addr} {fd fdM : FuncData} (F : Fun K "_law_take" "_law_take" sTake f fd) (zi : mg "int" = none) (GM : FnOk P w K mg base CX0 1 fM fdM ["cell", "k"] spMixed) (gM : mg "_law_mixed" = some (.ref fM)) (kM : PySem.W.keepIn K (.ref fM) = true)
    (bM : Binds K fdM ["cell", "k"] []) : FnOk P w K mg base CX0 2 f fd ["pile", "many"] spTake := by
  refine F.ok scTake (fun vs H Q E h => ?_) (fun cdv A outer s H vs Q E hr h => ?_)
  · obtain ⟨p, n, b, L, rfl, _⟩ := h
    rfl
  · obtain ⟨p, n, b, L, rfl, n0, n1, hp, ⟨d, m, c, rfl, d0, d1, m0, m1⟩, q⟩ := h
    refine ⟨_, pss_cons (ps_if (pt_cmpR op_in_seq (pe_ix ix_list (pv 0) pe_int (fun _ _ => rfl)) (pe_lst (pa_cons pe_int (pa_cons (pe_un un_neg pe_int) pa_nil))) (by rfl))
        (pss_cons (ps_asg (pe_op op_add (pe_ix ix_list (pv 0) pe_int (fun _ _ => rfl)) pe_int) (pg_sub (pv 0) pe_int set_list))
        (pss_one (ps_ret (pe_op op_modN (pe_callTy call_int1 (by rfl) zi bt_int (pa_cons (pe_call GM hr rfl gM kM bM .nil pass0 (pa_cons (pe_ix ix_list (pv 0) pe_int (fun _ _ => rfl)) (pa_cons (pe_ix ix_list (pv 0) pe_int (fun _ _ => rfl)) pa_nil))) pa_nil)) (pv 1))))) pss_nil)
      (pss_cons (ps_set (i := 2) scTake.nd rfl (Or.inl rfl) (pe_op op_modN (pe_callTy call_int1 (by rfl) zi bt_int (pa_cons (pe_ix ix_list (pv 0) pe_int (fun _ _ => rfl)) pa_nil)) (pv 1)))
      (pss_cons (ps_asg (pe_op op_fdivW (pe_ix ix_list (pv 0) pe_int (fun _ _ => rfl)) (pv 1)) (pg_sub (pv 0) pe_int set_list))
      (pss_one (ps_ret (pv 2))))), ?_⟩
    refine ⟨_, rfl, p, _, _, _, rfl, rfl, SqL.of hp, atI_nat (j := 0) rfl, _, rfl, (by show 2 ≤ sizeLine; decide), fun l hl => ?_⟩
    have npl : p ≠ l := ne_of_none hp hl
    have keep : ∀ b o, b ≠ p → H b = some o → (upd H l (.lst [.int 0, .int (-1)])) b = some o := fun b o _ e => by
      rw [upd_ne (ne_of_none e hl)]
      exact e
    refine ⟨l, _, rfl, .inl (SqL.of upd_same), rfl, rfl, _, rfl, ?_⟩
    refine ite2 (fun h => ?_) (fun h => ?_)
    · refine ⟨_, rfl, p, _, _, _, rfl, rfl, SqL.of ((upd_ne npl).trans hp), atI_nat (j := 2) rfl, _, _, rfl, rfl, _, rfl, p, _, _, 2, rfl, rfl, (upd_ne npl).trans hp, rfl, ?_⟩
      refine ⟨_, rfl, p, _, _, _, rfl, rfl, SqL.of upd_same, atI_nat (j := 1) rfl, _, rfl, p, _, _, _, rfl, rfl, SqL.of upd_same, atI_nat (j := 2) rfl, _, _, rfl, fun r r0 => .inl ⟨_, rfl, _, rfl, _, _, rfl, rfl, (by omega), ?_⟩⟩
      refine q _ [.int d, .int m, .int (c + 1), .bl b] _ ?_ ?_ ⟨d, m, c + 1, rfl, d0, d1, m0, m1⟩ (fun b o nb e => ?_) upd_same
      · rw [Int.fmod_eq_emod_of_nonneg r (by omega)]
        exact Int.emod_nonneg _ (by omega)
      · rw [Int.fmod_eq_emod_of_nonneg r (by omega)]
        exact Int.emod_lt_of_pos _ n0
      · rw [upd_ne nb]
        exact keep b o nb e
    · refine ⟨_, rfl, p, _, _, _, rfl, rfl, SqL.of ((upd_ne npl).trans hp), atI_nat (j := 0) rfl, .inl ⟨_, rfl, _, rfl, _, _, rfl, rfl, (by omega), ?_⟩⟩
      refine ⟨_, rfl, p, _, _, _, rfl, rfl, SqL.of ((upd_ne npl).trans hp), atI_nat (j := 0) rfl, _, rfl, _, _, rfl, rfl, wide_div n0 n1 (by decide) (by decide), _, rfl, p, _, _, 0, rfl, rfl, (upd_ne npl).trans hp, rfl, _, rfl, ?_⟩
      have nn : (0 : Int) ≤ n := by omega
      refine q _ [.int (d / n), .int m, .int c, .bl b] _ ?_ ?_ ⟨d / n, m, c, rfl, Int.ediv_nonneg d0 nn, ?_, m0, m1⟩ (fun b o nb e => ?_) upd_same
      · rw [Int.fmod_eq_emod_of_nonneg d nn]
        exact Int.emod_nonneg _ (by omega)
      · rw [Int.fmod_eq_emod_of_nonneg d nn]
        exact Int.emod_lt_of_pos _ n0
      · exact Int.lt_of_le_of_lt (Int.ediv_le_self n d0) d1
      · rw [upd_ne nb]
        exact keep b o nb e
end
end Paw

set_option maxRecDepth 100000
set_option maxHeartbeats 2000000
namespace Paw
open PySem PySem.Spec PyProof.Rows L2
abbrev sOdd : Stmt := top 38
abbrev sAlike : Stmt := top 40

/-! ### heaps -/
theorem same_new {H : Hp} {p : Addr} {o : HO} (h : H p = none) : Same H (upd H p o) := fun b u e => (upd_ne (ne_of_none e h)).trans e
theorem fresh {H : Hp} {a b : Addr} {o : HO} (h : upd H a o b = none) : b ≠ a ∧ H b = none := by
  have n : b ≠ a := fun z => by
    rw [z, upd_same] at h
    cases h
  exact ⟨n, (upd_ne n).symm.trans h⟩
theorem But.refl {p : Addr} {H : Hp} : But p H H := fun _ _ _ e => e
theorem But.trans {p : Addr} {H1 H2 H3 : Hp} (a : But p H1 H2) (b : But p H2 H3) : But p H1 H3 := fun c o n e => b c o n (a c o n e)
theorem same_but {p : Addr} {H1 H2 : Hp} (a : Same H1 H2) : But p H1 H2 := fun c o _ e => a c o e

/-! ### odd things -/
def OddAt (H : Hp) (v : V) : Nat → Prop
  | 0 => v = .non
  | 1 => v = .bl true
  | 2 => v = .int 0
  | 3 => v = .str "A"
  | 4 => v = .str ""
  | 5 => ∃ t, v = .ref t ∧ H t = some (.tup [])
  | 6 => ∃ t, v = .ref t ∧ H t = some (.lst [])
  | 7 => ∃ t, v = .ref t ∧ H t = some (.dK [])
  | 8 => v = .str "a1"
  | 9 => v = .str "abcdefghi"
  | 10 => v = .int (-1)
  | 11 => ∃ t, v = .ref t ∧ H t = some (.tup [.str "a"])
  | 12 => ∃ t, v = .ref t ∧ H t = some (.lst [.str "a"])
  | 13 => ∃ t, v = .ref t ∧ H t = some (.tup [.int 1, .int 2])
  | 14 => v = .str "a b"
  | 15 => v = .str "1"
  | 16 => v = .str " a"
  | 17 => v = .str "a_"
  | 18 => v = .str "a\n"
  | 19 => v = .bl false
  | _ => False
def spOdd : Sp := fun vs H Q _ => ∃ (p : Addr) (b : Bool) (L : List V), vs = [.ref p] ∧ H p = some (.lst L) ∧ Pile b L ∧
  ∀ (j : Nat) (v : V) (L' : List V) (H' : Hp), OddAt H' v j → (∀ t, v = .ref t → H t = none) → But p H H' → H' p = some (.lst L') → Pile b L' → Q v H'
def oddItems (t5 t6 t7 t11 t12 t13 : Addr) : List V :=
  [.non, .bl true, .int 0, .str "A", .str "", .ref t5, .ref t6, .ref t7, .str "a1", .str "abcdefghi", .int (-1), .ref t11, .ref t12, .ref t13, .str "a b", .str "1"] ++ [.str " a", .str "a_", .str "a\n", .bl false]
theorem odd_of {H0 H : Hp} {t5 t6 t7 t11 t12 t13 : Addr} (n5 : H0 t5 = none) (n6 : H0 t6 = none) (n7 : H0 t7 = none) (n11 : H0 t11 = none) (n12 : H0 t12 = none) (n13 : H0 t13 = none)
    (h5 : H t5 = some (.tup [])) (h6 : H t6 = some (.lst [])) (h7 : H t7 = some (.dK [])) (h11 : H t11 = some (.tup [.str "a"])) (h12 : H t12 = some (.lst [.str "a"])) (h13 : H t13 = some (.tup [.int 1, .int 2])) :
    ∀ (j : Nat) (v : V), (oddItems t5 t6 t7 t11 t12 t13)[j]? = some v → OddAt H v j ∧ ∀ t, v = .ref t → H0 t = none
  | 0, _, e => by cases e; exact ⟨rfl, fun t z => nomatch z⟩
  | 1, _, e => by cases e; exact ⟨rfl, fun t z => nomatch z⟩
  | 2, _, e => by cases e; exact ⟨rfl, fun t z => nomatch z⟩
  | 3, _, e => by cases e; exact ⟨rfl, fun t z => nomatch z⟩
  | 4, _, e => by cases e; exact ⟨rfl, fun t z => nomatch z⟩
  | 5, _, e => by cases e; exact ⟨⟨_, rfl, h5⟩, fun t z => by cases z; exact n5⟩
  | 6, _, e => by cases e; exact ⟨⟨_, rfl, h6⟩, fun t z => by cases z; exact n6⟩
  | 7, _, e => by cases e; exact ⟨⟨_, rfl, h7⟩, fun t z => by cases z; exact n7⟩
  | 8, _, e => by cases e; exact ⟨rfl, fun t z => nomatch z⟩
  | 9, _, e => by cases e; exact ⟨rfl, fun t z => nomatch z⟩
  | 10, _, e => by cases e; exact ⟨rfl, fun t z => nomatch z⟩
  | 11, _, e => by cases e; exact ⟨⟨_, rfl, h11⟩, fun t z => by cases z; exact n11⟩
  | 12, _, e => by cases e; exact ⟨⟨_, rfl, h12⟩, fun t z => by cases z; exact n12⟩
  | 13, _, e => by cases e; exact ⟨⟨_, rfl, h13⟩, fun t z => by cases z; exact n13⟩
  | 14, _, e => by cases e; exact ⟨rfl, fun t z => nomatch z⟩
  | 15, _, e => by cases e; exact ⟨rfl, fun t z => nomatch z⟩
  | 16, _, e => by cases e; exact ⟨rfl, fun t z => nomatch z⟩
  | 17, _, e => by cases e; exact ⟨rfl, fun t z => nomatch z⟩
  | 18, _, e => by cases e; exact ⟨rfl, fun t z => nomatch z⟩
  | 19, _, e => by cases e; exact ⟨rfl, fun t z => nomatch z⟩
  | n + 20, _, e => by cases e
section
variable {P : Program} {w : World} {K : PySem.W.Frag} {mg : Str → Option Value} {base : Heap}
theorem scOdd : FnScope ["pile", "some"] ["pile"] (defScope sOdd) := ⟨rfl, rfl, rfl, by decide +kernel, rfl, by decide +kernel, by decide +kernel⟩
theorem ok_odd {f fT : Addr} {fd fdT : FuncData} (F : Fun K "_law_odd" "_law_odd" sOdd f fd) (GT : FnOk P w K mg base CX0 2 fT fdT ["pile", "many"] spTake) (gT : mg "_law_take" = some (.ref fT)) (kT : PySem.W.keepIn K (.ref fT) = true)
    (bT : Binds K fdT ["pile", "many"] []) : FnOk P w K mg base CX0 3 f fd ["pile"] spOdd := by
  refine F.ok scOdd (fun vs H Q E h => ?_) (fun cdv A outer s H vs Q E hr h => ?_)
  · obtain ⟨p, b, L, rfl, _⟩ := h
    rfl
  · obtain ⟨p, b, L, rfl, hp, hL, q⟩ := h
    refine ⟨_, pss_cons (ps_set (i := 1) scOdd.nd rfl (Or.inl rfl) (pe_lst (pa_cons pe_non (pa_cons pe_bl (pa_cons pe_int (pa_cons pe_str (pa_cons pe_str (pa_cons (pe_tup pa_nil) (pa_cons (pe_lst pa_nil) (pa_cons pe_dnewK (pa_cons pe_str (pa_cons pe_str (pa_cons (pe_un un_neg pe_int)
        (pa_cons (pe_tup (pa_cons pe_str pa_nil)) (pa_cons (pe_lst (pa_cons pe_str pa_nil)) (pa_cons (pe_tup (pa_cons pe_int (pa_cons pe_int pa_nil))) (pa_cons pe_str (pa_cons pe_str pa_nil))))))))))))))))))
      (pss_one (ps_ret (pe_ix ix_list (pe_op op_cat (pv 1) (pe_lst (pa_cons pe_str (pa_cons pe_str (pa_cons pe_str (pa_cons pe_bl pa_nil)))))) (pe_call GT hr rfl gT kT bT .nil pass0 (pa_cons (pv 0) (pa_cons pe_int pa_nil))) (fun _ _ => rfl)))), ?_⟩
    refine ⟨(by show 0 ≤ sizeLine; decide), fun t5 h5 => ⟨(by show 0 ≤ sizeLine; decide), fun t6 h6 => fun t7 h7 => ⟨_, rfl, (by show 1 ≤ sizeLine; decide), fun t11 h11 => ⟨(by show 1 ≤ sizeLine; decide), fun t12 h12 => ⟨(by show 2 ≤ sizeLine; decide), fun t13 h13 => ⟨(by show 16 ≤ sizeLine; decide), fun l hl => ?_⟩⟩⟩⟩⟩⟩
    refine ⟨_, rfl, (by show 4 ≤ sizeLine; decide), fun l2 hl2 => ⟨l, l2, _, _, rfl, rfl, (same_new hl2) _ _ upd_same, upd_same, (by show 20 ≤ sizeLine; decide), fun l3 hl3 => ?_⟩⟩
    have s5 := same_new (o := .tup []) h5
    have s6 := same_new (o := .lst []) h6
    have s7 := same_new (o := .dK []) h7
    have s11 := same_new (o := .tup [.str "a"]) h11
    have s12 := same_new (o := .lst [.str "a"]) h12
    have s13 := same_new (o := .tup [.int 1, .int 2]) h13
    have sl := same_new (o := .lst [.non, .bl true, .int 0, .str "A", .str "", .ref t5, .ref t6, .ref t7, .str "a1", .str "abcdefghi", .int (-1), .ref t11, .ref t12, .ref t13, .str "a b", .str "1"]) hl
    have sl2 := same_new (o := .lst [.str " a", .str "a_", .str "a\n", .bl false]) hl2
    have sl3 := same_new (o := .lst (oddItems t5 t6 t7 t11 t12 t13)) hl3
    have e13 := (sl.trans sl2).trans sl3
    have e12 := s13.trans e13
    have e11 := s12.trans e12
    have e7 := s11.trans e11
    have e6 := s7.trans e7
    have e5 := s6.trans e6
    have e0 := s5.trans e5
    have n6 := (fresh h6).2
    have n7 := (fresh (fresh h7).2).2
    have n11 := (fresh (fresh (fresh h11).2).2).2
    have n12 := (fresh (fresh (fresh (fresh h12).2).2).2).2
    have n13 := (fresh (fresh (fresh (fresh (fresh h13).2).2).2).2).2
    have n3 := (((((((s5.trans s6).trans s7).trans s11).trans s12).trans s13).trans sl).trans sl2).free hl3
    have ne : ∀ t, H t = none → t ≠ p := fun t z => (ne_of_none hp z).symm
    refine ⟨_, rfl, p, _, b, L, rfl, (by decide), (by decide +kernel), e0 _ _ hp, hL, fun r L' H' r0 r1 hL' hb hp' => ?_⟩
    obtain ⟨j, rfl⟩ : ∃ j : Nat, r = (j : Int) := ⟨r.toNat, by omega⟩
    have hj : j < (oddItems t5 t6 t7 t11 t12 t13).length := by
      show j < 20
      omega
    have hz : (oddItems t5 t6 t7 t11 t12 t13)[j]? = some (oddItems t5 t6 t7 t11 t12 t13)[j] := List.getElem?_eq_getElem hj
    have z := odd_of (H := H') h5 n6 n7 n11 n12 n13 (hb _ _ (ne _ h5) (e5 _ _ upd_same)) (hb _ _ (ne _ n6) (e6 _ _ upd_same)) (hb _ _ (ne _ n7) (e7 _ _ upd_same)) (hb _ _ (ne _ n11) (e11 _ _ upd_same)) (hb _ _ (ne _ n12) (e12 _ _ upd_same)) (hb _ _ (ne _ n13) (e13 _ _ upd_same)) j _ hz
    refine ⟨l3, _, _, _, rfl, rfl, SqL.of (hb _ _ (ne _ n3) upd_same), atI_nat hz, ?_⟩
    exact q j _ L' H' z.1 z.2 ((same_but e0).trans hb) hp' hL'
def spAlike (K : PySem.W.Frag) : Sp := fun vs H Q _ => ∃ (x y : V) (d e : PyData), vs = [x, y] ∧ RD K H x d ∧ RD K H y e ∧ Fit d ∧ Fit e ∧ Q (.bl (decide (V.str d.shown = V.str e.shown))) H
theorem scAlike : FnScope ["one", "other"] ["one", "other"] (defScope sAlike) := ⟨rfl, rfl, rfl, by decide +kernel, rfl, by decide +kernel, by decide +kernel⟩
theorem ok_alike {f : Addr} {fd : FuncData} (F : Fun K "_law_alike" "_law_alike" sAlike f fd) (zr : mg "repr" = none) : FnG P w K mg base CX0 1 f fd ["one", "other"] (spAlike K) := by
  refine funG F scAlike (fun vs H Q E h => ?_) (fun cdv A hG outer s H vs Q E hS hr h => ?_)
  · obtain ⟨x, y, d, e, rfl, _⟩ := h
    rfl
  · obtain ⟨x, y, d, e, rfl, hd, he, fd, fe, q⟩ := h
    have g : Gd (cxOf CX0 P w K mg base ["one", "other"] "_law_alike" (defScope sAlike) f cdv A outer s H E) := ⟨hG, hS, rfl⟩
    refine ⟨_, pss_one (ps_ret (pe_cmpR op_eq (pe_callB (call_reprD g hr) (by rfl) zr bt_repr (pa_cons (pv 0) pa_nil)) (pe_callB (call_reprD g hr) (by rfl) zr bt_repr (pa_cons (pv 1) pa_nil)) (nomark _))), ?_⟩
    exact ⟨_, rfl, x, d, rfl, hd, fd.show_, fd.size, Nat.le_trans fd.depth (by decide), _, rfl, y, e, rfl, he, fe.show_, fe.size, Nat.le_trans fe.depth (by decide), rfl, q⟩
end
end Paw

set_option maxRecDepth 100000
set_option maxHeartbeats 4000000
namespace Paw
open PySem PySem.Spec PyProof.Rows L2
theorem sqt_mono {K : PySem.W.Frag} {H H' : Hp} {a : Addr} {xs : List V} (e : Same H H') (h : SqT K H a xs) : SqT K H' a xs := by
  rcases h with (h | ⟨o, h⟩) | h
  · exact Or.inl (Or.inl (e _ _ h))
  · exact Or.inl (Or.inr ⟨o, e _ _ h⟩)
  · exact Or.inr h
mutual
theorem RD.mono {K : PySem.W.Frag} {H H' : Hp} (e : Same H H') : ∀ (d : PyData) (v : V), RD K H v d → RD K H' v d
  | .none, _, h => by cases h; exact .non
  | .bool b, _, h => by cases h; exact .bl b
  | .int i, _, h => by cases h; exact .int i
  | .str x, _, h => by cases h; exact .str x
  | .list ds, _, h => by
    cases h with
    | lst h hs => exact .lst (Same.seq e h) (RDs.mono e ds _ hs)
  | .tuple ds, _, h => by
    cases h with
    | tup h hs => exact .tup (sqt_mono e h) (RDs.mono e ds _ hs)
  | .dict ds, _, h => by
    cases h with
    | dic h hs => exact .dic (e _ _ h) (RDk.mono e ds _ hs)
theorem RDs.mono {K : PySem.W.Frag} {H H' : Hp} (e : Same H H') : ∀ (ds : List PyData) (vs : List V), RDs K H vs ds → RDs K H' vs ds
  | [], _, h => by cases h; exact .nil
  | d :: ds, _, h => by
    cases h with
    | cons h hs => exact .cons (RD.mono e d _ h) (RDs.mono e ds _ hs)
theorem RDk.mono {K : PySem.W.Frag} {H H' : Hp} (e : Same H H') : ∀ (ds : List (PyData × PyData)) (vs : List (Key × V)), RDk K H vs ds → RDk K H' vs ds
  | [], _, h => by cases h; exact .nil
  | (k, d) :: ds, _, h => by
    cases h with
    | cons h hs => exact .cons (RD.mono e d _ h) (RDk.mono e ds _ hs)
end
/-- the data of odd things -/
def oddD : Nat → PyData
  | 0 => .none
  | 1 => .bool true
  | 2 => .int 0
  | 3 => .str "A"
  | 4 => .str ""
  | 5 => .tuple []
  | 6 => .list []
  | 7 => .dict []
  | 8 => .str "a1"
  | 9 => .str "abcdefghi"
  | 10 => .int (-1)
  | 11 => .tuple [.str "a"]
  | 12 => .list [.str "a"]
  | 13 => .tuple [.int 1, .int 2]
  | 14 => .str "a b"
  | 15 => .str "1"
  | 16 => .str " a"
  | 17 => .str "a_"
  | 18 => .str "a\n"
  | _ => .bool false
theorem odd_lt {H : Hp} {v : V} : ∀ {j : Nat}, OddAt H v j → j < 20
  | 0, _ | 1, _ | 2, _ | 3, _ | 4, _ | 5, _ | 6, _ | 7, _ | 8, _ | 9, _ | 10, _ | 11, _ | 12, _ | 13, _ | 14, _ | 15, _ | 16, _ | 17, _ | 18, _ | 19, _ => by decide
  | _ + 20, h => h.elim
theorem odd_rd {K : PySem.W.Frag} {H : Hp} {v : V} : ∀ {j : Nat}, OddAt H v j → RD K H v (oddD j)
  | 0, h | 1, h | 2, h | 3, h | 4, h | 8, h | 9, h | 10, h | 14, h | 15, h | 16, h | 17, h | 18, h | 19, h => by
    cases h
    constructor
  | 5, h => by
    obtain ⟨t, rfl, h⟩ := h
    exact .tup (Or.inl (Or.inl h)) .nil
  | 6, h => by
    obtain ⟨t, rfl, h⟩ := h
    exact .lst (SqL.of h) .nil
  | 7, h => by
    obtain ⟨t, rfl, h⟩ := h
    exact .dic h .nil
  | 11, h => by
    obtain ⟨t, rfl, h⟩ := h
    exact .tup (Or.inl (Or.inl h)) (.cons (.str _) .nil)
  | 12, h => by
    obtain ⟨t, rfl, h⟩ := h
    exact .lst (SqL.of h) (.cons (.str _) .nil)
  | 13, h => by
    obtain ⟨t, rfl, h⟩ := h
    exact .tup (Or.inl (Or.inl h)) (.cons (.int _) (.cons (.int _) .nil))
  | _ + 20, h => h.elim
/-- small data: may stand in lists of data that are shown -/
def tinyD (d : PyData) : Bool := plainD d && d.showable && decide (siz d ≤ 200) && decide (d.depth ≤ 5)
theorem odd_small : ∀ j < 20, tinyD (oddD j) = true := by decide +kernel
/-- an odd thing stands in a part of the heap -/
theorem odd_part {G H : Hp} {v : V} {j : Nat} (h : OddAt H v j) (g : ∀ t o, v = .ref t → H t = some o → G t = some o) : OddAt G v j := by
  match j, h with
  | 0, h | 1, h | 2, h | 3, h | 4, h | 8, h | 9, h | 10, h | 14, h | 15, h | 16, h | 17, h | 18, h | 19, h => exact h
  | 5, ⟨t, e, h⟩ | 6, ⟨t, e, h⟩ | 7, ⟨t, e, h⟩ | 11, ⟨t, e, h⟩ | 12, ⟨t, e, h⟩ | 13, ⟨t, e, h⟩ => exact ⟨t, e, g _ _ e h⟩
  | _ + 20, h => exact h.elim
end Paw

set_option maxRecDepth 100000
set_option maxHeartbeats 4000000
namespace Paw
open PySem PySem.Spec PyProof.Rows L2
abbrev sIsInt : Stmt := top 11
abbrev sIsName : Stmt := top 12
abbrev sChkN : Stmt := top 13
abbrev sChkD : Stmt := top 14
theorem it_t {c : Bool} {A B : Prop} (hc : c = true) (h : A) : if c = true then A else B := by
  rw [if_pos hc]
  exact h
theorem it_f {c : Bool} {A B : Prop} (hc : c = false) (h : B) : if c = true then A else B := by
  rw [hc, if_neg Bool.false_ne_true]
  exact h
/-- a sign a to z -/
def okc (c : Nat) : Bool := decide (97 ≤ c) && decide (c ≤ 122)
def isS : PyData → Bool
  | .str _ => true
  | _ => false
def nameS (x : Str) : Bool := decide (1 ≤ x.length) && decide (x.length ≤ 8) && x.cps.toList.all okc
def isN : PyData → Bool
  | .str x => nameS x
  | _ => false
theorem kit_str {K : PySem.W.Frag} (d : PyData) : PySem.W.kitOne K (.type (kindOf d)) (.type "str") = some (isS d) := by
  cases d
  · exact kit_ty (a := "NoneType") (r := false) (by decide +kernel)
  · exact kit_ty (a := "bool") (r := false) (by decide +kernel)
  · exact kit_ty (a := "int") (r := false) (by decide +kernel)
  · exact kit_ty (a := "str") (r := true) (by decide +kernel)
  · exact kit_ty (a := "list") (r := false) (by decide +kernel)
  · exact kit_ty (a := "tuple") (r := false) (by decide +kernel)
  · exact kit_ty (a := "dict") (r := false) (by decide +kernel)
theorem sign_a : (("a" : Str)).cps.toList = [97] ∧ (("z" : Str)).cps.toList = [122] := by decide +kernel
theorem lt_one {a b : Nat} : decide (([a] : List Nat) < [b]) = decide (a < b) := by
  apply decide_eq_decide.mpr
  rw [List.cons_lt_cons_iff]
  constructor
  · rintro (h | ⟨_, h⟩)
    · exact h
    · exact absurd h (by simp)
  · exact fun h => .inl h
theorem okc_eq {c : Nat} : okc c = (!decide (((⟨#[c]⟩ : Str)).cps.toList < (("a" : Str)).cps.toList) && !decide ((("z" : Str)).cps.toList < ((⟨#[c]⟩ : Str)).cps.toList)) := by
  rw [sign_a.1, sign_a.2]
  show okc c = (!decide (([c] : List Nat) < [97]) && !decide (([122] : List Nat) < [c]))
  rw [lt_one, lt_one]
  unfold okc
  by_cases h1 : c < 97 <;> by_cases h2 : 122 < c <;> simp [h1, h2] <;> omega
theorem take_next {α : Type} {l : List α} {i : Nat} {v : α} (h : l[i]? = some v) : l.take (i + 1) = l.take i ++ [v] := by
  rw [List.take_succ, h]
  rfl
def spIsInt (K : PySem.W.Frag) : Sp := fun vs H Q _ => ∃ (x : V) (d : PyData), vs = [x] ∧ RD K H x d ∧ Q (.bl (isI d)) H
def LenOk (d : PyData) : Prop := ∀ z, d = .str z → z.length ≤ sizeLine
def spIsName (K : PySem.W.Frag) : Sp := fun vs H Q _ => ∃ (x : V) (d : PyData), vs = [x] ∧ RD K H x d ∧ LenOk d ∧ ∀ H', Same H H' → Q (.bl (isN d)) H'
section
variable {P : Program} {w : World} {K : PySem.W.Frag} {mg : Str → Option Value} {base : Heap}
theorem scIsInt : FnScope ["value"] ["value"] (defScope sIsInt) := ⟨rfl, rfl, rfl, by decide +kernel, rfl, by decide +kernel, by decide +kernel⟩
theorem ok_is_int {f : Addr} {fd : FuncData} (F : Fun K "is_int" "is_int" sIsInt f fd) (zs : mg "isinstance" = none) (zi : mg "int" = none) (zb : mg "bool" = none) : FnOk P w K mg base CX0 1 f fd ["value"] (spIsInt K) := by
  refine F.ok scIsInt (fun vs H Q E h => ?_) (fun cdv A outer s H vs Q E hr h => ?_)
  · obtain ⟨x, d, rfl, _⟩ := h
    rfl
  · obtain ⟨x, d, rfl, hd, q⟩ := h
    refine ⟨_, pss_one (ps_ret (pe_and (pe_callB call_isi (by rfl) zs bt_isinstance (pa_cons (pv 0) (pa_cons (pe_bltn (v := .ty "int") (by rfl) zi bt_int rfl) pa_nil)))
      (pe_one (pe_not (pe_callB call_isi (by rfl) zs bt_isinstance (pa_cons (pv 0) (pa_cons (pe_bltn (v := .ty "bool") (by rfl) zb bt_bool rfl) pa_nil))))))), ?_⟩
    refine ⟨_, rfl, x, .ty "int", _, _, _, rfl, .ty _, hd.ty, kit_int d, _, rfl, ?_⟩
    refine ite2 (fun h => ⟨_, rfl, x, .ty "bool", _, _, _, rfl, .ty _, hd.ty, kit_bool d, _, rfl, ?_⟩) (fun h => ?_)
    · have e : (!isB d) = isI d := by cases d <;> first | rfl | cases h
      rw [e]
      exact q
    · have e : false = isI d := by cases d <;> first | rfl | exact absurd rfl h
      rw [e]
      exact q
theorem scIsName : FnScope ["value", "letter"] ["value"] (defScope sIsName) := ⟨rfl, rfl, rfl, by decide +kernel, rfl, by decide +kernel, by decide +kernel⟩
theorem ok_is_name {f : Addr} {fd : FuncData} (F : Fun K "is_name" "is_name" sIsName f fd) (zs : mg "isinstance" = none) (zt : mg "str" = none) (zl : mg "len" = none) (za : mg "all" = none) : FnOk P w K mg base CX0 1 f fd ["value"] (spIsName K) := by
  refine F.ok scIsName (fun vs H Q E h => ?_) (fun cdv A outer s H vs Q E hr h => ?_)
  · obtain ⟨x, d, rfl, _⟩ := h
    rfl
  · obtain ⟨x, d, rfl, hd, hlen, q⟩ := h
    refine ⟨_, pss_cons (ps_if (PW.pt (pw_or (pt_not (pt_val (pe_callB call_isi (by rfl) zs bt_isinstance (pa_cons (pv 0) (pa_cons (pe_bltn (v := .ty "str") (by rfl) zt bt_str rfl) pa_nil)))))
        (pw_or1 (pt_not (pt_chain op_le op_le pe_int (pe_callB call_len_str (by rfl) zl bt_len (pa_cons (pv 0) pa_nil)) pe_int))))) (pss_one (ps_ret pe_bl)) pss_nil)
      (pss_one (ps_ret (pe_callB (cr_all rfl) (by rfl) za bt_all (pa_cons (pe_lc (own := [("letter", 1)]) (g := gName 1) (tt := tYes) (te := tChain (fun x y H Q => ∃ i j, x = .str i ∧ y = .str j ∧ Q (.bl (!decide (j.cps.toList < i.cps.toList))) H) (fun x y H Q => ∃ i j, x = .str i ∧ y = .str j ∧ Q (.bl (!decide (j.cps.toList < i.cps.toList))) H) (tC (.str "a")) (tVar 1) (tC (.str "z"))) rfl scIsName.nd (pi_str (pv 0)) (blkOk_by (N := ["value", "letter"]) (sc := defScope sIsName) (by decide +kernel))
        (fun _ _ _ _ _ => pg_name (i := 1) scIsName.nd rfl (Or.inl rfl)) (fun _ _ _ _ _ => pts_nil) (fun _ _ _ _ _ => pe_chain op_le_str op_le_str pe_str (pv 1) pe_str)) pa_nil)))), ?_⟩
    refine ⟨_, rfl, x, .ty "str", _, _, _, rfl, .ty _, hd.ty, kit_str d, _, rfl, ?_⟩
    by_cases hs : isS d = true
    · obtain ⟨z, rfl⟩ : ∃ z, d = .str z := by
        cases d with
        | str z => exact ⟨z, rfl⟩
        | _ => cases hs
      cases hd
      have hz := hlen z rfl
      have e : isN (.str z) = (decide (1 ≤ z.length) && decide (z.length ≤ 8) && z.cps.toList.all okc) := rfl
      rw [e] at q
      have same0 : Same H H := fun _ _ e => e
      refine ⟨_, rfl, z, rfl, hz, _, _, rfl, rfl, _, rfl, ?_⟩
      by_cases h1 : 1 ≤ z.length
      · refine it_t (decide_eq_true (by omega)) ?_
        rw [decide_eq_true h1, Bool.true_and] at q
        refine ⟨_, _, rfl, rfl, _, rfl, ?_⟩
        by_cases h8 : z.length ≤ 8
        · refine it_f (by rw [decide_eq_true (by omega : ((z.length : Nat) : Int) ≤ 8)]; rfl) ?_
          rw [decide_eq_true h8, Bool.true_and] at q
          refine ⟨_, rfl, z, rfl, fun D hD => ?_⟩
          refine lc_it (walk_str (z := z)) (fun i H' => Same H H' ∧ H' D = some (.lst ((z.cps.toList.map fun c => V.bl (okc c)).take i))) ⟨same_new hD, upd_same⟩ (fun _ _ _ _ => trivial) ?_ ?_
          · rintro i x H1 H2 hi ⟨s1, hD1⟩ ⟨rfl, c, hc, rfl⟩
            have hc' : (z.cps.toList.map fun c => V.bl (okc c))[i]? = some (V.bl (okc c)) := by
              rw [List.getElem?_map, Array.getElem?_toList, hc]
              rfl
            refine ⟨rfl, _, rfl, _, _, rfl, rfl, _, rfl, ?_⟩
            have fin : ∀ b : Bool, b = okc c → ∃ acc, H2 D = some (.lst acc) ∧ acc.length < sizeLine ∧ (Same H (upd H2 D (.lst (acc ++ [.bl b]))) ∧ (upd H2 D (.lst (acc ++ [.bl b]))) D = some (.lst ((z.cps.toList.map fun c => V.bl (okc c)).take (i + 1)))) := by
              rintro b rfl
              refine ⟨_, hD1, ?_, fun b o e => (upd_ne (ne_of_none e hD)).trans (s1 _ _ e), ?_⟩
              · rw [List.length_take]
                have : i < 9 := by
                  have hzz : z.cps.size = z.length := rfl
                  omega
                exact Nat.lt_of_le_of_lt (Nat.min_le_left _ _) (Nat.lt_of_lt_of_le this (by decide))
              · rw [take_next hc']
                exact upd_same
            have eo := okc_eq (c := c)
            cases k1 : (!decide (((⟨#[c]⟩ : Str)).cps.toList < (("a" : Str)).cps.toList)) with
            | true =>
              rw [k1, Bool.true_and] at eo
              exact ⟨_, _, rfl, rfl, fin _ eo.symm⟩
            | false =>
              rw [k1, Bool.false_and] at eo
              exact fin _ eo.symm
          · rintro H1 ⟨s1, hD1⟩
            have full : (z.cps.toList.map fun c => V.bl (okc c)).take z.cps.size = (z.cps.toList.map okc).map V.bl := by
              rw [List.take_of_length_le (by simp), List.map_map]
              rfl
            rw [full] at hD1
            refine ⟨D, _, rfl, SqL.of hD1, ?_⟩
            have e3 : (z.cps.toList.map okc).all id = z.cps.toList.all okc := by
              rw [List.all_map]
              rfl
            rw [e3]
            exact q _ s1
        · refine it_t (by rw [decide_eq_false (by omega : ¬ ((z.length : Nat) : Int) ≤ 8)]; rfl) ?_
          rw [decide_eq_false h8, Bool.false_and] at q
          exact q _ same0
      · refine it_f (decide_eq_false (by omega)) ?_
        rw [decide_eq_false h1, Bool.false_and, Bool.false_and] at q
        exact ⟨_, rfl, q _ same0⟩
    · have e : isN d = false := by cases d <;> first | exact absurd rfl hs | rfl
      have e2 : isS d = false := Bool.eq_false_iff.mpr hs
      rw [e] at q
      rw [e2]
      exact q _ fun _ _ e => e
end
end Paw

set_option maxRecDepth 100000
set_option maxHeartbeats 4000000
namespace Paw
open PySem PySem.Spec PyProof.Rows L2
abbrev sCkN : Stmt := top 24
abbrev sCkT : Stmt := top 25
/-- the first one that is not as it must be -/
def firstNo (ok : PyData → Bool) : List V → List PyData → Option V
  | v :: vs, d :: ds => if ok d then firstNo ok vs ds else some v
  | _, _ => none
theorem firstNo_at {ok : PyData → Bool} {xs : List V} {ds : List PyData} {i : Nat} {x : V} {d : PyData} (hx : xs[i]? = some x) (hd : ds[i]? = some d) : firstNo ok (xs.drop i) (ds.drop i) = if ok d then firstNo ok (xs.drop (i + 1)) (ds.drop (i + 1)) else some x := by
  obtain ⟨h1, e1⟩ := List.getElem?_eq_some_iff.mp hx
  obtain ⟨h2, e2⟩ := List.getElem?_eq_some_iff.mp hd
  rw [List.drop_eq_getElem_cons h1, List.drop_eq_getElem_cons h2, e1, e2]
  rfl
theorem firstNo_all {ok : PyData → Bool} : ∀ {xs : List V} {ds : List PyData}, xs.length = ds.length → firstNo ok xs ds = none → ∀ d ∈ ds, ok d = true
  | [], [], _, _ => fun _ z => nomatch z
  | x :: xs, d :: ds, hl, h => by
    have e : firstNo ok (x :: xs) (d :: ds) = if ok d then firstNo ok xs ds else some x := rfl
    rw [e] at h
    cases hd : ok d with
    | false =>
      rw [hd] at h
      cases h
    | true =>
      rw [hd, if_pos rfl] at h
      intro y hy
      rcases List.mem_cons.mp hy with rfl | hy
      · exact hd
      · exact firstNo_all (Nat.succ.inj hl) h y hy
/-- the first name that stands before it, too -/
def dup : List Str → List Str → Option Str
  | _, [] => none
  | seen, s :: r => if decide (s ∈ seen) then some s else dup (seen ++ [s]) r
theorem dup_at {ss : List Str} {i : Nat} {s : Str} (h : ss[i]? = some s) : dup (ss.take i) (ss.drop i) = if decide (s ∈ ss.take i) then some s else dup (ss.take (i + 1)) (ss.drop (i + 1)) := by
  obtain ⟨h1, e1⟩ := List.getElem?_eq_some_iff.mp h
  rw [List.drop_eq_getElem_cons h1, e1, take_next h]
  rfl
theorem inV_str {s : Str} : ∀ ss : List Str, inV (.str s) (ss.map V.str) = decide (s ∈ ss)
  | [] => by
    show false = _
    simp
  | t :: ss => by
    have e : inV (.str s) ((t :: ss).map V.str) = (eqV (.str t) (.str s) || inV (.str s) (ss.map V.str)) := rfl
    have e2 : eqV (.str t) (.str s) = (t == s) := rfl
    rw [e, inV_str ss, e2]
    by_cases h : t = s
    · subst h
      simp
    · have n : (t == s) = false := by simpa using h
      rw [n, Bool.false_or]
      apply decide_eq_decide.mpr
      constructor
      · exact fun z => List.mem_cons_of_mem _ z
      · intro z
        rcases List.mem_cons.mp z with z | z
        · exact absurd z.symm h
        · exact z
theorem flat_strs (ss : List Str) : (ss.map V.str).all flatV = true := by
  rw [List.all_eq_true]
  intro x hx
  obtain ⟨s, _, rfl⟩ := List.mem_map.mp hx
  rfl
theorem cut_take {xs : List V} {i : Nat} (h : i ≤ xs.length) : cutV xs none (some (i : Int)) = xs.take i := by
  unfold cutV
  rw [HT.sIx_none, HT.sIx_nat, List.drop_zero, Nat.sub_zero, Nat.min_eq_left h]
def spChkN (K : PySem.W.Frag) (C : Addr) : Sp := fun vs H Q E => ∃ (p : Addr) (xs : List V) (ds : List PyData), vs = [.ref p] ∧ SqT K H p xs ∧ RDs K H xs ds ∧ (∀ d ∈ ds, LenOk d) ∧ (∀ v, firstNo isN xs ds = some v → Thrown "name" C v H E) ∧ (firstNo isN xs ds = none → ∀ H', Same H H' → Q .non H')
def spChkD (K : PySem.W.Frag) (C : Addr) : Sp := fun vs H Q E => ∃ (p : Addr) (ss : List Str), vs = [.ref p] ∧ SqT K H p (ss.map V.str) ∧ (∀ s, dup [] ss = some s → Thrown "name" C (.str s) H E) ∧ (dup [] ss = none → ∀ H', Same H H' → Q .non H')
theorem sqt_mono' {K : PySem.W.Frag} {H H' : Hp} {a : Addr} {xs : List V} (e : Same H H') (h : SqT K H a xs) : SqT K H' a xs := sqt_mono e h
theorem one_le {x : V} : [x].length ≤ 1000 := by
  show 1 ≤ 1000
  decide
theorem RDs.length {K : PySem.W.Frag} {H : Hp} : ∀ {xs : List V} {ds : List PyData}, RDs K H xs ds → xs.length = ds.length
  | [], _, h => by
    cases h
    rfl
  | x :: xs, _, h => by
    cases h with
    | cons h1 h2 => rw [List.length_cons, List.length_cons, RDs.length h2]
theorem RDs.at_ {K : PySem.W.Frag} {H : Hp} : ∀ {xs : List V} {ds : List PyData} {i : Nat} {x : V}, RDs K H xs ds → xs[i]? = some x → ∃ d, ds[i]? = some d ∧ RD K H x d
  | [], _, i, x, h, e => by
    cases i <;> cases e
  | y :: xs, _, i, x, h, e => by
    cases h with
    | @cons _ _ d ds h1 h2 =>
      cases i with
      | zero =>
        cases e
        exact ⟨d, rfl, h1⟩
      | succ i => exact RDs.at_ (i := i) h2 e
section
variable {P : Program} {w : World} {K : PySem.W.Frag} {mg : Str → Option Value} {base : Heap}
theorem scChkN : FnScope ["names", "name"] ["names"] (defScope sChkN) := ⟨rfl, rfl, rfl, by decide +kernel, rfl, by decide +kernel, by decide +kernel⟩
theorem ok_check_names {C f fI : Addr} {fd fdI : FuncData} (F : Fun K "check_names" "check_names" sChkN f fd) (T : Kv P w K mg base "NoName" "name" C)
    (GI : FnOk P w K mg base CX0 1 fI fdI ["value"] (spIsName K)) (gI : mg "is_name" = some (.ref fI)) (kI : PySem.W.keepIn K (.ref fI) = true) (bI : Binds K fdI ["value"] []) : FnOk P w K mg base (L2.CX P w) 3 f fd ["names"] (spChkN K C) := by
  refine F.okX scChkN (fun vs H Q E h => ?_) (fun cdv A outer s H vs Q E hr h => ?_)
  · obtain ⟨p, xs, ds, rfl, _⟩ := h
    rfl
  · obtain ⟨p, xs, ds, rfl, hS, hds, lens, bad, q⟩ := h
    refine ⟨_, pss_one (ps_for (passes_of rfl) rfl (pi_tup (pv 0)) (pg_name (i := 1) scChkN.nd rfl (Or.inl rfl)) (pss_one (ps_if (pt_not (pt_val (pe_call GI (hr.mono (by decide)) rfl gI kI bI .nil pass0 (pa_cons (pv 1) pa_nil)))) (pss_one (ps_throw T hr rfl (takes_of rfl rfl rfl rfl) rfl (pv 1))) pss_nil))), ?_⟩
    have hl := hds.length
    refine ⟨_, rfl, p, rfl, ⟨xs, hS⟩, for_tup (xs := xs) (fun i σ H' => Same H H' ∧ (∃ v1 : Option V, σ = [some (.ref p), v1]) ∧ firstNo isN xs ds = firstNo isN (xs.drop i) (ds.drop i)) ⟨fun _ _ e => e, ⟨none, rfl⟩, rfl⟩ (fun i σ H' _ hP => sqt_mono hP.1 hS) ?_ ?_⟩
    · rintro i x σ H' hx ⟨s', ⟨v1, rfl⟩, e⟩
      obtain ⟨d, hd, rd⟩ := hds.at_ hx
      refine ⟨_, rfl, x, d, rfl, RD.mono s' _ _ rd, lens d (List.mem_of_getElem? hd), fun H2 s2 => ⟨_, rfl, ?_⟩⟩
      rw [firstNo_at hx hd] at e
      cases hF : isN d with
      | false =>
        rw [hF, if_neg Bool.false_ne_true] at e
        exact ⟨_, rfl, one_le, thrown_mk T.v.oex T.no ((bad x e).mono (s'.trans s2))⟩
      | true =>
        rw [hF, if_pos rfl] at e
        exact ⟨s'.trans s2, ⟨some x, rfl⟩, e⟩
    · rintro σ H' ⟨s', _, e⟩
      refine q ?_ H' s'
      rw [e, List.drop_length]
      unfold firstNo
      rfl
theorem scChkD : FnScope ["names", "at", "name"] ["names"] (defScope sChkD) := ⟨rfl, rfl, rfl, by decide +kernel, rfl, by decide +kernel, by decide +kernel⟩
theorem ok_check_distinct {C f : Addr} {fd : FuncData} (F : Fun K "check_distinct" "check_distinct" sChkD f fd) (T : Kv P w K mg base "Twice" "name" C) (ze : mg "enumerate" = none) : FnOk P w K mg base (L2.CX P w) 3 f fd ["names"] (spChkD K C) := by
  refine F.okX scChkD (fun vs H Q E h => ?_) (fun cdv A outer s H vs Q E hr h => ?_)
  · obtain ⟨p, ss, rfl, _⟩ := h
    rfl
  · obtain ⟨p, ss, rfl, hS, bad, q⟩ := h
    refine ⟨_, pss_one (ps_for (passes_of rfl) rfl (pi_enumT rfl ze (pa_cons (pv 0) pa_nil)) (pg_tup rfl (pgs_cons (pg_name (i := 1) scChkD.nd rfl (Or.inl rfl)) (pgs_cons (pg_name (i := 2) scChkD.nd rfl (Or.inl rfl)) pgs_nil)))
      (pss_one (ps_if (pt_cmpR op_in_seq (pv 2) (pe_slice sl_tup (pv 0) po_none (po_some (pv 1))) (by rfl)) (pss_one (ps_throw T hr rfl (takes_of rfl rfl rfl rfl) rfl (pv 2))) pss_nil))), ?_⟩
    refine ⟨_, rfl, p, _, rfl, hS, for_it (walk_enumT (xs := ss.map V.str)) (fun i σ H' => Same H H' ∧ (∃ v1 v2 : Option V, σ = [some (.ref p), v1, v2]) ∧ dup [] ss = dup (ss.take i) (ss.drop i)) ⟨fun _ _ e => e, ⟨none, none, rfl⟩, rfl⟩ (fun i σ H' _ hP => sqt_mono hP.1 hS) ?_ ?_⟩
    · rintro i x σ H1 H2 hi ⟨s1, ⟨v1, v2, rfl⟩, e⟩ ⟨T0, u, t, rfl, hT, rfl, e1, e2⟩
      have e2 : (ss.map V.str)[i]? = some t := e2
      cases e1
      rw [List.getElem?_map] at e2
      obtain ⟨z, hz, rfl⟩ := Option.map_eq_some_iff.mp e2
      have sT := same_new (o := .tup [.int (i : Int), .str z]) hT
      have hi' : i < ss.length := (List.getElem?_eq_some_iff.mp hz).1
      have hl : (ss.map V.str).length = ss.length := List.length_map _
      refine ⟨T0, _, rfl, SqT.of upd_same, rfl, _, _, rfl, _, _, rfl, rfl, _, rfl, _, rfl, _, rfl, ?_⟩
      refine ⟨_, rfl, p, _, rfl, sqt_mono (s1.trans sT) hS, ?_, fun q1 hq1 => ?_⟩
      · rintro ⟨_, w2⟩
        rw [HT.sIx_nat, hl] at w2
        omega
      · rw [cut_take (by rw [hl]; omega), ← List.map_take]
        refine ⟨q1, _, rfl, .inr (SqT.of upd_same), rfl, flat_strs _, _, rfl, ?_⟩
        have sQ := same_new (o := .tup ((ss.take i).map V.str)) hq1
        rw [dup_at hz] at e
        have einv : (if false = true then !inV (.str z) ((ss.take i).map V.str) else inV (.str z) ((ss.take i).map V.str)) = decide (z ∈ ss.take i) := (if_neg Bool.false_ne_true).trans (inV_str _)
        rw [einv]
        cases hm : decide (z ∈ ss.take i) with
        | true =>
          rw [hm, if_pos rfl] at e
          exact ⟨_, rfl, one_le, thrown_mk T.v.oex T.no ((bad z e).mono ((s1.trans sT).trans sQ))⟩
        | false =>
          rw [hm, if_neg Bool.false_ne_true] at e
          exact ⟨(s1.trans sT).trans sQ, ⟨_, _, rfl⟩, e⟩
    · rintro σ H1 ⟨s1, _, e⟩
      refine q ?_ H1 s1
      have hl : (ss.map V.str).length = ss.length := List.length_map _
      rw [e, hl, List.drop_length]
      unfold dup
      rfl
end
end Paw

set_option maxRecDepth 100000
set_option maxHeartbeats 4000000
namespace Paw
open PySem PySem.Spec PyProof.Rows L2
def okT : PyData → Bool
  | .int i => decide (1 ≤ i)
  | _ => false
theorem strs_of {K : PySem.W.Frag} {H : Hp} : ∀ {xs : List V} {ds : List PyData}, RDs K H xs ds → (∀ d ∈ ds, isN d = true) → ∃ ss : List Str, xs = ss.map V.str
  | [], _, _, _ => ⟨[], rfl⟩
  | x :: xs, _, h, ok => by
    cases h with
    | @cons _ _ d ds h1 h2 =>
      obtain ⟨ss, e⟩ := strs_of h2 fun y hy => ok y (List.mem_cons_of_mem _ hy)
      have z := ok d List.mem_cons_self
      cases h1 with
      | str s => exact ⟨s :: ss, by rw [e]; rfl⟩
      | _ => cases z
theorem ints_of {K : PySem.W.Frag} {H : Hp} : ∀ {xs : List V} {ds : List PyData}, RDs K H xs ds → (∀ d ∈ ds, okT d = true) → ∃ ns : List Int, xs = ns.map V.int
  | [], _, _, _ => ⟨[], rfl⟩
  | x :: xs, _, h, ok => by
    cases h with
    | @cons _ _ d ds h1 h2 =>
      obtain ⟨ss, e⟩ := ints_of h2 fun y hy => ok y (List.mem_cons_of_mem _ hy)
      have z := ok d List.mem_cons_self
      cases h1 with
      | int s => exact ⟨s :: ss, by rw [e]; rfl⟩
      | _ => cases z
/-- .. of what a def with a star gets -/
def spCN (K : PySem.W.Frag) (C1 C2 : Addr) : Sp := fun vs H Q E => ∃ ds : List PyData, RDs K H vs ds ∧ (∀ d ∈ ds, LenOk d) ∧ vs.length ≤ 10 ∧ (∀ v, firstNo isN vs ds = some v → Thrown "name" C1 v H E) ∧
  (firstNo isN vs ds = none → ∀ ss : List Str, vs = ss.map V.str → (∀ s, dup [] ss = some s → Thrown "name" C2 (.str s) H E) ∧ (dup [] ss = none → ∀ q H', Same H H' → H q = none → H' q = some (.tup vs) → Q (.ref q) H'))
def spCNi (K : PySem.W.Frag) (C1 C2 : Addr) : Sp := fun vs H Q E => ∃ (p : Addr) (xs : List V) (ds : List PyData), vs = [.ref p] ∧ H p = some (.tup xs) ∧ RDs K H xs ds ∧ (∀ d ∈ ds, LenOk d) ∧ xs.length ≤ 10 ∧ (∀ v, firstNo isN xs ds = some v → Thrown "name" C1 v H E) ∧
  (firstNo isN xs ds = none → ∀ ss : List Str, xs = ss.map V.str → (∀ s, dup [] ss = some s → Thrown "name" C2 (.str s) H E) ∧ (dup [] ss = none → ∀ q H', Same H H' → H q = none → H' q = some (.tup xs) → Q (.ref q) H'))
def spCT (K : PySem.W.Frag) (C : Addr) : Sp := fun vs H Q E => ∃ ds : List PyData, RDs K H vs ds ∧ vs.length ≤ 10 ∧ (∀ v, firstNo okT vs ds = some v → Thrown "value" C v H E) ∧
  (firstNo okT vs ds = none → ∀ q H', Same H H' → H q = none → H' q = some (.tup vs) → Q (.ref q) H')
def spCTi (K : PySem.W.Frag) (C : Addr) : Sp := fun vs H Q E => ∃ (p : Addr) (xs : List V) (ds : List PyData), vs = [.ref p] ∧ H p = some (.tup xs) ∧ RDs K H xs ds ∧ xs.length ≤ 10 ∧ (∀ v, firstNo okT xs ds = some v → Thrown "value" C v H E) ∧
  (firstNo okT xs ds = none → ∀ q H', Same H H' → H q = none → H' q = some (.tup xs) → Q (.ref q) H')
section
variable {P : Program} {w : World} {K : PySem.W.Frag} {mg : Str → Option Value} {base : Heap}
theorem FnR.weaken {CX : CXT} {k : Nat} {f : Addr} {sp sp' : Sp} (F : FnR P w K mg base CX k f sp) (h : ∀ vs H Q E, sp' vs H Q E → sp vs H Q E) : FnR P w K mg base CX k f sp' :=
  fun A outer s H us vs Q E hr e0 r q => F A outer s H us vs Q E hr e0 r (h vs H Q E q)
theorem scCkN : FnScope ["names", "name"] ["names"] (defScope sCkN) := ⟨rfl, rfl, rfl, by decide +kernel, rfl, by decide +kernel, by decide +kernel⟩
theorem ok_cnIn {C1 C2 f fN fD : Addr} {fdN fdD : FuncData} {cdv : Value}
    (GN : FnOk P w K mg base (L2.CX P w) 3 fN fdN ["names"] (spChkN K C1)) (gN : mg "check_names" = some (.ref fN)) (kN : PySem.W.keepIn K (.ref fN) = true) (bN : Binds K fdN ["names"] [])
    (GD : FnOk P w K mg base (L2.CX P w) 3 fD fdD ["names"] (spChkD K C2)) (gD : mg "check_distinct" = some (.ref fD)) (kD : PySem.W.keepIn K (.ref fD) = true) (bD : Binds K fdD ["names"] []) (zs : mg "str" = none) (zt : mg "tuple" = none) :
    ∀ (A : Around) (outer : List Env) (s : Shared) (H : Hp) (vs : List V) (Q : VK) (E : XK), Room 3 (A.deeper (envOfC "_checked_names" (defScope sCkN) s.heap.objs.size f cdv)) → spCNi K C1 C2 vs H Q E →
      ∃ t, PSs (cxOf (L2.CX P w) P w K mg base ["names", "name"] "_checked_names" (defScope sCkN) f cdv A outer s H E) (defBody sCkN) t ∧ t { nx := fun _ H' => Q .non H', rt := Q } (start ["names", "name"] vs) H := by
  rintro A outer s H vs Q E hr ⟨p, xs, ds, rfl, hp, hds, lens, many, bad, q⟩
  refine ⟨_, pss_cons (ps_expr (pe_callS GN hr rfl gN kN bN (fun σ => passAt (takes_of rfl rfl rfl rfl) σ) (pa_cons (pv 0) pa_nil)))
    (pss_cons (ps_expr (pe_callS GD hr rfl gD kD bD (fun σ => passAt (takes_of rfl rfl rfl rfl) σ) (pa_cons (pv 0) pa_nil)))
    (pss_one (ps_ret (pe_tupleOf rfl zt (pe_lc (own := [("name", 1)]) (g := gName 1) (tt := tYes) rfl scCkN.nd (pi_tup (pv 0)) (blkOk_by (N := ["names", "name"]) (sc := defScope sCkN) (by decide +kernel)) (fun _ _ _ _ _ => pg_name (i := 1) scCkN.nd rfl (Or.inl rfl)) (fun _ _ _ _ _ => pts_nil)
      (fun _ _ _ _ _ => pe_callTy SkE.call_str_str (by rfl) zs bt_str (pa_cons (pv 1) pa_nil))))))), ?_⟩
  refine ⟨_, rfl, p, xs, ds, rfl, SqT.of hp, hds, lens, bad, fun hb H1 s1 => ?_⟩
  obtain ⟨ss, rfl⟩ := strs_of hds (firstNo_all hds.length hb)
  obtain ⟨q1, q2⟩ := q hb ss rfl
  refine ⟨_, rfl, p, ss, rfl, SqT.of (s1 _ _ hp), fun z hz => (q1 z hz).mono s1, fun hd H2 s2 => ?_⟩
  have s12 := s1.trans s2
  refine ⟨_, rfl, p, rfl, ⟨_, SqT.of (s12 _ _ hp)⟩, fun D hD => lc_tup (xs := ss.map V.str) (fun i H' => Same H2 H' ∧ H' D = some (.lst ((ss.map V.str).take i))) ⟨same_new hD, upd_same⟩ (fun i H' _ h => SqT.of (h.1 _ _ (s12 _ _ hp))) (fun i x H' hi h => ?_) (fun H' h => ?_)⟩
  · have hi2 := hi
    rw [List.getElem?_map] at hi2
    obtain ⟨z, hz, rfl⟩ := Option.map_eq_some_iff.mp hi2
    refine ⟨rfl, _, rfl, z, rfl, _, h.2, ?_, fun b o e => (upd_ne (ne_of_none e hD)).trans (h.1 b o e), ?_⟩
    · rw [List.length_take]
      have hl := (List.getElem?_eq_some_iff.mp hi).1
      exact Nat.lt_of_le_of_lt (Nat.min_le_left _ _) (Nat.lt_of_lt_of_le (by omega : i < 11) (by decide))
    · rw [take_next hi]
      exact upd_same
  · obtain ⟨s3, hD3⟩ := h
    rw [List.take_length] at hD3
    exact .inl ⟨D, _, rfl, SqL.of hD3, fun q3 hq3 => q2 hd q3 _ ((s12.trans s3).trans (same_new hq3)) ((s12.trans s3).free hq3) upd_same⟩
theorem cn_in {C1 C2 : Addr} : ∀ vs H Q E, spCN K C1 C2 vs H Q E → ∃ ws rest, vs = ws ++ rest ∧ ws.length = ([] : List Str).length ∧ rest.length ≤ sizeLine ∧ ∀ p, H p = none → spCNi K C1 C2 (ws ++ [V.ref p]) (upd H p (.tup rest)) Q E := by
  rintro vs H Q E ⟨ds, hds, lens, many, bad, q⟩
  refine ⟨[], vs, rfl, rfl, Nat.le_trans many (by decide), fun p hp => ?_⟩
  have s := same_new (o := .tup vs) hp
  refine ⟨p, vs, ds, rfl, upd_same, RDs.mono s ds vs hds, lens, many, fun v hv => (bad v hv).mono s, fun hb ss e => ?_⟩
  obtain ⟨q1, q2⟩ := q hb ss e
  exact ⟨fun z hz => (q1 z hz).mono s, fun hd q1 H' s' h1 h2 => q2 hd q1 H' (s.trans s') (s.free h1) h2⟩
theorem ok_checked_names {C1 C2 f fN fD : Addr} {fd fdN fdD : FuncData} (F : Fun K "_checked_names" "_checked_names" sCkN f fd)
    (GN : FnOk P w K mg base (L2.CX P w) 3 fN fdN ["names"] (spChkN K C1)) (gN : mg "check_names" = some (.ref fN)) (kN : PySem.W.keepIn K (.ref fN) = true) (bN : Binds K fdN ["names"] [])
    (GD : FnOk P w K mg base (L2.CX P w) 3 fD fdD ["names"] (spChkD K C2)) (gD : mg "check_distinct" = some (.ref fD)) (kD : PySem.W.keepIn K (.ref fD) = true) (bD : Binds K fdD ["names"] []) (zs : mg "str" = none) (zt : mg "tuple" = none) : FnR P w K mg base (L2.CX P w) 4 f (spCN K C1 C2) := by
  obtain ⟨oc, od, kV, doc, pm, an, cdv, ct, osl, rfl, lk, hcd⟩ := F.ex
  refine FnR.weaken (StX.fn_star (ps := []) (pv := "names") (sp := spCNi K C1 C2) lk hcd scCkN StX.cxUp (fun us rest hl => ?_) (ok_cnIn GN gN kN bN GD gD kD bD zs zt)) cn_in
  match us, rest, hl with
  | [], [], _ => rfl
  | [], _ :: _, _ => rfl
theorem scCkT : FnScope ["teeth", "value"] ["teeth"] (defScope sCkT) := ⟨rfl, rfl, rfl, by decide +kernel, rfl, by decide +kernel, by decide +kernel⟩
theorem ok_ctIn {C f fI : Addr} {fdI : FuncData} {cdv : Value} (T : Kv P w K mg base "NoTeeth" "value" C)
    (GI : FnOk P w K mg base CX0 1 fI fdI ["value"] (spIsInt K)) (gI : mg "is_int" = some (.ref fI)) (kI : PySem.W.keepIn K (.ref fI) = true) (bI : Binds K fdI ["value"] []) (zi : mg "int" = none) (zt : mg "tuple" = none) :
    ∀ (A : Around) (outer : List Env) (s : Shared) (H : Hp) (vs : List V) (Q : VK) (E : XK), Room 3 (A.deeper (envOfC "_checked_teeth" (defScope sCkT) s.heap.objs.size f cdv)) → spCTi K C vs H Q E →
      ∃ t, PSs (cxOf (L2.CX P w) P w K mg base ["teeth", "value"] "_checked_teeth" (defScope sCkT) f cdv A outer s H E) (defBody sCkT) t ∧ t { nx := fun _ H' => Q .non H', rt := Q } (start ["teeth", "value"] vs) H := by
  rintro A outer s H vs Q E hr ⟨p, xs, ds, rfl, hp, hds, many, bad, q⟩
  have hr1 := hr.mono (show 1 ≤ 3 by decide)
  have hr2 := hr.mono (show 2 ≤ 3 by decide)
  refine ⟨_, pss_cons (ps_for (passes_of rfl) rfl (pi_tup (pv 0)) (pg_name (i := 1) scCkT.nd rfl (Or.inl rfl)) (pss_one (ps_if (PW.pt (pw_or (pt_not (pt_val (pe_call GI hr1 rfl gI kI bI .nil pass0 (pa_cons (pv 1) pa_nil)))) (pw_or1 (pt_cmpR op_lt (pv 1) pe_int (nomark _)))))
      (pss_one (ps_throw T hr2 rfl (takes_of rfl rfl rfl rfl) rfl (pv 1))) pss_nil)))
    (pss_one (ps_ret (pe_tupleOf rfl zt (pe_lc (own := [("value", 1)]) (g := gName 1) (tt := tYes) rfl scCkT.nd (pi_tup (pv 0)) (blkOk_by (N := ["teeth", "value"]) (sc := defScope sCkT) (by decide +kernel)) (fun _ _ _ _ _ => pg_name (i := 1) scCkT.nd rfl (Or.inl rfl)) (fun _ _ _ _ _ => pts_nil)
      (fun _ _ _ _ _ => pe_callTy call_int1 (by rfl) zi bt_int (pa_cons (pv 1) pa_nil)))))), ?_⟩
  have hl := hds.length
  refine ⟨_, rfl, p, rfl, ⟨xs, SqT.of hp⟩, for_tup (xs := xs) (fun i σ H' => H' = H ∧ (∃ v1 : Option V, σ = [some (.ref p), v1]) ∧ firstNo okT xs ds = firstNo okT (xs.drop i) (ds.drop i)) ⟨rfl, ⟨none, rfl⟩, rfl⟩ (fun i σ H' _ hP => by rw [hP.1]; exact SqT.of hp) ?_ ?_⟩
  · rintro i x σ H' hx ⟨rfl, ⟨v1, rfl⟩, e⟩
    obtain ⟨d, hd, rd⟩ := hds.at_ hx
    rw [firstNo_at hx hd] at e
    refine ⟨_, rfl, x, d, rfl, rd, _, rfl, ?_⟩
    cases hI : isI d with
    | false =>
      have hF : okT d = false := by cases d <;> first | rfl | cases hI
      rw [hF, if_neg Bool.false_ne_true] at e
      exact ⟨_, rfl, one_le, thrown_mk T.v.oex T.no (bad x e)⟩
    | true =>
      obtain ⟨n, rfl⟩ : ∃ n, d = .int n := by
        cases d with
        | int n => exact ⟨n, rfl⟩
        | _ => cases hI
      cases rd
      refine ⟨_, rfl, _, _, rfl, rfl, _, rfl, ?_⟩
      by_cases h1 : 1 ≤ n
      · rw [show okT (.int n) = true from decide_eq_true h1, if_pos rfl] at e
        refine it_f (decide_eq_false (by omega)) ?_
        exact ⟨rfl, ⟨_, rfl⟩, e⟩
      · rw [show okT (.int n) = false from decide_eq_false h1, if_neg Bool.false_ne_true] at e
        refine it_t (decide_eq_true (by omega)) ?_
        exact ⟨_, rfl, one_le, thrown_mk T.v.oex T.no (bad _ e)⟩
  · rintro σ H' ⟨rfl, ⟨v1, rfl⟩, e⟩
    have hb : firstNo okT xs ds = none := by
      rw [e, List.drop_length]
      unfold firstNo
      rfl
    have qq := q hb
    obtain ⟨ns, rfl⟩ := ints_of hds (firstNo_all hl hb)
    refine ⟨_, rfl, p, rfl, ⟨_, SqT.of hp⟩, fun D hD => lc_tup (xs := ns.map V.int) (fun i H2 => Same H' H2 ∧ H2 D = some (.lst ((ns.map V.int).take i))) ⟨same_new hD, upd_same⟩ (fun i H2 _ h => SqT.of (h.1 _ _ hp)) (fun i x H2 hi h => ?_) (fun H2 h => ?_)⟩
    · have hi2 := hi
      rw [List.getElem?_map] at hi2
      obtain ⟨z, hz, rfl⟩ := Option.map_eq_some_iff.mp hi2
      refine ⟨rfl, _, rfl, .inl ⟨_, rfl, _, h.2, ?_, fun b o e => (upd_ne (ne_of_none e hD)).trans (h.1 b o e), ?_⟩⟩
      · rw [List.length_take]
        have hl := (List.getElem?_eq_some_iff.mp hi).1
        exact Nat.lt_of_le_of_lt (Nat.min_le_left _ _) (Nat.lt_of_lt_of_le (by omega : i < 11) (by decide))
      · rw [take_next hi]
        exact upd_same
    · obtain ⟨s3, hD3⟩ := h
      rw [List.take_length] at hD3
      exact .inl ⟨D, _, rfl, SqL.of hD3, fun q3 hq3 => qq q3 _ (s3.trans (same_new hq3)) (s3.free hq3) upd_same⟩
theorem ct_in {C : Addr} : ∀ vs H Q E, spCT K C vs H Q E → ∃ ws rest, vs = ws ++ rest ∧ ws.length = ([] : List Str).length ∧ rest.length ≤ sizeLine ∧ ∀ p, H p = none → spCTi K C (ws ++ [V.ref p]) (upd H p (.tup rest)) Q E := by
  rintro vs H Q E ⟨ds, hds, many, bad, q⟩
  refine ⟨[], vs, rfl, rfl, Nat.le_trans many (by decide), fun p hp => ?_⟩
  have s := same_new (o := .tup vs) hp
  exact ⟨p, vs, ds, rfl, upd_same, RDs.mono s ds vs hds, many, fun v hv => (bad v hv).mono s, fun hb q1 H' s' h1 h2 => q hb q1 H' (s.trans s') (s.free h1) h2⟩
theorem ok_checked_teeth {C f fI : Addr} {fd fdI : FuncData} (F : Fun K "_checked_teeth" "_checked_teeth" sCkT f fd) (T : Kv P w K mg base "NoTeeth" "value" C)
    (GI : FnOk P w K mg base CX0 1 fI fdI ["value"] (spIsInt K)) (gI : mg "is_int" = some (.ref fI)) (kI : PySem.W.keepIn K (.ref fI) = true) (bI : Binds K fdI ["value"] []) (zi : mg "int" = none) (zt : mg "tuple" = none) : FnR P w K mg base (L2.CX P w) 4 f (spCT K C) := by
  obtain ⟨oc, od, kV, doc, pm, an, cdv, ct, osl, rfl, lk, hcd⟩ := F.ex
  refine FnR.weaken (StX.fn_star (ps := []) (pv := "teeth") (sp := spCTi K C) lk hcd scCkT StX.cxUp (fun us rest hl => ?_) (ok_ctIn T GI gI kI bI zi zt)) ct_in
  match us, rest, hl with
  | [], [], _ => rfl
  | [], _ :: _, _ => rfl
end
end Paw

set_option maxRecDepth 100000
set_option maxHeartbeats 4000000
namespace Paw
open PySem PySem.Spec PyProof.Rows L2
abbrev sMesh : Stmt := inClass (top 17) 0
abbrev sDiff : Stmt := inClass (top 19) 0
abbrev sBrake : Stmt := inClass (top 20) 0
abbrev sFree : Stmt := inClass (top 23) 0
/-- an object just made, its class, and the heap G ahead of it -/
structure SelfAt (K : PySem.W.Frag) (G H : Hp) (x C dx : Addr) : Prop where
  s : Same G H
  n : G x = none
  at_ : H x = some (.ins C dx [])
  c : Cls K C
  a1 : NoAttr K C "_names"
  a2 : NoAttr K C "_teeth"
/-- names are as they must be, or an error says why not -/
def NamesGo (C1 C2 : Addr) (G : Hp) (E : XK) (xs : List V) (ds : List PyData) (k : Prop) : Prop := (∀ v, firstNo isN xs ds = some v → Thrown "name" C1 v G E) ∧
  (firstNo isN xs ds = none → ∀ ss : List Str, xs = ss.map V.str → (∀ s, dup [] ss = some s → Thrown "name" C2 (.str s) G E) ∧ (dup [] ss = none → k))
theorem put_len {f : Str} {v : V} : (putF f v []).length < 1000 := by
  show 1 < 1000
  decide
theorem same_self {K : PySem.W.Frag} {G H H1 : Hp} {x C dx : Addr} {o : HO} (h : SelfAt K G H x C dx) (s : Same H H1) : Same G (upd H1 x o) := fun b u e => (upd_ne (ne_of_none e h.n)).trans (s b u (h.s b u e))

def spMesh (K : PySem.W.Frag) (C1 C2 C3 : Addr) : Sp := fun vs H Q E => ∃ (G : Hp) (x C dx : Addr) (v0 v1 t0 t1 : V) (ds es : List PyData), vs = [.ref x, v0, v1, t0, t1] ∧ SelfAt K G H x C dx ∧ RDs K G [v0, v1] ds ∧ (∀ d ∈ ds, LenOk d) ∧ RDs K G [t0, t1] es ∧ 
  NamesGo C1 C2 G E [v0, v1] ds ((∀ v, firstNo okT [t0, t1] es = some v → Thrown "value" C3 v G E) ∧ (firstNo okT [t0, t1] es = none → ∀ (H2 : Hp) (p1 p2 : Addr), Same G H2 → H2 x = some (.ins C dx (putF "_teeth" (.ref p2) (putF "_names" (.ref p1) []))) → H2 p1 = some (.tup [v0, v1]) → H2 p2 = some (.tup [t0, t1]) → Q .non H2))

def spDiff (K : PySem.W.Frag) (C1 C2 C3 : Addr) : Sp := fun vs H Q E => ∃ (G : Hp) (x C dx : Addr) (v0 v1 v2 t0 t1 : V) (ds es : List PyData), vs = [.ref x, v0, v1, v2, t0, t1] ∧ SelfAt K G H x C dx ∧ RDs K G [v0, v1, v2] ds ∧ (∀ d ∈ ds, LenOk d) ∧ RDs K G [t0, t1] es ∧ 
  NamesGo C1 C2 G E [v0, v1, v2] ds ((∀ v, firstNo okT [t0, t1] es = some v → Thrown "value" C3 v G E) ∧ (firstNo okT [t0, t1] es = none → ∀ (H2 : Hp) (p1 p2 : Addr), Same G H2 → H2 x = some (.ins C dx (putF "_teeth" (.ref p2) (putF "_names" (.ref p1) []))) → H2 p1 = some (.tup [v0, v1, v2]) → H2 p2 = some (.tup [t0, t1]) → Q .non H2))

def spBrake (K : PySem.W.Frag) (C1 C2 : Addr) : Sp := fun vs H Q E => ∃ (G : Hp) (x C dx : Addr) (v0 : V) (ds : List PyData), vs = [.ref x, v0] ∧ SelfAt K G H x C dx ∧ RDs K G [v0] ds ∧ (∀ d ∈ ds, LenOk d) ∧ 
  NamesGo C1 C2 G E [v0] ds (∀ (H2 : Hp) (p1 : Addr), Same G H2 → H2 x = some (.ins C dx (putF "_names" (.ref p1) [])) → H2 p1 = some (.tup [v0]) → Q .non H2)

def spFree (K : PySem.W.Frag) (C1 C2 : Addr) : Sp := fun vs H Q E => ∃ (G : Hp) (x C dx : Addr) (v0 v1 : V) (ds : List PyData), vs = [.ref x, v0, v1] ∧ SelfAt K G H x C dx ∧ RDs K G [v0, v1] ds ∧ (∀ d ∈ ds, LenOk d) ∧ 
  NamesGo C1 C2 G E [v0, v1] ds (∀ (H2 : Hp) (p1 : Addr), Same G H2 → H2 x = some (.ins C dx (putF "_names" (.ref p1) [])) → H2 p1 = some (.tup [v0, v1]) → Q .non H2)

section
variable {P : Program} {w : World} {K : PySem.W.Frag} {mg : Str → Option Value} {base : Heap}

theorem scMesh : FnScope ["self", "a", "b", "teeth", "other_teeth"] ["self", "a", "b", "teeth", "other_teeth"] (defScope sMesh) := ⟨rfl, rfl, rfl, by decide +kernel, rfl, by decide +kernel, by decide +kernel⟩
theorem ok_Mesh {C1 C2 C3 f fN fT : Addr} {fd : FuncData} {params : Arguments} {dvs : List V} {kws : List (Str × V)} (F : FunD K "__init__" "Mesh.__init__" params (defBody sMesh) (defScope sMesh) dvs kws f fd)
    (GN : FnR P w K mg base (L2.CX P w) 4 fN (spCN K C1 C2)) (gN : mg "_checked_names" = some (.ref fN)) (kN : PySem.W.keepIn K (.ref fN) = true)
    (GT : FnR P w K mg base (L2.CX P w) 4 fT (spCT K C3)) (gT : mg "_checked_teeth" = some (.ref fT)) (kT : PySem.W.keepIn K (.ref fT) = true) : FnOk P w K mg base (L2.CX P w) 5 f fd ["self", "a", "b", "teeth", "other_teeth"] (spMesh K C1 C2 C3) := by
  refine F.ok scMesh (fun vs H Q E h => ?_) (fun cdv A outer s H vs Q E hr h => ?_)
  · obtain ⟨G, x, C, dx, v0, v1, t0, t1, ds, es, rfl, _⟩ := h
    rfl
  · obtain ⟨G, x, C, dx, v0, v1, t0, t1, ds, es, rfl, me, hds, lens, hes, bad, go⟩ := h
    refine ⟨_, pss_cons (ps_fld (pv 0) (pe_callRS GN hr rfl gN kN (fun σ => passAt (takes_of rfl rfl rfl rfl) σ) (pa_cons (pv 1) (pa_cons (pv 2) pa_nil))) rfl)
      (pss_one (ps_fld (pv 0) (pe_callRS GT hr rfl gT kT (fun σ => passAt (takes_of rfl rfl rfl rfl) σ) (pa_cons (pv 3) (pa_cons (pv 4) pa_nil))) rfl)), ?_⟩
    refine ⟨_, rfl, _, rfl, ds, RDs.mono me.s _ _ hds, lens, (by show 2 ≤ 10; decide), fun v hv => (bad v hv).mono me.s, fun hb ss e => ?_⟩
    obtain ⟨two, go2⟩ := go hb ss e
    refine ⟨fun z hz => (two z hz).mono me.s, fun hd q1 H1 s1 nq1 he1 => ?_⟩
    obtain ⟨bad3, fin⟩ := go2 hd
    refine ⟨_, rfl, x, C, dx, [], rfl, s1 _ _ me.at_, me.c, me.a1, by decide, ?_⟩
    have sG := same_self (o := .ins C dx (putF "_names" (.ref q1) [])) me s1
    have nx : q1 ≠ x := (ne_of_none me.at_ nq1).symm
    refine ⟨_, rfl, _, rfl, es, RDs.mono sG _ _ hes, (by show 2 ≤ 10; decide), fun v hv => (bad3 v hv).mono sG, fun hb2 q2 H2 s2 nq2 he2 => ?_⟩
    have nx2 : q2 ≠ x := (ne_of_none upd_same nq2).symm
    refine ⟨_, rfl, x, C, dx, _, rfl, s2 _ _ upd_same, me.c, me.a2, put_len, ?_⟩
    refine fin hb2 _ q1 q2 (fun b u e => (upd_ne (ne_of_none e me.n)).trans (s2 b u (sG b u e))) upd_same ?_ ((upd_ne nx2).trans he2)
    exact (upd_ne nx).trans (s2 _ _ ((upd_ne nx).trans he1))
theorem scDiff : FnScope ["self", "a", "b", "carrier", "teeth", "other_teeth"] ["self", "a", "b", "carrier", "teeth", "other_teeth"] (defScope sDiff) := ⟨rfl, rfl, rfl, by decide +kernel, rfl, by decide +kernel, by decide +kernel⟩
theorem ok_Diff {C1 C2 C3 f fN fT : Addr} {fd : FuncData} {params : Arguments} {dvs : List V} {kws : List (Str × V)} (F : FunD K "__init__" "Differential.__init__" params (defBody sDiff) (defScope sDiff) dvs kws f fd)
    (GN : FnR P w K mg base (L2.CX P w) 4 fN (spCN K C1 C2)) (gN : mg "_checked_names" = some (.ref fN)) (kN : PySem.W.keepIn K (.ref fN) = true)
    (GT : FnR P w K mg base (L2.CX P w) 4 fT (spCT K C3)) (gT : mg "_checked_teeth" = some (.ref fT)) (kT : PySem.W.keepIn K (.ref fT) = true) : FnOk P w K mg base (L2.CX P w) 5 f fd ["self", "a", "b", "carrier", "teeth", "other_teeth"] (spDiff K C1 C2 C3) := by
  refine F.ok scDiff (fun vs H Q E h => ?_) (fun cdv A outer s H vs Q E hr h => ?_)
  · obtain ⟨G, x, C, dx, v0, v1, v2, t0, t1, ds, es, rfl, _⟩ := h
    rfl
  · obtain ⟨G, x, C, dx, v0, v1, v2, t0, t1, ds, es, rfl, me, hds, lens, hes, bad, go⟩ := h
    refine ⟨_, pss_cons (ps_fld (pv 0) (pe_callRS GN hr rfl gN kN (fun σ => passAt (takes_of rfl rfl rfl rfl) σ) (pa_cons (pv 1) (pa_cons (pv 2) (pa_cons (pv 3) pa_nil)))) rfl)
      (pss_one (ps_fld (pv 0) (pe_callRS GT hr rfl gT kT (fun σ => passAt (takes_of rfl rfl rfl rfl) σ) (pa_cons (pv 4) (pa_cons (pv 5) pa_nil))) rfl)), ?_⟩
    refine ⟨_, rfl, _, rfl, _, rfl, ds, RDs.mono me.s _ _ hds, lens, (by show 3 ≤ 10; decide), fun v hv => (bad v hv).mono me.s, fun hb ss e => ?_⟩
    obtain ⟨two, go2⟩ := go hb ss e
    refine ⟨fun z hz => (two z hz).mono me.s, fun hd q1 H1 s1 nq1 he1 => ?_⟩
    obtain ⟨bad3, fin⟩ := go2 hd
    refine ⟨_, rfl, x, C, dx, [], rfl, s1 _ _ me.at_, me.c, me.a1, by decide, ?_⟩
    have sG := same_self (o := .ins C dx (putF "_names" (.ref q1) [])) me s1
    have nx : q1 ≠ x := (ne_of_none me.at_ nq1).symm
    refine ⟨_, rfl, _, rfl, es, RDs.mono sG _ _ hes, (by show 2 ≤ 10; decide), fun v hv => (bad3 v hv).mono sG, fun hb2 q2 H2 s2 nq2 he2 => ?_⟩
    have nx2 : q2 ≠ x := (ne_of_none upd_same nq2).symm
    refine ⟨_, rfl, x, C, dx, _, rfl, s2 _ _ upd_same, me.c, me.a2, put_len, ?_⟩
    refine fin hb2 _ q1 q2 (fun b u e => (upd_ne (ne_of_none e me.n)).trans (s2 b u (sG b u e))) upd_same ?_ ((upd_ne nx2).trans he2)
    exact (upd_ne nx).trans (s2 _ _ ((upd_ne nx).trans he1))
theorem scBrake : FnScope ["self", "a"] ["self", "a"] (defScope sBrake) := ⟨rfl, rfl, rfl, by decide +kernel, rfl, by decide +kernel, by decide +kernel⟩
theorem ok_Brake {C1 C2 f fN : Addr} {fd : FuncData} {params : Arguments} {dvs : List V} {kws : List (Str × V)} (F : FunD K "__init__" "Brake.__init__" params (defBody sBrake) (defScope sBrake) dvs kws f fd)
    (GN : FnR P w K mg base (L2.CX P w) 4 fN (spCN K C1 C2)) (gN : mg "_checked_names" = some (.ref fN)) (kN : PySem.W.keepIn K (.ref fN) = true) : FnOk P w K mg base (L2.CX P w) 5 f fd ["self", "a"] (spBrake K C1 C2) := by
  refine F.ok scBrake (fun vs H Q E h => ?_) (fun cdv A outer s H vs Q E hr h => ?_)
  · obtain ⟨G, x, C, dx, v0, ds, rfl, _⟩ := h
    rfl
  · obtain ⟨G, x, C, dx, v0, ds, rfl, me, hds, lens, bad, go⟩ := h
    refine ⟨_, pss_one (ps_fld (pv 0) (pe_callRS GN hr rfl gN kN (fun σ => passAt (takes_of rfl rfl rfl rfl) σ) (pa_cons (pv 1) pa_nil)) rfl), ?_⟩
    refine ⟨_, rfl, ds, RDs.mono me.s _ _ hds, lens, (by show 1 ≤ 10; decide), fun v hv => (bad v hv).mono me.s, fun hb ss e => ?_⟩
    obtain ⟨two, go2⟩ := go hb ss e
    refine ⟨fun z hz => (two z hz).mono me.s, fun hd q1 H1 s1 nq1 he1 => ?_⟩
    have nx : q1 ≠ x := (ne_of_none me.at_ nq1).symm
    exact ⟨_, rfl, x, C, dx, [], rfl, s1 _ _ me.at_, me.c, me.a1, by decide, go2 hd _ q1 (same_self me s1) upd_same ((upd_ne nx).trans he1)⟩
theorem scFree : FnScope ["self", "a", "b"] ["self", "a", "b"] (defScope sFree) := ⟨rfl, rfl, rfl, by decide +kernel, rfl, by decide +kernel, by decide +kernel⟩
theorem ok_Free {C1 C2 f fN : Addr} {fd : FuncData} {params : Arguments} {dvs : List V} {kws : List (Str × V)} (F : FunD K "__init__" "Freewheel.__init__" params (defBody sFree) (defScope sFree) dvs kws f fd)
    (GN : FnR P w K mg base (L2.CX P w) 4 fN (spCN K C1 C2)) (gN : mg "_checked_names" = some (.ref fN)) (kN : PySem.W.keepIn K (.ref fN) = true) : FnOk P w K mg base (L2.CX P w) 5 f fd ["self", "a", "b"] (spFree K C1 C2) := by
  refine F.ok scFree (fun vs H Q E h => ?_) (fun cdv A outer s H vs Q E hr h => ?_)
  · obtain ⟨G, x, C, dx, v0, v1, ds, rfl, _⟩ := h
    rfl
  · obtain ⟨G, x, C, dx, v0, v1, ds, rfl, me, hds, lens, bad, go⟩ := h
    refine ⟨_, pss_one (ps_fld (pv 0) (pe_callRS GN hr rfl gN kN (fun σ => passAt (takes_of rfl rfl rfl rfl) σ) (pa_cons (pv 1) (pa_cons (pv 2) pa_nil))) rfl), ?_⟩
    refine ⟨_, rfl, _, rfl, ds, RDs.mono me.s _ _ hds, lens, (by show 2 ≤ 10; decide), fun v hv => (bad v hv).mono me.s, fun hb ss e => ?_⟩
    obtain ⟨two, go2⟩ := go hb ss e
    refine ⟨fun z hz => (two z hz).mono me.s, fun hd q1 H1 s1 nq1 he1 => ?_⟩
    have nx : q1 ≠ x := (ne_of_none me.at_ nq1).symm
    exact ⟨_, rfl, x, C, dx, [], rfl, s1 _ _ me.at_, me.c, me.a1, by decide, go2 hd _ q1 (same_self me s1) upd_same ((upd_ne nx).trans he1)⟩
end
end Paw

set_option maxRecDepth 100000
set_option maxHeartbeats 4000000
namespace Paw
open PySem PySem.Spec PyProof.Rows L2
abbrev sChain : Stmt := inClass (top 18) 0
abbrev sRat : Stmt := inClass (top 22) 0
/-! ### x is not True -/
def okIs : V → Bool
  | .non => true
  | .bl _ => true
  | .int _ => true
  | .str _ => true
  | .ref _ => true
  | _ => false
def rNotBA : R2 := fun x y H Q => ∃ b : Bool, y = .bl b ∧ okIs x = true ∧ Q (.bl (!decide (x = .bl b))) H
theorem op_notBA {X : Cx} : OpR X (compareOp .IsNot) rNotBA := by
  intro pins s σ H x y v u Q I rx ry h
  obtain ⟨b, rfl, ok, q⟩ := h
  cases (show u = Value.bool b from ry)
  cases x with
  | non =>
    cases (show v = Value.none from rx)
    exact wpAny_isNot_other rfl (fun z => nomatch z) ⟨.bl true, H, I, rfl, by simpa using q⟩
  | bl a =>
    cases (show v = Value.bool a from rx)
    by_cases e : a = b
    · subst e
      exact wpAny_isNot_self rfl ⟨.bl false, H, I, rfl, by simpa using q⟩
    · exact wpAny_isNot_other rfl (fun z => e (Value.bool.inj z)) ⟨.bl true, H, I, rfl, by simpa [e] using q⟩
  | int i =>
    obtain ⟨t, rfl⟩ := rx
    exact wpAny_isNot_other rfl (fun z => nomatch z) ⟨.bl true, H, I, rfl, by simpa using q⟩
  | str i =>
    obtain ⟨t, rfl⟩ := rx
    exact wpAny_isNot_other rfl (fun z => nomatch z) ⟨.bl true, H, I, rfl, by simpa using q⟩
  | ref a =>
    cases (show v = Value.ref a from rx)
    exact wpAny_isNot_other rfl (fun z => nomatch z) ⟨.bl true, H, I, rfl, by simpa using q⟩
  | _ => cases ok
theorem RD.ok {K : PySem.W.Frag} {H : Hp} {x : V} {d : PyData} (h : RD K H x d) : okIs x = true := by cases h <;> rfl
def spRat (K : PySem.W.Frag) (C1 C2 C3 : Addr) : Sp := fun vs H Q E => ∃ (G : Hp) (x C dx : Addr) (v0 bk : V) (ds : List PyData) (dk : PyData), vs = [.ref x, v0, bk] ∧ SelfAt K G H x C dx ∧ NoAttr K C "_backward" ∧ RDs K G [v0] ds ∧ (∀ d ∈ ds, LenOk d) ∧ RD K G bk dk ∧
  NamesGo C1 C2 G E [v0] ds ((isB dk = false → Thrown "value" C3 bk G E) ∧ (isB dk = true → ∀ (H2 : Hp) (p1 : Addr), Same G H2 → H2 x = some (.ins C dx (putF "_backward" bk (putF "_names" (.ref p1) []))) → H2 p1 = some (.tup [v0]) → Q .non H2))
section
variable {P : Program} {w : World} {K : PySem.W.Frag} {mg : Str → Option Value} {base : Heap}
theorem scRat : FnScope ["self", "a", "backward"] ["self", "a", "backward"] (defScope sRat) := ⟨rfl, rfl, rfl, by decide +kernel, rfl, by decide +kernel, by decide +kernel⟩
theorem ok_Rat {C1 C2 C3 f fN : Addr} {fd : FuncData} {params : Arguments} {dvs : List V} {kws : List (Str × V)} (F : FunD K "__init__" "Ratchet.__init__" params (defBody sRat) (defScope sRat) dvs kws f fd) (T : Kv P w K mg base "NoTeeth" "value" C3)
    (GN : FnR P w K mg base (L2.CX P w) 4 fN (spCN K C1 C2)) (gN : mg "_checked_names" = some (.ref fN)) (kN : PySem.W.keepIn K (.ref fN) = true) : FnOk P w K mg base (L2.CX P w) 5 f fd ["self", "a", "backward"] (spRat K C1 C2 C3) := by
  refine F.ok scRat (fun vs H Q E h => ?_) (fun cdv A outer s H vs Q E hr h => ?_)
  · obtain ⟨G, x, C, dx, v0, bk, ds, dk, rfl, _⟩ := h
    rfl
  · obtain ⟨G, x, C, dx, v0, bk, ds, dk, rfl, me, a3, hds, lens, hbk, bad, go⟩ := h
    have hr2 := hr.mono (show 2 ≤ 4 by decide)
    refine ⟨_, pss_cons (ps_fld (pv 0) (pe_callRS GN hr rfl gN kN (fun σ => passAt (takes_of rfl rfl rfl rfl) σ) (pa_cons (pv 1) pa_nil)) rfl)
      (pss_cons (ps_if (PW.pt (pw_and (pt_cmpR op_notBA (pv 2) pe_bl (nomark _)) (pw_and1 (pt_cmpR op_notBA (pv 2) pe_bl (nomark _))))) (pss_one (ps_throw T hr2 rfl (takes_of rfl rfl rfl rfl) rfl (pv 2))) pss_nil)
      (pss_one (ps_fld (pv 0) (pv 2) rfl))), ?_⟩
    refine ⟨_, rfl, ds, RDs.mono me.s _ _ hds, lens, (by show 1 ≤ 10; decide), fun v hv => (bad v hv).mono me.s, fun hb ss e => ?_⟩
    obtain ⟨two, go2⟩ := go hb ss e
    refine ⟨fun z hz => (two z hz).mono me.s, fun hd q1 H1 s1 nq1 he1 => ?_⟩
    obtain ⟨bad3, fin⟩ := go2 hd
    refine ⟨_, rfl, x, C, dx, [], rfl, s1 _ _ me.at_, me.c, me.a1, by decide, ?_⟩
    have sG := same_self (o := .ins C dx (putF "_names" (.ref q1) [])) me s1
    have nx : q1 ≠ x := (ne_of_none me.at_ nq1).symm
    have last : isB dk = true → ∃ v, ([some (V.ref x), some v0, some bk] : List (Option V))[2]? = some (some v) ∧ ∃ w1, ([some (V.ref x), some v0, some bk] : List (Option V))[0]? = some (some w1) ∧ True := fun _ => ⟨bk, rfl, _, rfl, trivial⟩
    have okb := hbk.ok
    refine ⟨_, rfl, true, rfl, okb, _, rfl, ?_⟩
    cases hbb : isB dk with
    | true =>
      obtain ⟨b, rfl⟩ : ∃ b, dk = .bool b := by
        cases dk with
        | bool b => exact ⟨b, rfl⟩
        | _ => cases hbb
      cases hbk
      cases b with
      | true =>
        refine it_f (by decide) ?_
        refine ⟨_, rfl, _, rfl, x, C, dx, _, rfl, upd_same, me.c, a3, put_len, ?_⟩
        exact fin hbb _ q1 (fun b u e => (upd_ne (ne_of_none e me.n)).trans (sG b u e)) upd_same ((upd_ne nx).trans ((upd_ne nx).trans he1))
      | false =>
        refine it_t (by decide) ?_
        refine ⟨_, rfl, false, rfl, rfl, _, rfl, it_f (by decide) ?_⟩
        refine ⟨_, rfl, _, rfl, x, C, dx, _, rfl, upd_same, me.c, a3, put_len, ?_⟩
        exact fin hbb _ q1 (fun b u e => (upd_ne (ne_of_none e me.n)).trans (sG b u e)) upd_same ((upd_ne nx).trans ((upd_ne nx).trans he1))
    | false =>
      have no : ∀ b, bk ≠ .bl b := fun b z => by
        subst z
        cases hbk
        cases hbb
      refine it_t (by simp [no true]) ?_
      refine ⟨_, rfl, false, rfl, okb, _, rfl, it_t (by simp [no false]) ?_⟩
      exact ⟨_, rfl, one_le, thrown_mk T.v.oex T.no ((bad3 hbb).mono sG)⟩
theorem scChain : FnScope ["self", "a", "b", "teeth", "other_teeth"] ["self", "a", "b", "teeth", "other_teeth"] (defScope sChain) := ⟨rfl, rfl, rfl, by decide +kernel, rfl, by decide +kernel, by decide +kernel⟩
theorem ok_Chain {C1 C2 C3 CM f fM : Addr} {mc : Value} {fd : FuncData} {params : Arguments} {dvs : List V} {kws : List (Str × V)} (F : FunD K "__init__" "Chain.__init__" params (defBody sChain) (defScope sChain) dvs kws f fd)
    (GM : FnR P w K mg base (L2.CX P w) 5 fM (spMesh K C1 C2 C3)) (gM : mg "Mesh" = some (.ref CM)) (r : ClX.CRead K CM mc) (at_ : PySem.W.findCls K (.ref CM) mc "__init__" = some (.val (.ref fM))) (kM : PySem.W.keepIn K (.ref fM) = true) :
    FnOk P w K mg base (L2.CX P w) 6 f fd ["self", "a", "b", "teeth", "other_teeth"] (spMesh K C1 C2 C3) := by
  refine F.ok scChain (fun vs H Q E h => ?_) (fun cdv A outer s H vs Q E hr h => ?_)
  · obtain ⟨G, x, C, dx, v0, v1, t0, t1, ds, es, rfl, _⟩ := h
    rfl
  · have h' := h
    obtain ⟨G, x, C, dx, v0, v1, t0, t1, ds, es, rfl, _⟩ := h'
    refine ⟨_, pss_one (ps_expr (pe_ofCls rfl gM r at_ GM kM hr (fun σ => passAt (takes_of rfl rfl rfl rfl) σ) (pa_cons (pv 0) (pa_cons (pv 1) (pa_cons (pv 2) (pa_cons (pv 3) (pa_cons (pv 4) pa_nil))))))), ?_⟩
    refine ⟨_, rfl, _, rfl, _, rfl, _, rfl, _, rfl, ?_⟩
    obtain ⟨G, x, C, dx, v0, v1, t0, t1, ds, es, e, me, hds, lens, hes, bad, go⟩ := h
    exact ⟨G, x, C, dx, v0, v1, t0, t1, ds, es, e, me, hds, lens, hes, bad, fun hb ss e => ⟨(go hb ss e).1, fun hd => ⟨((go hb ss e).2 hd).1, ((go hb ss e).2 hd).2⟩⟩⟩
end
end Paw

set_option maxRecDepth 100000
set_option maxHeartbeats 4000000
namespace Paw
open PySem PySem.Spec PyProof.Rows L2
abbrev sOrder : Stmt := top 34
abbrev sNames : Stmt := top 35
abbrev sSize : Stmt := top 36
abbrev sWhole : Stmt := top 37
/-! ### the heap without some places -/
def cut (S : List Addr) (H : Hp) : Hp := fun b => if b ∈ S then none else H b
theorem cut_in {S : List Addr} {H : Hp} {b : Addr} (h : b ∈ S) : cut S H b = none := if_pos h
theorem cut_out {S : List Addr} {H : Hp} {b : Addr} (h : b ∉ S) : cut S H b = H b := if_neg h
theorem cut_same {S : List Addr} {H : Hp} : Same (cut S H) H := fun b o e => by
  by_cases h : b ∈ S
  · rw [cut_in h] at e
    cases e
  · rw [cut_out h] at e
    exact e
theorem cut1 {p b : Addr} {H : Hp} (h : b ≠ p) : cut [p] H b = H b := cut_out (by simp [h])
theorem cut_but {p : Addr} {H H' : Hp} (h : But p H H') : Same (cut [p] H) (cut [p] H') := fun b o e => by
  have n : b ≠ p := fun z => by
    rw [z, cut_in List.mem_cons_self] at e
    cases e
  rw [cut1 n] at e ⊢
  exact h b o n e
/-- what was not there -/
def newer (H H' : Hp) : Hp := fun b => match H b with
  | none => H' b
  | some _ => none
theorem newer_at {H H' : Hp} {b : Addr} (h : H b = none) : newer H H' b = H' b := by
  unfold newer
  rw [h]
theorem newer_some {H H' : Hp} {b : Addr} {o : HO} (e : newer H H' b = some o) : H b = none ∧ H' b = some o := by
  cases h : H b with
  | none =>
    rw [newer_at h] at e
    exact ⟨rfl, e⟩
  | some u =>
    unfold newer at e
    rw [h] at e
    cases e
theorem newer_cut {S : List Addr} {H H' : Hp} (h : ∀ b ∈ S, H b ≠ none) : Same (newer H H') (cut S H') := fun b o e => by
  obtain ⟨h1, h2⟩ := newer_some e
  rw [cut_out (fun z => h b z h1)]
  exact h2
/-- a draw: a value made of new things, tiny data -/
def spDraw (K : PySem.W.Frag) : Sp := fun vs H Q _ => ∃ (p : Addr) (b : Bool) (L : List V), vs = [.ref p] ∧ H p = some (.lst L) ∧ Pile b L ∧
  ∀ (v : V) (d : PyData) (L' : List V) (H' : Hp), RD K (newer H H') v d → tinyD d = true → But p H H' → H' p = some (.lst L') → Pile b L' → Q v H'
theorem log_lt {i : Int} {n : Nat} (h : i.natAbs < 2 ^ n) (h0 : 0 < n) : i.natAbs.log2 < n := PySem.Flt.log2_lt_of h0 h
theorem tiny_int {i : Int} (h : i.natAbs < 2 ^ 60) : tinyD (.int i) = true := by
  have := log_lt h (by decide)
  unfold tinyD
  simp only [plainD, PyData.showable, siz, PyData.depth, Bool.and_eq_true, decide_eq_true_eq]
  exact ⟨⟨⟨trivial, by omega⟩, decide_eq_true (by omega)⟩, decide_eq_true (by omega)⟩
theorem abs60 {i : Int} {n : Nat} (h : i.natAbs < n) (g : n ≤ 2 ^ 60) : i.natAbs < 2 ^ 60 := Nat.lt_of_lt_of_le h g
/-! ### xs != [] -/
def rNeNil (K : PySem.W.Frag) : R2 := fun x y H Q => ∃ (a b : Addr) (xs : List V), x = .ref a ∧ y = .ref b ∧ SqL K H a xs ∧ SqL K H b [] ∧ Q (.bl (!xs.isEmpty)) H
theorem op_neNil {X : Cx} (hu : X.A.units < cLine) : OpR X (compareOp .NotEq) (rNeNil X.K) := by
  intro pins s σ H x y v u Q I rx ry h
  obtain ⟨a, b, xs, rfl, rfl, ha, hb, q⟩ := h
  obtain rfl : v = Value.ref a := rx
  obtain rfl : u = Value.ref b := ry
  obtain ⟨its, r1, p1, _⟩ := I.list ha
  obtain ⟨its2, r2, p2, _⟩ := I.list hb
  cases r2
  cases r1 with
  | nil => exact SeqAt.RcNeAt.lists (e := fun _ => true) p1.isList p2.isList rfl hu (fun j h1 _ => absurd h1 (Nat.not_lt_zero _)) _ _ _ _ ⟨.bl _, H, I, rfl, q⟩
  | cons r1 rs => exact SeqAt.RcNeAt.lists_lengths p1.isList p2.isList (by simp) hu _ _ _ _ ⟨.bl _, H, I, rfl, q⟩

section
variable {P : Program} {w : World} {K : PySem.W.Frag} {mg : Str → Option Value} {base : Heap}
/-- odd things as draws -/
theorem ok_oddD {f : Addr} {fd : FuncData} (F : FnOk P w K mg base CX0 3 f fd ["pile"] spOdd) : FnOk P w K mg base CX0 3 f fd ["pile"] (spDraw K) where
  len := fun vs H Q E h => by
    obtain ⟨p, b, L, rfl, _⟩ := h
    rfl
  run := fun A outer s H args us vs Q E hr e0 hb rel h => by
    refine F.run A outer s H args us vs Q E hr e0 hb rel ?_
    obtain ⟨p, b, L, rfl, hp, hL, q⟩ := h
    refine ⟨p, b, L, rfl, hp, hL, fun j v L' H' ho new hb hp' hL' => q v (oddD j) L' H' (odd_rd (odd_part ho fun t o e ht => ?_)) (odd_small j (odd_lt ho)) hb hp' hL'⟩
    rw [newer_at (new t e)]
    exact ht

theorem scWhole : FnScope ["thing"] ["thing"] (defScope sWhole) := ⟨rfl, rfl, rfl, by decide +kernel, rfl, by decide +kernel, by decide +kernel⟩
theorem ok_whole {f : Addr} {fd : FuncData} (F : Fun K "_law_whole" "_law_whole" sWhole f fd) (zs : mg "isinstance" = none) (zi : mg "int" = none) (zb : mg "bool" = none) : FnOk P w K mg base CX0 1 f fd ["thing"] (spIsInt K) := by
  refine F.ok scWhole (fun vs H Q E h => ?_) (fun cdv A outer s H vs Q E hr h => ?_)
  · obtain ⟨x, d, rfl, _⟩ := h
    rfl
  · obtain ⟨x, d, rfl, hd, q⟩ := h
    refine ⟨_, pss_one (ps_ret (pe_and (pe_callB call_isi (by rfl) zs bt_isinstance (pa_cons (pv 0) (pa_cons (pe_bltn (v := .ty "int") (by rfl) zi bt_int rfl) pa_nil)))
      (pe_one (pe_not (pe_callB call_isi (by rfl) zs bt_isinstance (pa_cons (pv 0) (pa_cons (pe_bltn (v := .ty "bool") (by rfl) zb bt_bool rfl) pa_nil))))))), ?_⟩
    refine ⟨_, rfl, x, .ty "int", _, _, _, rfl, .ty _, hd.ty, kit_int d, _, rfl, ?_⟩
    refine ite2 (fun h => ⟨_, rfl, x, .ty "bool", _, _, _, rfl, .ty _, hd.ty, kit_bool d, _, rfl, ?_⟩) (fun h => ?_)
    · have e : (!isB d) = isI d := by cases d <;> first | rfl | cases h
      rw [e]
      exact q
    · have e : false = isI d := by cases d <;> first | rfl | exact absurd rfl h
      rw [e]
      exact q
/-- a draw of a whole number -/
def spSize : Sp := fun vs H Q _ => ∃ (p : Addr) (b : Bool) (L : List V), vs = [.ref p] ∧ H p = some (.lst L) ∧ Pile b L ∧ ∀ (i : Int) (L' : List V) (H' : Hp), i.natAbs < 2 ^ 60 → But p H H' → H' p = some (.lst L') → Pile b L' → Q (.int i) H'
theorem scSize : FnScope ["pile"] ["pile"] (defScope sSize) := ⟨rfl, rfl, rfl, by decide +kernel, rfl, by decide +kernel, by decide +kernel⟩
theorem ok_size {f fT : Addr} {fd fdT : FuncData} (F : Fun K "_law_size" "_law_size" sSize f fd) (GT : FnOk P w K mg base CX0 2 fT fdT ["pile", "many"] spTake) (gT : mg "_law_take" = some (.ref fT)) (kT : PySem.W.keepIn K (.ref fT) = true)
    (bT : Binds K fdT ["pile", "many"] []) : FnOk P w K mg base CX0 3 f fd ["pile"] spSize := by
  refine F.ok scSize (fun vs H Q E h => ?_) (fun cdv A outer s H vs Q E hr h => ?_)
  · obtain ⟨p, b, L, rfl, _⟩ := h
    rfl
  · obtain ⟨p, b, L, rfl, hp, hL, q⟩ := h
    refine ⟨_, pss_cons (ps_if (PW.pt (pw_and (pt_val (pe_ix ix_list (pv 0) pe_int (fun _ _ => rfl))) (pw_and1 (pt_cmpR op_eq (pe_call GT hr rfl gT kT bT .nil pass0 (pa_cons (pv 0) (pa_cons pe_int pa_nil))) pe_int (nomark _)))))
        (pss_one (ps_ret (pe_op op_add pe_int (pe_call GT hr rfl gT kT bT .nil pass0 (pa_cons (pv 0) (pa_cons pe_int pa_nil)))))) pss_nil)
      (pss_one (ps_ret (pe_op op_add pe_int (pe_call GT hr rfl gT kT bT .nil pass0 (pa_cons (pv 0) (pa_cons pe_int pa_nil)))))), ?_⟩
    have hL' := hL
    obtain ⟨d, m, c, eL, _, _, _, _⟩ := hL'
    refine ⟨_, rfl, p, _, _, _, rfl, rfl, SqL.of hp, (by rw [eL]; exact atI_nat (j := 3) rfl), _, rfl, ?_⟩
    cases b with
    | false =>
      exact ⟨_, rfl, p, _, false, L, rfl, (by decide), (by decide +kernel), hp, hL, fun r L2 H2 r0 r1 hL2 b2 hp2 => ⟨_, _, rfl, rfl, q _ L2 H2 (abs60 (n := 1000001) (by omega) (by decide)) b2 hp2 hL2⟩⟩
    | true =>
      refine ⟨_, rfl, p, _, true, L, rfl, (by decide), (by decide +kernel), hp, hL, fun r L2 H2 r0 r1 hL2 b2 hp2 => ⟨rfl, _, rfl, ite2 (fun _ => ?_) (fun _ => ?_)⟩⟩
      · exact ⟨_, rfl, p, _, true, L2, rfl, (by decide), (by decide +kernel), hp2, hL2, fun r L3 H3 r0 r1 hL3 b3 hp3 => ⟨_, _, rfl, rfl, q _ L3 H3 (abs60 (n := 1000001) (by omega) (by decide)) (b2.trans b3) hp3 hL3⟩⟩
      · exact ⟨_, rfl, p, _, true, L2, rfl, (by decide), (by decide +kernel), hp2, hL2, fun r L3 H3 r0 r1 hL3 b3 hp3 => ⟨_, _, rfl, rfl, q _ L3 H3 (abs60 (n := 1000001) (by omega) (by decide)) (b2.trans b3) hp3 hL3⟩⟩
def spOrder : Sp := fun vs H Q _ => ∃ (p : Addr) (b : Bool) (L : List V) (n : Nat), vs = [.ref p, .int (n : Int)] ∧ n ≤ 100 ∧ H p = some (.lst L) ∧ Pile b L ∧
  ∀ (H' : Hp) (q : Addr) (ks : List Nat) (L' : List V), But p H H' → H q = none → H' q = some (.lst (ks.map fun k : Nat => V.int (k : Int))) → ks.length = n → (∀ k ∈ ks, k < n) → H' p = some (.lst L') → Pile b L' → Q (.ref q) H'
theorem scOrder : FnScope ["pile", "many", "left", "found", "k"] ["pile", "many"] (defScope sOrder) := ⟨rfl, rfl, rfl, by decide +kernel, rfl, by decide +kernel, by decide +kernel⟩
def lenAt (H : Hp) (a : Addr) : Nat := match H a with
  | some (.lst xs) => xs.length
  | _ => 0
theorem lenAt_of {H : Hp} {a : Addr} {xs : List V} (h : H a = some (.lst xs)) : lenAt H a = xs.length := by
  unfold lenAt
  rw [h]
theorem map_erase {α β : Type} (g : α → β) : ∀ (l : List α) (k : Nat), (l.map g).eraseIdx k = (l.eraseIdx k).map g
  | [], _ => rfl
  | _ :: _, 0 => rfl
  | a :: l, k + 1 => congrArg (g a :: ·) (map_erase g l k)
theorem seq_in {i : Int} {n : Nat} (h0 : 0 ≤ i) (h : i < n) : seqIndex? i n = some i.toNat := by
  unfold seqIndex?
  have a : ¬ i < 0 := by omega
  simp [h0, h, a]
theorem ok_order {f fT : Addr} {fd fdT : FuncData} (F : Fun K "_law_order" "_law_order" sOrder f fd) (zr : mg "range" = none) (zl : mg "len" = none) (GT : FnOk P w K mg base CX0 2 fT fdT ["pile", "many"] spTake) (gT : mg "_law_take" = some (.ref fT)) (kT : PySem.W.keepIn K (.ref fT) = true)
    (bT : Binds K fdT ["pile", "many"] []) : FnOk P w K mg base CX0 3 f fd ["pile", "many"] spOrder := by
  refine F.ok scOrder (fun vs H Q E h => ?_) (fun cdv A outer s H vs Q E hr h => ?_)
  · obtain ⟨p, b, L, n, rfl, _⟩ := h
    rfl
  · obtain ⟨p, b, L, n, rfl, hn, hp, hL, q⟩ := h
    refine ⟨_, pss_cons (ps_setLc (i := 2) (own := [("k", 4)]) (g := gName 4) (tt := tYes) (te := tVar 4) rfl scOrder.nd rfl rfl (sw_true rfl rfl rfl (by decide +kernel)) (pi_range1 rfl zr (pa_cons (pv 1) pa_nil)) (blkOk_by (N := ["pile", "many", "left", "found", "k"]) (sc := defScope sOrder) (by decide +kernel)) (fun _ _ _ _ _ => pg_name (i := 4) scOrder.nd rfl (Or.inl rfl)) (fun _ _ _ _ _ => pts_nil) (fun _ _ _ _ _ => pv 4))
      (pss_cons (ps_set (i := 3) scOrder.nd rfl (Or.inl rfl) (pe_lst pa_nil))
      (pss_cons (ps_while PassesOwn.never (pt_cmpR (op_neNil (Nat.lt_of_le_of_lt (Nat.le_add_right _ 64) hr.units)) (pv 2) (pe_lst pa_nil) (nomark _))
        (pss_one (ps_expr (pe_bm PySem.F.plainAttrs_list PySem.F.slot_list_append PySem.F.type_list_append mt_append (pv 3) (pa_cons (pe_bm PySem.F.plainAttrs_list PySem.F.slot_list_pop PySem.F.type_list_pop mt_popAt (pv 2) (pa_cons (pe_call GT hr rfl gT kT bT .nil pass0 (pa_cons (pv 0) (pa_cons (pe_callB call_len_seq (by rfl) zl bt_len (pa_cons (pv 2) pa_nil)) pa_nil))) pa_nil)) pa_nil)))))
      (pss_one (ps_ret (pv 3))))), ?_⟩
    refine ⟨_, rfl, (n : Int), rfl, by omega, by omega, fun D hD => ?_⟩
    have nD : D ≠ p := (ne_of_none hp hD).symm
    refine lc_range (lo := 0) (fun i H' => Same H H' ∧ H' D = some (.lst ((List.range i).map fun k : Nat => V.int (k : Int)))) ⟨same_new hD, upd_same⟩ ?_ ?_
    · rintro i H1 hi ⟨s1, hD1⟩
      have hi : i < 101 := by omega
      refine ⟨rfl, _, rfl, _, hD1, by rw [List.length_map, List.length_range]; exact Nat.lt_trans hi (by decide), fun c o e => (upd_ne (ne_of_none e hD)).trans (s1 c o e), ?_⟩
      rw [List.range_succ, List.map_append, Int.zero_add]
      exact upd_same
    · rintro H1 ⟨s1, hD1⟩
      refine ⟨(by show 0 ≤ sizeLine; decide), fun Fd hF => ?_⟩
      have nF : Fd ≠ p := (ne_of_none (s1 _ _ hp) hF).symm
      have nDF : D ≠ Fd := ne_of_none hD1 hF
      have sF := same_new (o := .lst []) hF
      have hFH : H Fd = none := s1.free hF
      refine while_by (fun σ H' => σ = [some (.ref p), some (.int (n : Int)), some (.ref D), some (.ref Fd), none] ∧ But p H H' ∧ ∃ (ls fs : List Nat) (L' : List V), H' D = some (.lst (ls.map fun k : Nat => V.int (k : Int))) ∧ H' Fd = some (.lst (fs.map fun k : Nat => V.int (k : Int))) ∧ ls.length + fs.length = n ∧ (∀ k ∈ ls, k < n) ∧ (∀ k ∈ fs, k < n) ∧ H' p = some (.lst L') ∧ Pile b L')
        (fun _ H' => lenAt H' D) ?_ ?_ ?_
      · refine ⟨rfl, fun b o n e => (s1.trans sF) b o e, List.range n, [], L, ?_, upd_same, by rw [List.length_range]; rfl, fun k hk => List.mem_range.mp hk, (fun k hk => by cases hk), sF _ _ (s1 _ _ hp), hL⟩
        exact sF _ _ hD1
      · rintro σ H2 ⟨rfl, b2, ls, fs, L2, h1, h2, hlen, hls, hfs, hp2, hL2⟩
        have hll : ls.length ≤ 100 := by omega
        refine ⟨_, rfl, (by show 0 ≤ sizeLine; decide), fun N hN => ⟨D, N, _, rfl, rfl, SqL.of ((upd_ne (ne_of_none h1 hN)).trans h1), SqL.of upd_same, _, rfl, ?_⟩⟩
        have sN := same_new (o := .lst []) hN
        cases ls with
        | nil =>
          refine it_f (by decide) ?_
          exact ⟨_, rfl, q _ Fd fs L2 (b2.trans fun b o _ e => sN b o e) hFH (sN _ _ h2) (by simpa using hlen) hfs (sN _ _ hp2) hL2⟩
        | cons l0 lr =>
          refine it_t rfl ?_
          refine ⟨_, rfl, .inl ⟨rfl, _, SqL.of (sN _ _ h2)⟩, _, rfl, .inl ⟨rfl, _, SqL.of (sN _ _ h1)⟩, _, rfl, _, rfl, D, _, rfl, .inl (SqL.of (sN _ _ h1)), p, _, b, L2, rfl, ?_⟩
          refine ⟨by rw [List.length_map, List.length_cons]; omega, ?_, sN _ _ hp2, hL2, fun r L3 H3 r0 r1 hL3 b3 hp3 => ?_⟩
          · refine Nat.lt_of_lt_of_le (m := 2 ^ 60) ?_ (Nat.pow_le_pow_right (by decide) (by decide))
            rw [List.length_map]
            exact abs60 (n := 101) (by omega) (by decide)
          · rw [List.length_map] at r1
            have hk : r.toNat < (l0 :: lr).length := by omega
            have hx := List.getElem?_eq_getElem hk
            have hD3 := b3 _ _ nD (sN _ _ h1)
            have hF3 := b3 _ _ nF (sN _ _ h2)
            have hm : ∀ k ∈ (l0 :: lr).eraseIdx r.toNat, k ∈ (l0 :: lr) := fun k hk => List.mem_of_mem_eraseIdx hk
            refine ⟨D, _, r, r.toNat, V.int (((l0 :: lr)[r.toNat]'hk : Nat) : Int), rfl, rfl, hD3, by omega, by omega, seq_in r0 (by rw [List.length_map]; exact r1), by rw [List.getElem?_map, hx]; rfl, Fd, _, _, rfl, rfl, (upd_ne nDF.symm).trans hF3, ?_, ?_⟩
            · rw [List.length_map]
              exact Nat.lt_of_lt_of_le (show fs.length < 101 by omega) (by decide)
            · refine ⟨⟨rfl, fun c o n e => ?_, (l0 :: lr).eraseIdx r.toNat, fs ++ [(l0 :: lr)[r.toNat]'hk], L3, ?_, ?_, ?_, ?_, ?_, ?_, hL3⟩, ?_⟩
              · exact (upd_ne (ne_of_none e hFH)).trans ((upd_ne (ne_of_none e hD)).trans (b3 _ _ n (sN _ _ (b2 _ _ n e))))
              · refine (upd_ne nDF).trans (upd_same.trans ?_)
                rw [map_erase]
              · refine upd_same.trans ?_
                rw [List.map_append]
                rfl
              · rw [List.length_append, List.length_eraseIdx_of_lt hk]
                simp only [List.length_cons, List.length_nil] at hk hlen ⊢
                omega
              · exact fun k hk => hls k (hm k hk)
              · intro k hk'
                rcases List.mem_append.mp hk' with h | h
                · exact hfs k h
                · rw [List.mem_singleton.mp h]
                  exact hls _ (List.getElem_mem hk)
              · exact (upd_ne nF.symm).trans ((upd_ne nD.symm).trans hp3)
              · rw [lenAt_of h1, lenAt_of ((upd_ne nDF).trans upd_same)]
                rw [List.length_eraseIdx_of_lt (by rw [List.length_map]; exact hk), List.length_map]
                simp only [List.length_cons]
                omega
      · rintro σ H1 Q1 Q2 hq ⟨v, hv, sz, k⟩
        exact ⟨v, hv, sz, fun l hl => by
          obtain ⟨a, c, xs, e1, e2, h1, h2, d, ed, kk⟩ := k l hl
          exact ⟨a, c, xs, e1, e2, h1, h2, d, ed, hq _ _ kk⟩⟩
end
end Paw

set_option maxRecDepth 100000
set_option maxHeartbeats 4000000
namespace Paw
open PySem PySem.Spec PyProof.Rows L2
abbrev sLIsName : Stmt := top 39
abbrev sDue : Stmt := top 41
def menuS : List Str := ["a", "b", "backward", "lever", "wheels", "brake", "tie", "zzzzzzzz"]
def spNames : Sp := fun vs H Q _ => ∃ (p : Addr) (b : Bool) (L : List V) (n : Nat), vs = [.ref p, .int (n : Int)] ∧ n ≤ 8 ∧ H p = some (.lst L) ∧ Pile b L ∧
  ∀ (H' : Hp) (q : Addr) (ss : List Str) (L' : List V), But p H H' → H q = none → H' q = some (.lst (ss.map V.str)) → ss.length = n → (∀ s ∈ ss, s ∈ menuS) → H' p = some (.lst L') → Pile b L' → Q (.ref q) H'
section
variable {P : Program} {w : World} {K : PySem.W.Frag} {mg : Str → Option Value} {base : Heap}
theorem scNames : FnScope ["pile", "many", "menu", "k"] ["pile", "many"] (defScope sNames) := ⟨rfl, rfl, rfl, by decide +kernel, rfl, by decide +kernel, by decide +kernel⟩
theorem ok_names {f fO : Addr} {fd fdO : FuncData} (F : Fun K "_law_names" "_law_names" sNames f fd) (GO : FnOk P w K mg base CX0 3 fO fdO ["pile", "many"] spOrder) (gO : mg "_law_order" = some (.ref fO)) (kO : PySem.W.keepIn K (.ref fO) = true)
    (bO : Binds K fdO ["pile", "many"] []) : FnOk P w K mg base CX0 4 f fd ["pile", "many"] spNames := by
  refine F.ok scNames (fun vs H Q E h => ?_) (fun cdv A outer s H vs Q E hr h => ?_)
  · obtain ⟨p, b, L, n, rfl, _⟩ := h
    rfl
  · obtain ⟨p, b, L, n, rfl, hn, hp, hL, q⟩ := h
    refine ⟨_, pss_cons (ps_set (i := 2) scNames.nd rfl (Or.inr rfl) (pe_lst (pa_cons pe_str (pa_cons pe_str (pa_cons pe_str (pa_cons pe_str (pa_cons pe_str (pa_cons pe_str (pa_cons pe_str (pa_cons pe_str pa_nil))))))))))
      (pss_one (ps_ret (pe_lc (own := [("k", 3)]) (g := gName 3) (tt := tYes) (te := tOp (rIxL K) (tVar 2) (tVar 3)) rfl scNames.nd (pi_list (pe_slice sl_list (pe_call GO hr rfl gO kO bO .nil pass0 (pa_cons (pv 0) (pa_cons pe_int pa_nil))) po_none (po_some (pv 1)))) (blkOk_by (N := ["pile", "many", "menu", "k"]) (sc := defScope sNames) (by decide +kernel))
        (fun _ _ _ _ _ => pg_name (i := 3) scNames.nd rfl (Or.inl rfl)) (fun _ _ _ _ _ => pts_nil) (fun _ _ _ _ _ => pe_ix ix_list (pv 2) (pv 3) (fun _ _ => rfl))))), ?_⟩
    refine ⟨(by show 8 ≤ sizeLine; decide), fun M hM => ?_⟩
    have nM : M ≠ p := (ne_of_none hp hM).symm
    have sM := same_new (o := .lst (menuS.map V.str)) hM
    refine ⟨_, rfl, p, b, L, 8, rfl, by decide, sM _ _ hp, hL, fun H1 o ks L1 b1 ho ho1 hks hlt hp1 hL1 => ?_⟩
    have kl : (ks.map fun k : Nat => V.int (k : Int)).length = 8 := by rw [List.length_map, hks]
    refine ⟨_, rfl, (n : Int), rfl, o, _, rfl, SqL.of ho1, fun S hS => ⟨S, rfl, ⟨_, SqL.of upd_same⟩, fun D hD => ?_⟩⟩
    rw [cut_take (by omega), ← List.map_take] at hD ⊢
    have sS := same_new (o := .lst ((ks.take n).map fun k : Nat => V.int (k : Int))) hS
    have nD : D ≠ p := (ne_of_none (sS _ _ hp1) hD).symm
    have hDS : D ≠ S := (ne_of_none upd_same hD).symm
    have hM1 : H1 M = some (.lst (menuS.map V.str)) := b1 _ _ nM upd_same
    have tl : ((ks.take n).map fun k : Nat => V.int (k : Int)).length = n := by
      rw [List.length_map, List.length_take, hks]
      omega
    have bH : ∀ (o : HO), But p H (upd (upd H1 S (.lst ((ks.take n).map fun k : Nat => V.int (k : Int)))) D o) := fun o' c o n e => same_new hD _ _ (sS _ _ (b1 _ _ n (sM _ _ e)))
    have hDH : H D = none := sM.free (by
      cases e : upd H M (.lst (menuS.map V.str)) D with
      | none => rfl
      | some o' =>
        have := sS _ _ (b1 _ _ nD e)
        rw [hD] at this
        cases this)
    have G : ∀ {H' : Hp}, Same (upd H1 S (.lst ((ks.take n).map fun k : Nat => V.int (k : Int)))) H' → H' M = some (.lst (menuS.map V.str)) := fun s => s _ _ (sS _ _ hM1)
    refine lc_list (xs := (ks.take n).map fun k : Nat => V.int (k : Int)) (fun i H' => Same (upd H1 S (.lst ((ks.take n).map fun k : Nat => V.int (k : Int)))) H' ∧ ∃ ss : List Str, H' D = some (.lst (ss.map V.str)) ∧ ss.length = i ∧ ∀ s ∈ ss, s ∈ menuS) ⟨same_new hD, [], upd_same, rfl, fun _ z => nomatch z⟩ (fun i H' _ hP => SqL.of (hP.1 _ _ upd_same)) ?_ ?_
    · rintro i x H2 hi ⟨s2, ss, e1, e2, e3⟩
      have hin : i < n := by
        have := (List.getElem?_eq_some_iff.mp hi).1
        omega
      rw [List.getElem?_map] at hi
      obtain ⟨k, hk, rfl⟩ := Option.map_eq_some_iff.mp hi
      have k8 : k < 8 := hlt k (List.mem_of_mem_take (List.mem_of_getElem? hk))
      have hm : ∃ z, menuS[k]? = some z := ⟨menuS[k]'k8, List.getElem?_eq_getElem k8⟩
      obtain ⟨z, hz⟩ := hm
      refine ⟨rfl, _, rfl, _, rfl, M, _, (k : Int), V.str z, rfl, rfl, SqL.of (G s2), ?_, _, e1, ?_, ?_⟩
      · refine atI_nat (j := k) ?_
        rw [List.getElem?_map, hz]
        rfl
      · rw [List.length_map, e2]
        exact Nat.lt_of_lt_of_le (show i < 9 by omega) (by decide)
      · refine ⟨fun c o' e => (upd_ne (ne_of_none e hD)).trans (s2 c o' e), ss ++ [z], ?_, by rw [List.length_append, e2]; rfl, ?_⟩
        · refine upd_same.trans ?_
          rw [List.map_append]
          rfl
        · intro y hy
          rcases List.mem_append.mp hy with h | h
          · exact e3 y h
          · rw [List.mem_singleton.mp h]
            exact List.mem_of_getElem? hz
    · rintro H2 ⟨s2, ss, e1, e2, e3⟩
      rw [tl] at e2
      exact q H2 D ss L1 (fun c o' n e => s2 _ _ (sS _ _ (b1 _ _ n (sM _ _ e)))) hDH e1 e2 e3 (s2 _ _ (sS _ _ hp1)) hL1
end
end Paw

set_option maxRecDepth 100000
set_option maxHeartbeats 4000000
namespace Paw
open PySem PySem.Spec PyProof.Rows L2
def abcS : Str := "abcdefghijklmnopqrstuvwxyz"
theorem abc_signs : abcS.cps.toList = (List.range 26).map (97 + ·) := by decide +kernel
theorem abc_ok {c : Nat} : (!(Builtin.Str.occurrences abcS ⟨#[c]⟩ 0 abcS.length 1).isEmpty) = okc c := by
  rw [StrLaws.found_one, abc_signs]
  unfold okc
  by_cases h : 97 ≤ c ∧ c ≤ 122
  · rw [decide_eq_true h.1, decide_eq_true h.2]
    refine decide_eq_true (List.mem_map.mpr ⟨c - 97, List.mem_range.mpr (by omega), by omega⟩)
  · have e : (decide (97 ≤ c) && decide (c ≤ 122)) = false := by
      by_cases h1 : 97 ≤ c
      · rw [decide_eq_false (fun h2 => h ⟨h1, h2⟩), Bool.and_false]
      · rw [decide_eq_false h1, Bool.false_and]
    rw [e]
    refine decide_eq_false (fun z => ?_)
    obtain ⟨k, hk, rfl⟩ := List.mem_map.mp z
    have := List.mem_range.mp hk
    exact h ⟨by omega, by omega⟩
/-! ### xs == [] -/
def rEqNil (K : PySem.W.Frag) : R2 := fun x y H Q => ∃ (a b : Addr) (xs : List V), x = .ref a ∧ y = .ref b ∧ SqL K H a xs ∧ SqL K H b [] ∧ Q (.bl xs.isEmpty) H
theorem op_eqNil {X : Cx} (hu : X.A.units < cLine) : OpR X (compareOp .Eq) (rEqNil X.K) := by
  intro pins s σ H x y v u Q I rx ry h
  obtain ⟨a, b, xs, rfl, rfl, ha, hb, q⟩ := h
  obtain rfl : v = Value.ref a := rx
  obtain rfl : u = Value.ref b := ry
  obtain ⟨its, r1, p1, _⟩ := I.list ha
  obtain ⟨its2, r2, p2, _⟩ := I.list hb
  cases r2
  cases r1 with
  | nil => exact SeqAt.eq_listAt (e := fun _ => true) p1.isList p2.isList rfl hu (fun j h1 _ => absurd h1 (Nat.not_lt_zero _)) ⟨.bl _, H, I, rfl, q⟩
  | cons r1 rs => exact SeqAt.eq_list_lengthsAt p1.isList p2.isList (by simp) hu ⟨.bl _, H, I, rfl, q⟩
section
variable {P : Program} {w : World} {K : PySem.W.Frag} {mg : Str → Option Value} {base : Heap}
theorem scLIsName : FnScope ["thing", "sign"] ["thing"] (defScope sLIsName) := ⟨rfl, rfl, rfl, by decide +kernel, rfl, by decide +kernel, by decide +kernel⟩
theorem ok_lisname {f : Addr} {fd : FuncData} (F : Fun K "_law_is_name" "_law_is_name" sLIsName f fd) (zs : mg "isinstance" = none) (zt : mg "str" = none) (zl : mg "len" = none) : FnOk P w K mg base CX0 1 f fd ["thing"] (spIsName K) := by
  refine F.ok scLIsName (fun vs H Q E h => ?_) (fun cdv A outer s H vs Q E hr h => ?_)
  · obtain ⟨x, d, rfl, _⟩ := h
    rfl
  · obtain ⟨x, d, rfl, hd, hlen, q⟩ := h
    refine ⟨_, pss_cons (ps_if (PW.pt (pw_or (pt_not (pt_val (pe_callB call_isi (by rfl) zs bt_isinstance (pa_cons (pv 0) (pa_cons (pe_bltn (v := .ty "str") (by rfl) zt bt_str rfl) pa_nil)))))
        (pw_or1 (pt_not (pt_chain op_lt op_lt pe_int (pe_callB call_len_str (by rfl) zl bt_len (pa_cons (pv 0) pa_nil)) pe_int))))) (pss_one (ps_ret pe_bl)) pss_nil)
      (pss_one (ps_ret (pe_cmpR (op_eqNil (Nat.lt_of_le_of_lt (Nat.le_add_right _ 64) hr.units)) (pe_lc (own := [("sign", 1)]) (g := gName 1) (tt := tTest (tOp (fun x y H Q => ∃ i j, x = .str i ∧ y = .str j ∧ Q (.bl (!(!(Builtin.Str.occurrences j i 0 j.length 1).isEmpty))) H) (tVar 1) (tC (.str abcS)))) (te := tVar 1) rfl scLIsName.nd (pi_str (pv 0)) (blkOk_by (N := ["thing", "sign"]) (sc := defScope sLIsName) (by decide +kernel))
        (fun _ _ _ _ _ => pg_name (i := 1) scLIsName.nd rfl (Or.inl rfl)) (fun _ _ _ _ _ => pts_one (pt_cmpR op_notin_str (pv 1) pe_str (by rfl))) (fun _ _ _ _ _ => pv 1)) (pe_lst pa_nil) (nomark _)))), ?_⟩
    refine ⟨_, rfl, x, .ty "str", _, _, _, rfl, .ty _, hd.ty, kit_str d, _, rfl, ?_⟩
    by_cases hs : isS d = true
    · obtain ⟨z, rfl⟩ : ∃ z, d = .str z := by
        cases d with
        | str z => exact ⟨z, rfl⟩
        | _ => cases hs
      cases hd
      have hz := hlen z rfl
      have e : isN (.str z) = (decide (1 ≤ z.length) && decide (z.length ≤ 8) && z.cps.toList.all okc) := rfl
      rw [e] at q
      have same0 : Same H H := fun _ _ e => e
      refine ⟨_, rfl, z, rfl, hz, _, _, rfl, rfl, _, rfl, ?_⟩
      by_cases h1 : 1 ≤ z.length
      · refine it_t (decide_eq_true (by omega)) ?_
        rw [decide_eq_true h1, Bool.true_and] at q
        refine ⟨_, _, rfl, rfl, _, rfl, ?_⟩
        by_cases h8 : z.length ≤ 8
        · refine it_f (by rw [decide_eq_true (by omega : ((z.length : Nat) : Int) < 9)]; rfl) ?_
          rw [decide_eq_true h8, Bool.true_and] at q
          refine ⟨_, rfl, z, rfl, fun D hD => ?_⟩
          refine lc_it (walk_str (z := z)) (fun i H' => Same H H' ∧ ∃ bs : List V, H' D = some (.lst bs) ∧ bs.length ≤ i ∧ bs.isEmpty = (z.cps.toList.take i).all okc) ⟨same_new hD, [], upd_same, Nat.le_refl _, rfl⟩ (fun _ _ _ _ => trivial) ?_ ?_
          · rintro i x H1 H2 hi ⟨s1, bs, hD1, hb1, hb2⟩ ⟨rfl, c, hc, rfl⟩
            have hc' : z.cps.toList[i]? = some c := by rw [Array.getElem?_toList, hc]
            have i8 : i < 8 := by
              have hzz : z.cps.size = z.length := rfl
              omega
            refine ⟨rfl, _, rfl, _, _, rfl, rfl, _, rfl, ?_⟩
            rw [abc_ok]
            cases k : okc c with
            | true =>
              refine it_f rfl ⟨s1, bs, hD1, by omega, ?_⟩
              rw [take_next hc', List.all_append, hb2]
              simp [k]
            | false =>
              refine it_t rfl ⟨_, rfl, _, hD1, Nat.lt_of_le_of_lt hb1 (Nat.lt_of_lt_of_le i8 (by decide)), fun b o e => (upd_ne (ne_of_none e hD)).trans (s1 _ _ e), _, upd_same, by rw [List.length_append]; exact Nat.succ_le_succ hb1, ?_⟩
              rw [take_next hc', List.all_append]
              simp [k]
          · rintro H1 ⟨s1, bs, hD1, hb1, hb2⟩
            rw [List.take_of_length_le (Nat.le_of_eq (Array.length_toList))] at hb2
            refine ⟨(by show 0 ≤ sizeLine; decide), fun N hN => ?_⟩
            have sN := same_new (o := .lst []) hN
            refine ⟨D, N, bs, rfl, rfl, SqL.of (sN _ _ hD1), SqL.of upd_same, ?_⟩
            rw [hb2]
            exact q _ (s1.trans sN)
        · refine it_t (by rw [decide_eq_false (by omega : ¬ ((z.length : Nat) : Int) < 9)]; rfl) ?_
          rw [decide_eq_false h8, Bool.false_and] at q
          exact q _ same0
      · refine it_f (decide_eq_false (by omega)) ?_
        rw [decide_eq_false h1, Bool.false_and, Bool.false_and] at q
        exact ⟨_, rfl, q _ same0⟩
    · have e : isN d = false := by cases d <;> first | exact absurd rfl hs | rfl
      have e2 : isS d = false := Bool.eq_false_iff.mpr hs
      rw [e] at q
      rw [e2]
      exact q _ fun _ _ e => e
end
end Paw

set_option maxRecDepth 100000
set_option maxHeartbeats 4000000
namespace Paw
open PySem PySem.Spec PyProof.Rows L2
def strsD : List PyData → List Str
  | .str s :: r => s :: strsD r
  | _ :: r => strsD r
  | [] => []
theorem strs_ds {K : PySem.W.Frag} {H : Hp} : ∀ {xs : List V} {ds : List PyData}, RDs K H xs ds → (∀ d ∈ ds, isN d = true) → xs = (strsD ds).map V.str
  | [], _, h, _ => by
    cases h
    rfl
  | x :: xs, _, h, g => by
    cases h with
    | @cons _ _ d ds h1 h2 =>
      have e := g d List.mem_cons_self
      cases d with
      | str s =>
        cases h1
        show _ = V.str s :: (strsD ds).map V.str
        rw [← strs_ds h2 fun y hy => g y (List.mem_cons_of_mem _ hy)]
      | _ => cases e
/-- what the names ask for -/
def outN (xs : List V) (ds : List PyData) : Option (Str × V) := match firstNo isN xs ds with
  | some v => some ("name", v)
  | none => (dup [] (strsD ds)).map fun s => ("twice", .str s)
def itemsO : Option (Str × V) → List V
  | some (w, v) => [.str w, v]
  | none => []
def Told (H : Hp) (a : Addr) (o : Option (Str × V)) : Prop := H a = some (.lst (itemsO o))
def spNDue (K : PySem.W.Frag) : Sp := fun vs H Q _ => ∃ (a : Addr) (xs : List V) (ds : List PyData), vs = [.ref a] ∧ SqL K H a xs ∧ RDs K H xs ds ∧ xs.length ≤ 100 ∧ (∀ d ∈ ds, LenOk d) ∧ ∀ (r : Addr) (H' : Hp), Same H H' → H r = none → Told H' r (outN xs ds) → Q (.ref r) H'
section
variable {P : Program} {w : World} {K : PySem.W.Frag} {mg : Str → Option Value} {base : Heap}
theorem scDue : FnScope ["names", "odd", "name", "k"] ["names"] (defScope sDue) := ⟨rfl, rfl, rfl, by decide +kernel, rfl, by decide +kernel, by decide +kernel⟩
theorem ok_ndue {f fI : Addr} {fd fdI : FuncData} (F : Fun K "_law_names_due" "_law_names_due" sDue f fd) (ze : mg "enumerate" = none)
    (GI : FnOk P w K mg base CX0 1 fI fdI ["thing"] (spIsName K)) (gI : mg "_law_is_name" = some (.ref fI)) (kI : PySem.W.keepIn K (.ref fI) = true) (bI : Binds K fdI ["thing"] []) : FnOk P w K mg base CX0 2 f fd ["names"] (spNDue K) := by
  refine F.ok scDue (fun vs H Q E h => ?_) (fun cdv A outer s H vs Q E hr h => ?_)
  · obtain ⟨a, xs, ds, rfl, _⟩ := h
    rfl
  · obtain ⟨a, xs, ds, rfl, ha, hds, lim, lens, q⟩ := h
    refine ⟨_, pss_cons (ps_setLc (i := 1) (own := [("name", 2)]) (g := gName 2) (tt := tNot (tB (tCall (spIsName K) [] E0 (tCons (tVar 2) tNil)))) (te := tVar 2) rfl scDue.nd rfl rfl (sw_true rfl rfl rfl (by decide +kernel)) (pi_list (pv 0)) (blkOk_by (N := ["names", "odd", "name", "k"]) (sc := defScope sDue) (by decide +kernel)) (fun _ _ _ _ _ => pg_name (i := 2) scDue.nd rfl (Or.inl rfl)) (fun _ _ _ _ _ => pts_one (pt_not (pt_val (pe_call GI hr rfl gI kI bI .nil pass0 (pa_cons (pv 2) pa_nil))))) (fun _ _ _ _ _ => pv 2))
      (pss_cons (ps_if (pt_cmpR (op_neNil (Nat.lt_of_le_of_lt (Nat.le_add_right _ 64) hr.units)) (pv 1) (pe_lst pa_nil) (nomark _)) (pss_one (ps_ret (pe_lst (pa_cons pe_str (pa_cons (pe_ix ix_list (pv 1) pe_int (fun _ _ => rfl)) pa_nil))))) pss_nil)
      (pss_cons (ps_for PassesOwn.never rfl (pi_enum (by rfl) ze (pa_cons (pv 0) pa_nil)) (pg_tup rfl (pgs_cons (pg_name (i := 3) scDue.nd rfl (Or.inl rfl)) (pgs_cons (pg_name (i := 2) scDue.nd rfl (Or.inl rfl)) pgs_nil)))
        (pss_one (ps_if (pt_cmpR op_in_seq (pv 2) (pe_slice sl_list (pv 0) po_none (po_some (pv 3))) (by rfl)) (pss_one (ps_ret (pe_lst (pa_cons pe_str (pa_cons (pv 2) pa_nil))))) pss_nil)))
      (pss_one (ps_ret (pe_lst pa_nil))))), ?_⟩
    refine ⟨_, rfl, a, rfl, ⟨xs, ha⟩, fun D hD => ?_⟩
    have hl := hds.length
    refine lc_list (xs := xs) (fun i H' => Same H H' ∧ ∃ bs : List V, H' D = some (.lst bs) ∧ bs.length ≤ i ∧ (bs = [] → firstNo isN xs ds = firstNo isN (xs.drop i) (ds.drop i)) ∧ (∀ v r, bs = v :: r → firstNo isN xs ds = some v)) ⟨same_new hD, [], upd_same, Nat.le_refl _, fun _ => rfl, fun _ _ z => nomatch z⟩ (fun i H' _ hP => hP.1.seq ha) ?_ ?_
    · rintro i x H1 hi ⟨s1, bs, hD1, hb, e1, e2⟩
      obtain ⟨d, hd, rd⟩ := hds.at_ hi
      have hi' : i < 100 := by
        have := (List.getElem?_eq_some_iff.mp hi).1
        omega
      refine ⟨rfl, _, rfl, x, d, rfl, RD.mono s1 _ _ rd, lens d (List.mem_of_getElem? hd), fun H2 s2 => ⟨_, rfl, ?_⟩⟩
      have f := firstNo_at (ok := isN) hi hd
      cases hF : isN d with
      | true =>
        rw [hF, if_pos rfl] at f
        exact it_f rfl ⟨s1.trans s2, bs, s2 _ _ hD1, by omega, fun z => (e1 z).trans f, e2⟩
      | false =>
        rw [hF, if_neg Bool.false_ne_true] at f
        refine it_t rfl ⟨_, rfl, bs, s2 _ _ hD1, Nat.lt_of_le_of_lt hb (Nat.lt_of_lt_of_le hi' (by decide)), fun b o e => (upd_ne (ne_of_none e hD)).trans ((s1.trans s2) _ _ e), bs ++ [x], upd_same, by rw [List.length_append]; exact Nat.succ_le_succ hb, fun z => by simp at z, fun v r z => ?_⟩
        cases bs with
        | nil =>
          injection z with z1 _
          rw [← z1]
          exact (e1 rfl).trans f
        | cons y ys =>
          injection z with z1 _
          rw [← z1]
          exact e2 _ _ rfl
    · rintro H1 ⟨s1, bs, hD1, hb, e1, e2⟩
      refine ⟨_, rfl, (by show 0 ≤ sizeLine; decide), fun N hN => ?_⟩
      have sN := same_new (o := .lst []) hN
      have hD2 := sN _ _ hD1
      have s2 := s1.trans sN
      refine ⟨D, N, bs, rfl, rfl, SqL.of hD2, SqL.of upd_same, _, rfl, ?_⟩
      cases bs with
      | cons v r =>
        refine it_t rfl ⟨_, rfl, D, _, 0, v, rfl, rfl, SqL.of hD2, atI_nat (j := 0) rfl, (by show 2 ≤ sizeLine; decide), fun R hR => q R _ (s2.trans (same_new hR)) (s2.free hR) ?_⟩
        unfold Told outN
        rw [e2 v r rfl]
        exact upd_same
      | nil =>
        refine it_f rfl ?_
        have hn : firstNo isN xs ds = none := by
          rw [e1 rfl, List.drop_length]
          unfold firstNo
          rfl
        have hx := strs_ds hds (firstNo_all hl hn)
        have ho : outN xs ds = (dup [] (strsD ds)).map fun s : Str => (("twice" : Str), V.str s) := by
          unfold outN
          rw [hn]
        generalize strsD ds = ss at hx ho
        subst hx
        have hsl : (ss.map V.str).length = ss.length := List.length_map _
        refine ⟨_, rfl, a, _, rfl, s2.seq ha, for_it (walk_enum (xs := ss.map V.str)) (fun i σ H' => Same H H' ∧ (∃ v1 v2 : Option V, σ = [some (.ref a), some (.ref D), v1, v2]) ∧ dup [] ss = dup (ss.take i) (ss.drop i)) ⟨s2, ⟨none, none, rfl⟩, rfl⟩ (fun i σ H' _ hP => hP.1.seq ha) ?_ ?_⟩
        · rintro i x σ H3 H4 hi ⟨s3, ⟨v1, v2, rfl⟩, e⟩ ⟨T0, u, t, rfl, hT, rfl, e1, e2⟩
          have e2 : (ss.map V.str)[i]? = some t := e2
          cases e1
          rw [List.getElem?_map] at e2
          obtain ⟨z, hz, rfl⟩ := Option.map_eq_some_iff.mp e2
          have sT := same_new (o := .tup [.int (i : Int), .str z]) hT
          have hi' : i < ss.length := (List.getElem?_eq_some_iff.mp hz).1
          refine ⟨T0, _, rfl, SqT.of upd_same, rfl, _, _, rfl, _, _, rfl, rfl, _, rfl, _, rfl, _, rfl, ?_⟩
          refine ⟨_, rfl, a, _, rfl, (s3.trans sT).seq ha, fun q1 hq1 => ?_⟩
          rw [cut_take (by rw [hsl]; omega), ← List.map_take]
          refine ⟨q1, _, rfl, .inl (SqL.of upd_same), rfl, flat_strs _, _, rfl, ?_⟩
          have sQ := same_new (o := .lst ((ss.take i).map V.str)) hq1
          rw [dup_at hz] at e
          have einv : (if false = true then !inV (.str z) ((ss.take i).map V.str) else inV (.str z) ((ss.take i).map V.str)) = decide (z ∈ ss.take i) := (if_neg Bool.false_ne_true).trans (inV_str _)
          rw [einv]
          have s4 := (s3.trans sT).trans sQ
          cases hm : decide (z ∈ ss.take i) with
          | true =>
            rw [hm, if_pos rfl] at e
            refine it_t rfl ⟨_, rfl, (by show 2 ≤ sizeLine; decide), fun R hR => q R _ (s4.trans (same_new hR)) (s4.free hR) ?_⟩
            unfold Told
            rw [ho, e]
            exact upd_same
          | false =>
            rw [hm, if_neg Bool.false_ne_true] at e
            exact it_f rfl ⟨s4, ⟨_, _, rfl⟩, e⟩
        · rintro σ H3 ⟨s3, ⟨v1, v2, rfl⟩, e⟩
          refine ⟨(by show 0 ≤ sizeLine; decide), fun R hR => q R _ (s3.trans (same_new hR)) (s3.free hR) ?_⟩
          rw [hsl, List.drop_length] at e
          unfold Told
          rw [ho, e]
          unfold dup
          exact upd_same
end
end Paw

set_option maxRecDepth 100000
set_option maxHeartbeats 4000000
namespace Paw
open PySem PySem.Spec PyProof.Rows L2
abbrev sKind : Stmt := top 42
/-- isinstance(e, c), e None or an error that is kept -/
def rKeptIs (K : PySem.W.Frag) : List V → Hp → VK → Prop := fun xs H Q => ∃ (x c : V) (cv : Value) (b : Bool), xs = [x, c] ∧ ClsV c cv ∧ Q (.bl b) H ∧
  ((x = .non ∧ PySem.W.kitOne K (.type "NoneType") cv = some b) ∨ ∃ (a C d : Addr) (fs : List (Str × V)), x = .ref a ∧ ExV K C ∧ H a = some (exr a (.ref C) (some d)) ∧ H d = some (.xd fs) ∧ PySem.W.kitOne K (.ref C) cv = some b)
theorem call_keptIs {X : Cx} : CallR X (.builtin "isinstance") (rKeptIs X.K) := by
  intro pins s σ H xs us Q I r h
  obtain ⟨x, c, cv, b, rfl, hc, q, h⟩ := h
  rcases h with ⟨rfl, ek⟩ | ⟨a, C, d, fs, rfl, T, ea, ed, ek⟩
  · exact call_isi pins s σ H _ us Q I r ⟨.non, c, _, cv, b, rfl, hc, RD.ty .non, ek, q⟩
  · obtain ⟨u1, u2, rfl, r1, r2⟩ := vals2 r
    cases (show u1 = Value.ref a from r1)
    have e2 := hc.eq r2
    subst e2
    obtain ⟨oe, vs, ho, hz, hd⟩ := exr_at I.hok ea
    have hcl : (PySem.W.clsIn X.K C).isSome = true := by
      obtain ⟨cd, hcd, _⟩ := PySem.W.any_some T.hd
      rw [hcd]
      rfl
    have fin : ∀ tk, EP X pins σ Q (.bool b) { s with toks := tk } := fun tk => ⟨.bl b, H, I.tok tk, rfl, q⟩
    obtain ⟨mA, hn, rel⟩ := (show ObjOk X.prog X.w H s.heap d (.xd fs) from I.hok d _ ed)
    obtain ⟨od, hod, hl⟩ := lookIn_ns hn
    have J : PySem.W.InstAt s.heap a oe C (some od) := by
      refine ⟨ho, hz.1, ?_, ?_⟩
      · unfold PySem.W.notCls
        rw [hd]
      · rw [hz.2]
        exact hod
    exact PySem.W.kia_one (PySem.W.kitx_exc hcl T.ga T.gg T.oex.exC T.ca T.cg T.ct T.ob) I.kIn J ek (fun z => nomatch z) fin
/-- the classes of the errors -/
structure Cls7 where
  cN : Addr
  cT : Addr
  cE : Addr
  cP : Addr
  cW : Addr
  cX : Addr
  cF : Addr
structure Kit7 (K : PySem.W.Frag) (mg : Str → Option Value) (c : Cls7) : Prop where
  gN : mg "NoName" = some (.ref c.cN)
  gT : mg "Twice" = some (.ref c.cT)
  gE : mg "NoTeeth" = some (.ref c.cE)
  gP : mg "NoPart" = some (.ref c.cP)
  gW : mg "NoWheel" = some (.ref c.cW)
  gX : mg "NoText" = some (.ref c.cX)
  gF : mg "NoFraction" = some (.ref c.cF)
  nN : PySem.W.kitOne K (.type "NoneType") (.ref c.cN) = some false
  nT : PySem.W.kitOne K (.type "NoneType") (.ref c.cT) = some false
  nE : PySem.W.kitOne K (.type "NoneType") (.ref c.cE) = some false
  nP : PySem.W.kitOne K (.type "NoneType") (.ref c.cP) = some false
  nW : PySem.W.kitOne K (.type "NoneType") (.ref c.cW) = some false
  nX : PySem.W.kitOne K (.type "NoneType") (.ref c.cX) = some false
  nF : PySem.W.kitOne K (.type "NoneType") (.ref c.cF) = some false
  NN : PySem.W.kitOne K (.ref c.cN) (.ref c.cN) = some true
  TN : PySem.W.kitOne K (.ref c.cT) (.ref c.cN) = some false
  TT : PySem.W.kitOne K (.ref c.cT) (.ref c.cT) = some true
  EN : PySem.W.kitOne K (.ref c.cE) (.ref c.cN) = some false
  ET : PySem.W.kitOne K (.ref c.cE) (.ref c.cT) = some false
  EE : PySem.W.kitOne K (.ref c.cE) (.ref c.cE) = some true
  vN : ExV K c.cN
  vT : ExV K c.cT
  vE : ExV K c.cE
  oN : PySem.W.findIn K (.ref c.cN) "name" = some none
  oT : PySem.W.findIn K (.ref c.cT) "name" = some none
  oE : PySem.W.findIn K (.ref c.cE) "value" = some none
/-- the error of the class C with the field f -/
def KeptAt (H : Hp) (x : V) (C : Addr) (f : Str) (v : V) : Prop := ∃ a d, x = .ref a ∧ H a = some (exr a (.ref C) (some d)) ∧ H d = some (.xd [(f, v)])
/-- what is kept: the word that tells it -/
inductive Kept (c : Cls7) (H : Hp) (x : V) : Option (Str × V) → Prop
  | non : x = .non → Kept c H x none
  | name {v : V} : KeptAt H x c.cN "name" v → Kept c H x (some ("name", v))
  | twice {v : V} : KeptAt H x c.cT "name" v → Kept c H x (some ("twice", v))
  | teeth {v : V} : KeptAt H x c.cE "value" v → Kept c H x (some ("teeth", v))
def kindItems : Option (Str × V) → List V
  | some (w, v) => [.str w, v]
  | none => [.str "another"]
def spKind (c : Cls7) : Sp := fun vs H Q _ => ∃ (x : V) (o : Option (Str × V)), vs = [x] ∧ Kept c H x o ∧ ∀ (r : Addr) (H' : Hp), Same H H' → H r = none → H' r = some (.lst (kindItems o)) → Q (.ref r) H'
section
variable {P : Program} {w : World} {K : PySem.W.Frag} {mg : Str → Option Value} {base : Heap}
theorem scKind : FnScope ["error"] ["error"] (defScope sKind) := ⟨rfl, rfl, rfl, by decide +kernel, rfl, by decide +kernel, by decide +kernel⟩
theorem ok_kind {c : Cls7} {f : Addr} {fd : FuncData} (F : Fun K "_law_kind" "_law_kind" sKind f fd) (T : Kit7 K mg c) (zi : mg "isinstance" = none) : FnOk P w K mg base CX0 1 f fd ["error"] (spKind c) := by
  refine F.ok scKind (fun vs H Q E h => ?_) (fun cdv A outer s H vs Q E hr h => ?_)
  · obtain ⟨x, o, rfl, _⟩ := h
    rfl
  · obtain ⟨x, o, rfl, hk, q⟩ := h
    refine ⟨_, pss_cons (ps_if (pt_val (pe_callB call_keptIs (by rfl) zi bt_isinstance (pa_cons (pv 0) (pa_cons (pe_glob (v := .ref c.cN) rfl T.gN rfl) pa_nil)))) (pss_one (ps_ret (pe_lst (pa_cons pe_str (pa_cons (pe_excFld (pv 0)) pa_nil))))) pss_nil)
      (pss_cons (ps_if (pt_val (pe_callB call_keptIs (by rfl) zi bt_isinstance (pa_cons (pv 0) (pa_cons (pe_glob (v := .ref c.cT) rfl T.gT rfl) pa_nil)))) (pss_one (ps_ret (pe_lst (pa_cons pe_str (pa_cons (pe_excFld (pv 0)) pa_nil))))) pss_nil)
      (pss_cons (ps_if (pt_val (pe_callB call_keptIs (by rfl) zi bt_isinstance (pa_cons (pv 0) (pa_cons (pe_glob (v := .ref c.cE) rfl T.gE rfl) pa_nil)))) (pss_one (ps_ret (pe_lst (pa_cons pe_str (pa_cons (pe_excFld (pv 0)) pa_nil))))) pss_nil)
      (pss_cons (ps_if (pt_val (pe_callB call_keptIs (by rfl) zi bt_isinstance (pa_cons (pv 0) (pa_cons (pe_glob (v := .ref c.cP) rfl T.gP rfl) pa_nil)))) (pss_one (ps_ret (pe_lst (pa_cons pe_str (pa_cons (pe_excFld (pv 0)) pa_nil))))) pss_nil)
      (pss_cons (ps_if (pt_val (pe_callB call_keptIs (by rfl) zi bt_isinstance (pa_cons (pv 0) (pa_cons (pe_glob (v := .ref c.cW) rfl T.gW rfl) pa_nil)))) (pss_one (ps_ret (pe_lst (pa_cons pe_str (pa_cons (pe_excFld (pv 0)) pa_nil))))) pss_nil)
      (pss_cons (ps_if (pt_val (pe_callB call_keptIs (by rfl) zi bt_isinstance (pa_cons (pv 0) (pa_cons (pe_glob (v := .ref c.cX) rfl T.gX rfl) pa_nil)))) (pss_one (ps_ret (pe_lst (pa_cons pe_str (pa_cons (pe_excFld (pv 0)) pa_nil))))) pss_nil)
      (pss_cons (ps_if (pt_val (pe_callB call_keptIs (by rfl) zi bt_isinstance (pa_cons (pv 0) (pa_cons (pe_glob (v := .ref c.cF) rfl T.gF rfl) pa_nil)))) (pss_one (ps_ret (pe_lst (pa_cons pe_str (pa_cons (pe_excFld (pv 0)) pa_nil))))) pss_nil)
      (pss_one (ps_ret (pe_lst (pa_cons pe_str pa_nil)))))))))), ?_⟩
    cases hk with
    | non hx =>
      subst hx
      refine ⟨_, rfl, _, _, _, _, rfl, .own _, ?_, .inl ⟨rfl, T.nN⟩⟩
      refine ⟨_, rfl, it_f rfl ⟨_, rfl, _, _, _, _, rfl, .own _, ?_, .inl ⟨rfl, T.nT⟩⟩⟩
      refine ⟨_, rfl, it_f rfl ⟨_, rfl, _, _, _, _, rfl, .own _, ?_, .inl ⟨rfl, T.nE⟩⟩⟩
      refine ⟨_, rfl, it_f rfl ⟨_, rfl, _, _, _, _, rfl, .own _, ?_, .inl ⟨rfl, T.nP⟩⟩⟩
      refine ⟨_, rfl, it_f rfl ⟨_, rfl, _, _, _, _, rfl, .own _, ?_, .inl ⟨rfl, T.nW⟩⟩⟩
      refine ⟨_, rfl, it_f rfl ⟨_, rfl, _, _, _, _, rfl, .own _, ?_, .inl ⟨rfl, T.nX⟩⟩⟩
      refine ⟨_, rfl, it_f rfl ⟨_, rfl, _, _, _, _, rfl, .own _, ?_, .inl ⟨rfl, T.nF⟩⟩⟩
      exact ⟨_, rfl, it_f rfl ⟨(by show 1 ≤ sizeLine; decide), fun R hR => q R _ (same_new hR) hR upd_same⟩⟩
    | name h =>
      obtain ⟨a, d, rfl, h1, h2⟩ := h
      refine ⟨_, rfl, _, _, _, _, rfl, .own _, ?_, .inr ⟨a, c.cN, d, _, rfl, T.vN, h1, h2, T.NN⟩⟩
      exact ⟨_, rfl, it_t rfl ⟨_, rfl, a, c.cN, d, _, _, rfl, T.vN, T.oN, h1, h2, rfl, (by show 2 ≤ sizeLine; decide), fun R hR => q R _ (same_new hR) hR upd_same⟩⟩
    | twice h =>
      obtain ⟨a, d, rfl, h1, h2⟩ := h
      refine ⟨_, rfl, _, _, _, _, rfl, .own _, ?_, .inr ⟨a, c.cT, d, _, rfl, T.vT, h1, h2, T.TN⟩⟩
      refine ⟨_, rfl, it_f rfl ⟨_, rfl, _, _, _, _, rfl, .own _, ?_, .inr ⟨a, c.cT, d, _, rfl, T.vT, h1, h2, T.TT⟩⟩⟩
      exact ⟨_, rfl, it_t rfl ⟨_, rfl, a, c.cT, d, _, _, rfl, T.vT, T.oT, h1, h2, rfl, (by show 2 ≤ sizeLine; decide), fun R hR => q R _ (same_new hR) hR upd_same⟩⟩
    | teeth h =>
      obtain ⟨a, d, rfl, h1, h2⟩ := h
      refine ⟨_, rfl, _, _, _, _, rfl, .own _, ?_, .inr ⟨a, c.cE, d, _, rfl, T.vE, h1, h2, T.EN⟩⟩
      refine ⟨_, rfl, it_f rfl ⟨_, rfl, _, _, _, _, rfl, .own _, ?_, .inr ⟨a, c.cE, d, _, rfl, T.vE, h1, h2, T.ET⟩⟩⟩
      refine ⟨_, rfl, it_f rfl ⟨_, rfl, _, _, _, _, rfl, .own _, ?_, .inr ⟨a, c.cE, d, _, rfl, T.vE, h1, h2, T.EE⟩⟩⟩
      exact ⟨_, rfl, it_t rfl ⟨_, rfl, a, c.cE, d, _, _, rfl, T.vE, T.oE, h1, h2, rfl, (by show 2 ≤ sizeLine; decide), fun R hR => q R _ (same_new hR) hR upd_same⟩⟩
end
end Paw

set_option maxRecDepth 100000
set_option maxHeartbeats 4000000
namespace Paw
open PySem PySem.Spec PyProof.Rows L2
abbrev sLDue : Stmt := top 44
/-- what a constructor of that kind says: the word and the value -/
def outK (n : Nat) (xs : List V) (ds : List PyData) (ts : List V) (es : List PyData) (bk : V) (dk : PyData) : Option (Str × V) := match outN xs ds with
  | some o => some o
  | none => if n < 3 then (firstNo okT ts es).map fun v : V => (("teeth" : Str), v) else if n = 4 ∧ isB dk = false then some ("teeth", bk) else none
theorem lt_one' {i : Int} : decide (i < 1) = !decide (1 ≤ i) := by
  by_cases h : i < 1 <;> simp [h] <;> omega
def spDueK (K : PySem.W.Frag) : Sp := fun vs H Q _ => ∃ (n : Nat) (a t : Addr) (xs ts : List V) (bk : V) (ds es : List PyData) (dk : PyData), vs = [.int (n : Int), .ref a, .ref t, bk] ∧ SqL K H a xs ∧ RDs K H xs ds ∧ xs.length ≤ 100 ∧ (∀ d ∈ ds, LenOk d) ∧ SqL K H t ts ∧ RDs K H ts es ∧ ts.length ≤ 100 ∧ RD K H bk dk ∧
  ∀ (r : Addr) (H' : Hp), Same H H' → H r = none → Told H' r (outK n xs ds ts es bk dk) → Q (.ref r) H'
section
variable {P : Program} {w : World} {K : PySem.W.Frag} {mg : Str → Option Value} {base : Heap}
theorem scLDue : FnScope ["kind", "names", "teeth", "back", "due", "wrong", "one"] ["kind", "names", "teeth", "back"] (defScope sLDue) := ⟨rfl, rfl, rfl, by decide +kernel, rfl, by decide +kernel, by decide +kernel⟩
theorem ok_due {f fI fD : Addr} {fd fdI fdD : FuncData} (F : Fun K "_law_due" "_law_due" sLDue f fd)
    (GD : FnOk P w K mg base CX0 2 fD fdD ["names"] (spNDue K)) (gD : mg "_law_names_due" = some (.ref fD)) (kD : PySem.W.keepIn K (.ref fD) = true) (bD : Binds K fdD ["names"] [])
    (GI : FnOk P w K mg base CX0 1 fI fdI ["thing"] (spIsInt K)) (gI : mg "_law_whole" = some (.ref fI)) (kI : PySem.W.keepIn K (.ref fI) = true) (bI : Binds K fdI ["thing"] []) : FnOk P w K mg base CX0 3 f fd ["kind", "names", "teeth", "back"] (spDueK K) := by
  refine F.ok scLDue (fun vs H Q E h => ?_) (fun cdv A outer s H vs Q E hr h => ?_)
  · obtain ⟨n, a, t, xs, ts, bk, ds, es, dk, rfl, _⟩ := h
    rfl
  · obtain ⟨n, a, t, xs, ts, bk, ds, es, dk, rfl, ha, hds, lim, lens, ht, hes, limT, hbk, q⟩ := h
    have hu := Nat.lt_of_le_of_lt (Nat.le_add_right _ 64) hr.units
    refine ⟨_, pss_cons (ps_set (i := 4) scLDue.nd rfl (Or.inl rfl) (pe_call GD hr rfl gD kD bD .nil pass0 (pa_cons (pv 1) pa_nil)))
      (pss_cons (ps_if (pt_cmpR (op_neNil hu) (pv 4) (pe_lst pa_nil) (nomark _)) (pss_one (ps_ret (pv 4))) pss_nil)
      (pss_cons (ps_setLc (i := 5) (own := [("one", 6)]) (g := gName 6) (tt := tOr (tNot (tB (tCall (spIsInt K) [] E0 (tCons (tVar 6) tNil)))) (tTest (tOp (rI0 fun i j => .bl (decide (i < j))) (tVar 6) (tC (.int 1))))) (te := tVar 6) rfl scLDue.nd rfl rfl (sw_true rfl rfl rfl (by decide +kernel)) (pi_list (pv 2)) (blkOk_by (N := ["kind", "names", "teeth", "back", "due", "wrong", "one"]) (sc := defScope sLDue) (by decide +kernel)) (fun _ _ _ _ _ => pg_name (i := 6) scLDue.nd rfl (Or.inl rfl))
        (fun _ _ _ _ _ => pts_one (PW.pt (pw_or (pt_not (pt_val (pe_call GI (hr.mono (by decide)) rfl gI kI bI .nil pass0 (pa_cons (pv 6) pa_nil)))) (pw_or1 (pt_cmpR op_lt (pv 6) pe_int (nomark _)))))) (fun _ _ _ _ _ => pv 6))
      (pss_cons (ps_if (PW.pt (pw_and (pt_cmpR op_lt (pv 0) pe_int (nomark _)) (pw_and1 (pt_cmpR (op_neNil hu) (pv 5) (pe_lst pa_nil) (nomark _))))) (pss_one (ps_ret (pe_lst (pa_cons pe_str (pa_cons (pe_ix ix_list (pv 5) pe_int (fun _ _ => rfl)) pa_nil))))) pss_nil)
      (pss_cons (ps_if (PW.pt (pw_and (pt_cmpR op_eq (pv 0) pe_int (nomark _)) (pw_and (pt_cmpR op_notBA (pv 3) pe_bl (nomark _)) (pw_and1 (pt_cmpR op_notBA (pv 3) pe_bl (nomark _)))))) (pss_one (ps_ret (pe_lst (pa_cons pe_str (pa_cons (pv 3) pa_nil))))) pss_nil)
      (pss_one (ps_ret (pe_lst pa_nil))))))), ?_⟩
    refine ⟨_, rfl, a, xs, ds, rfl, ha, hds, lim, lens, fun r0 H0 s0 nr0 told => ?_⟩
    refine ⟨_, rfl, (by show 0 ≤ sizeLine; decide), fun N hN => ?_⟩
    have sN := same_new (o := .lst []) hN
    have s1 := s0.trans sN
    have told1 := sN _ _ told
    refine ⟨r0, N, _, rfl, rfl, SqL.of told1, SqL.of upd_same, _, rfl, ?_⟩
    cases ho : outN xs ds with
    | some o =>
      obtain ⟨w0, v0⟩ := o
      refine it_t rfl ⟨_, rfl, q r0 _ s1 nr0 ?_⟩
      unfold Told outK
      rw [ho]
      unfold Told at told1
      rw [ho] at told1
      exact told1
    | none =>
      refine it_f rfl ⟨_, rfl, t, rfl, ⟨ts, s1.seq ht⟩, fun D hD => ?_⟩
      have hl := hes.length
      refine lc_list (xs := ts) (fun i H' => Same (upd H0 N (.lst [])) H' ∧ ∃ bs : List V, H' D = some (.lst bs) ∧ bs.length ≤ i ∧ (bs = [] → firstNo okT ts es = firstNo okT (ts.drop i) (es.drop i)) ∧ (∀ v r, bs = v :: r → firstNo okT ts es = some v)) ⟨same_new hD, [], upd_same, Nat.le_refl _, fun _ => rfl, fun _ _ z => nomatch z⟩ (fun i H' _ hP => (s1.trans hP.1).seq ht) ?_ ?_
      · rintro i x H1 hi ⟨s2, bs, hD1, hb, e1, e2⟩
        obtain ⟨d, hd, rd⟩ := hes.at_ hi
        have hi' : i < 100 := by
          have := (List.getElem?_eq_some_iff.mp hi).1
          omega
        have rd1 := RD.mono (s1.trans s2) _ _ rd
        have g := firstNo_at (ok := okT) hi hd
        have add : okT d = false → ∃ acc, H1 D = some (.lst acc) ∧ acc.length < sizeLine ∧ Same (upd H0 N (.lst [])) (upd H1 D (.lst (acc ++ [x]))) ∧ ∃ bs : List V, (upd H1 D (.lst (acc ++ [x]))) D = some (.lst bs) ∧ bs.length ≤ i + 1 ∧ (bs = [] → firstNo okT ts es = firstNo okT (ts.drop (i + 1)) (es.drop (i + 1))) ∧ (∀ v r, bs = v :: r → firstNo okT ts es = some v) := by
          intro hF
          rw [hF, if_neg Bool.false_ne_true] at g
          refine ⟨bs, hD1, Nat.lt_of_le_of_lt hb (Nat.lt_of_lt_of_le hi' (by decide)), fun b o e => (upd_ne (ne_of_none e hD)).trans (s2 _ _ e), bs ++ [x], upd_same, by rw [List.length_append]; exact Nat.succ_le_succ hb, fun z => by simp at z, fun v r z => ?_⟩
          cases bs with
          | nil =>
            injection z with z1 _
            rw [← z1]
            exact (e1 rfl).trans g
          | cons y ys =>
            injection z with z1 _
            rw [← z1]
            exact e2 _ _ rfl
        refine ⟨rfl, _, rfl, x, d, rfl, rd1, _, rfl, ?_⟩
        cases hI : isI d with
        | false =>
          have hF : okT d = false := by cases d <;> first | rfl | cases hI
          exact it_t rfl (it_t rfl ⟨_, rfl, add hF⟩)
        | true =>
          obtain ⟨j, rfl⟩ : ∃ j, d = .int j := by
            cases d with
            | int j => exact ⟨j, rfl⟩
            | _ => cases hI
          cases rd1
          refine it_f rfl ⟨_, rfl, _, _, rfl, rfl, _, rfl, ?_⟩
          have ej : okT (.int j) = decide (1 ≤ j) := rfl
          rw [lt_one', ← ej]
          cases hF : okT (.int j) with
          | true =>
            rw [hF, if_pos rfl] at g
            exact it_f rfl ⟨s2, bs, hD1, by omega, fun z => (e1 z).trans g, e2⟩
          | false => exact it_t rfl ⟨_, rfl, add hF⟩
      · rintro H1 ⟨s2, bs, hD1, hb, e1, e2⟩
        have s3 := s1.trans s2
        have fo : firstNo okT ts es = bs.head? := by
          cases bs with
          | cons v r => exact e2 v r rfl
          | nil =>
            rw [e1 rfl, List.drop_length]
            unfold firstNo
            rfl
        have okb := hbk.ok
        have nil : ∀ {H' : Hp}, outK n xs ds ts es bk dk = none → Same H H' → ∀ R, H' R = none → Q (.ref R) (upd H' R (.lst [])) := fun {H'} e s' R hR => q R _ (s'.trans (same_new hR)) (s'.free hR) (by unfold Told; rw [e]; exact upd_same)
        have one : ∀ {H' : Hp} {v : V}, outK n xs ds ts es bk dk = some (("teeth" : Str), v) → Same H H' → ∀ R, H' R = none → Q (.ref R) (upd H' R (.lst [.str "teeth", v])) := fun {H' v} e s' R hR => q R _ (s'.trans (same_new hR)) (s'.free hR) (by unfold Told; rw [e]; exact upd_same)
        refine ⟨_, rfl, _, _, rfl, rfl, _, rfl, ?_⟩
        by_cases h3 : n < 3
        · have hk : outK n xs ds ts es bk dk = bs.head?.map fun v : V => (("teeth" : Str), v) := by
            unfold outK
            rw [ho, ← fo]
            exact if_pos h3
          refine it_t (decide_eq_true (by omega)) ?_
          refine ⟨_, rfl, (by show 0 ≤ sizeLine; decide), fun N2 hN2 => ?_⟩
          have sM := same_new (o := .lst []) hN2
          have hD2 := sM _ _ hD1
          refine ⟨D, N2, bs, rfl, rfl, SqL.of hD2, SqL.of upd_same, _, rfl, ?_⟩
          cases bs with
          | cons v r => exact it_t rfl ⟨_, rfl, D, _, 0, v, rfl, rfl, SqL.of hD2, atI_nat (j := 0) rfl, (by show 2 ≤ sizeLine; decide), one hk (s3.trans sM)⟩
          | nil =>
            refine it_f rfl ⟨_, rfl, rfl, _, rfl, it_f (decide_eq_false fun z => ?_) ?_⟩
            · injection z with z
              omega
            · exact it_f rfl ⟨(by show 0 ≤ sizeLine; decide), nil hk (s3.trans sM)⟩
        · refine it_f (decide_eq_false (by omega)) (it_f rfl ⟨_, rfl, rfl, _, rfl, ?_⟩)
          have hk : outK n xs ds ts es bk dk = if n = 4 ∧ isB dk = false then some (("teeth" : Str), bk) else none := by
            unfold outK
            rw [ho]
            exact if_neg h3
          by_cases h4 : n = 4
          · subst h4
            refine it_t (decide_eq_true rfl) ⟨_, rfl, true, rfl, okb, _, rfl, ?_⟩
            cases hbb : isB dk with
            | true =>
              have hk0 := hk.trans (if_neg (by simp [hbb]))
              obtain ⟨b, rfl⟩ : ∃ b, dk = .bool b := by
                cases dk with
                | bool b => exact ⟨b, rfl⟩
                | _ => cases hbb
              cases hbk
              cases b with
              | true => exact it_f (by decide) (it_f rfl ⟨(by show 0 ≤ sizeLine; decide), nil hk0 s3⟩)
              | false => exact it_t (by decide) ⟨_, rfl, false, rfl, rfl, _, rfl, it_f (by decide) ⟨(by show 0 ≤ sizeLine; decide), nil hk0 s3⟩⟩
            | false =>
              have hk0 := hk.trans (if_pos ⟨rfl, hbb⟩)
              have no : ∀ b, bk ≠ .bl b := fun b z => by
                subst z
                cases hbk
                cases hbb
              exact it_t (by simp [no true]) ⟨_, rfl, false, rfl, okb, _, rfl, it_t (by simp [no false]) ⟨_, rfl, (by show 2 ≤ sizeLine; decide), one hk0 s3⟩⟩
          · refine it_f (decide_eq_false fun z => ?_) (it_f rfl ⟨(by show 0 ≤ sizeLine; decide), nil (hk.trans (if_neg fun z => h4 z.1)) s3⟩)
            injection z with z
            omega
end
end Paw

set_option maxRecDepth 100000
set_option maxHeartbeats 4000000
namespace Paw
open PySem PySem.Spec PyProof.Rows L2
/-! ### C(e, .., k = v, ..) in a try -/
def tMakeKS (C : Addr) (n m : Nat) (sp : Sp) (gV : List V → List V → List V) (E : L2.St → XK) (t tk : TA) : TE := fun σ H Q => t σ H fun vs H1 => tk σ H1 fun zs H2 => vs.length = n ∧ zs.length = m ∧
  ∀ x dx, H2 x = none → H2 dx = none → dx ≠ x → sp (gV (.ref x :: vs) zs) (upd (upd H2 dx (.own x)) x (.ins C dx [])) (fun v H3 => v = .non ∧ Q (.ref x) H3) (E σ)
section
variable {X : Cx} {CX : CXT} {k n : Nat} {C f : Addr} {fd : FuncData} {ps ks : List Str} {sp : Sp} {E : L2.St → XK} {x : Str} {p pos : Pos} {e : Expr} {es : List Expr} {kws : List Keyword} {t tk : TA} {g : List Value → List Value → List Value} {gV : List V → List V → List V}
theorem pe_makeKS (M : Mk X.K C f) (F : FnOk X.prog X.w X.K X.mg X.base CX k f fd ps sp) (hr : Room (k + 1) X.A) (hg : Gl X x) (hm : X.mg x = some (.ref C)) (hb : KBn X.K fd ps (n + 1) ks g gV) (hx : ∀ σ, PassesAt CX X σ (E σ)) (ha : PA X (e :: es) t) (hkw : PK X kws tk)
    (hall : (backToKw pos (keywordEach kws X.env)).all (·.1.isSome) = true := by rfl) (hks : (backToKw pos (keywordEach kws X.env)).filterMap (·.1) = ks := by rfl) (hdb : (x == ("__debug__" : Str)) = false := by decide)
    (he : starEach (e :: es) X.env = (false, eval e X.env) :: starEach es X.env := by rfl) (hpl : ((backTo pos (starEach (e :: es) X.env)).any (·.1) || (backToKw pos (keywordEach kws X.env)).any (·.1.isNone)) = false := by rfl) :
    PE X (.Call (.Name x p) (e :: es) kws pos) (tMakeKS C n ks.length sp gV E t tk) := by
  constructor
  intro pins s σ H Q I h
  apply wpAny_Call_Name_kw
  apply ld_glob I hg hm _ hdb
  apply PySem.W.callWith_KW (h₀ := X.base) I.ok.mod.kin M.kp hall _ hpl he
  apply thn (ha.run pos pins s σ H _ I h)
  rintro us s1 ⟨vs, H1, I1, r, q⟩
  apply thn (hkw.run pos pins s1 σ H1 _ I1 q)
  rintro ws s2 ⟨zs, H2, I2, rz, l1, l2, q2⟩
  refine ⟨I2.kIn, ?_⟩
  rw [hks]
  have far := Nat.ne_of_lt (Nat.lt_succ_self s2.heap.objs.size)
  have hq := q2 (s2.heap.objs.size + 1) s2.heap.objs.size (I2.hok.fresh (Nat.le_succ _)) (I2.hok.fresh (Nat.le_refl _)) far
  have I3 := Inv.made (C := C) I2
  have r2 : Vals (V.ref (s2.heap.objs.size + 1) :: vs) (Value.ref (s2.heap.objs.size + 1) :: us) := .cons rfl r
  have n1 : (Value.ref (s2.heap.objs.size + 1) :: us).length = n + 1 := by
    rw [List.length_cons, ← r.length, l1]
  apply wpAny_call
  refine make_map (f := f) I2.kIn M.makes M.init (beq_iff_eq.mp M.fn) ?_
  apply codeAny_mono (F.run _ X.stack _ _ ⟨Value.ref (s2.heap.objs.size + 1) :: us, ks.zip ws⟩ (g (Value.ref (s2.heap.objs.size + 1) :: us) ws) _ _ (E σ) (hr.make C us (ks.zip ws)) (I3.env0.make C us (ks.zip ws)) (hb.to _ (Value.ref (s2.heap.objs.size + 1) :: us) ws I3.kIn n1 (rz.length.symm.trans l2)) (hb.rel r2 rz) hq)
  intro r' s' q'
  match r', q' with
  | .error er, q' => exact hx σ pins _ _ er s' I3 q'
  | .ok (.ret u), q' =>
    obtain ⟨v, H3, I4, rv, ev, q3⟩ := I3.after q'
    subst ev
    exact ⟨rv, V.ref (s2.heap.objs.size + 1), H3, I4, rfl, q3⟩
end
end Paw

set_option maxRecDepth 100000
set_option maxHeartbeats 8000000
namespace Paw
open PySem PySem.Spec PyProof.Rows L2
abbrev sCaught : Stmt := top 43
/-- the classes of the parts and their __init__ -/
structure Prt (K : PySem.W.Frag) (mg : Str → Option Value) (x : Str) (C f : Addr) : Prop where
  m : Mk K C f
  g : mg x = some (.ref C)
  c : Cls K C
  a1 : NoAttr K C "_names"
  a2 : NoAttr K C "_teeth"
def lensK : Nat → Nat
  | 2 => 3
  | 3 => 1
  | 4 => 1
  | _ => 2
def spCaughtK (K : PySem.W.Frag) : Sp := fun vs H Q _ => ∃ (n : Nat) (a t : Addr) (xs ts : List V) (bk : V) (ds es : List PyData) (dk : PyData), vs = [.int (n : Int), .ref a, .ref t, bk] ∧ n < 6 ∧ SqL K H a xs ∧ RDs K H xs ds ∧ xs.length = lensK n ∧ (∀ d ∈ ds, LenOk d) ∧ SqL K H t ts ∧ RDs K H ts es ∧ ts.length = 2 ∧ RD K H bk dk ∧
  ∀ (r : Addr) (H' : Hp), Same H H' → H r = none → Told H' r (outK n xs ds ts es bk dk) → Q (.ref r) H'
theorem two_of {l : List V} (h : l.length = 2) : ∃ a b, l = [a, b] := by
  match l, h with
  | [a, b], _ => exact ⟨a, b, rfl⟩
theorem one_of {l : List V} (h : l.length = 1) : ∃ a, l = [a] := by
  match l, h with
  | [a], _ => exact ⟨a, rfl⟩
theorem three_of {l : List V} (h : l.length = 3) : ∃ a b c, l = [a, b, c] := by
  match l, h with
  | [a, b, c], _ => exact ⟨a, b, c, rfl⟩
theorem strs_inj : ∀ {a b : List Str}, a.map V.str = b.map V.str → a = b
  | [], [], _ => rfl
  | [], _ :: _, h => by cases h
  | _ :: _, [], h => by cases h
  | x :: a, y :: b, h => by
    injection h with h1 h2
    injection h1 with h1
    rw [h1, strs_inj h2]
section
variable {K : PySem.W.Frag} {H : Hp} {n : Nat} {xs ts : List V} {ds es : List PyData} {bk : V} {dk : PyData}
theorem outN_name {v : V} (h : firstNo isN xs ds = some v) : outN xs ds = some (("name" : Str), v) := by
  unfold outN
  rw [h]
theorem outN_dup {ss : List Str} (hds : RDs K H xs ds) (h : firstNo isN xs ds = none) (e : xs = ss.map V.str) : outN xs ds = (dup [] ss).map fun s : Str => (("twice" : Str), V.str s) := by
  have e2 := strs_ds hds (firstNo_all hds.length h)
  have e3 : ss = strsD ds := strs_inj (e.symm.trans e2)
  unfold outN
  rw [h, e3]
theorem outK_some {o : Str × V} (h : outN xs ds = some o) : outK n xs ds ts es bk dk = some o := by
  unfold outK
  rw [h]
theorem outK_name {v : V} (h : firstNo isN xs ds = some v) : outK n xs ds ts es bk dk = some (("name" : Str), v) := outK_some (outN_name h)
theorem outK_twice {ss : List Str} {z : Str} (hds : RDs K H xs ds) (h : firstNo isN xs ds = none) (e : xs = ss.map V.str) (hz : dup [] ss = some z) : outK n xs ds ts es bk dk = some (("twice" : Str), V.str z) := outK_some (by rw [outN_dup hds h e, hz]; rfl)
theorem outK_rest {ss : List Str} (hds : RDs K H xs ds) (h : firstNo isN xs ds = none) (e : xs = ss.map V.str) (hz : dup [] ss = none) : outK n xs ds ts es bk dk = if n < 3 then (firstNo okT ts es).map fun v : V => (("teeth" : Str), v) else if n = 4 ∧ isB dk = false then some (("teeth" : Str), bk) else none := by
  have g : outN xs ds = none := by
    rw [outN_dup hds h e, hz]
    rfl
  unfold outK
  rw [g]
end
theorem KeptAt.mono {H H' : Hp} {x : V} {C : Addr} {f : Str} {v : V} (h : KeptAt H x C f v) (s : Same H H') : KeptAt H' x C f v := by
  obtain ⟨a, d, e, h1, h2⟩ := h
  exact ⟨a, d, e, s _ _ h1, s _ _ h2⟩
theorem Kept.mono {c : Cls7} {H H' : Hp} {x : V} {o : Option (Str × V)} (h : Kept c H x o) (s : Same H H') : Kept c H' x o := by
  cases h with
  | non e => exact .non e
  | name h => exact .name (h.mono s)
  | twice h => exact .twice (h.mono s)
  | teeth h => exact .teeth (h.mono s)
/-- the law's last line of what was caught -/
def tailT (K : PySem.W.Frag) (c : Cls7) : TE := tOp (rIxL K) (tLst (tCons (tLst tNil) (tCons (tCall (spKind c) [] E0 (tCons (tVar 4) tNil)) tNil)))
  (tCB (fun xs H Q => (∃ i, xs = [V.int i] ∧ Q (V.int i) H) ∨ ∃ k, xs = [V.bl k] ∧ Q (V.int (if k = true then 1 else 0)) H) (tCons (tOp (fun x y H Q => y = V.non ∧ Q (V.bl (!decide (x = V.non))) H) (tVar 4) (tC V.non)) tNil))
theorem tail_ok {K : PySem.W.Frag} {c : Cls7} {σ : L2.St} {x : V} {o : Option (Str × V)} {H H2 : Hp} {Q : VK} (hσ : σ[4]? = some (some x)) (hk : Kept c H2 x o) (s : Same H H2) (q : ∀ (r : Addr) (H' : Hp), Same H H' → H r = none → Told H' r o → Q (.ref r) H') : tailT K c σ H2 Q := by
  refine ⟨(by show 0 ≤ sizeLine; decide), fun l1 hl1 => ⟨x, hσ, x, o, rfl, hk.mono (same_new hl1), fun r H3 s3 nr h3 => ⟨(by show 2 ≤ sizeLine; decide), fun l2 hl2 => ⟨x, hσ, rfl, .inr ⟨_, rfl, ?_⟩⟩⟩⟩⟩
  have s1 := same_new (o := .lst []) hl1
  have s2 := same_new (o := .lst [.ref l1, .ref r]) hl2
  have S := ((s.trans s1).trans s3).trans s2
  cases o with
  | none =>
    cases hk with
    | non e =>
      subst e
      refine ⟨l2, _, 0, .ref l1, rfl, rfl, SqL.of upd_same, atI_nat (j := 0) rfl, q _ _ S (s.free hl1) ?_⟩
      exact s2 _ _ (s3 _ _ upd_same)
  | some o =>
    have nx : decide (x = V.non) = false := by
      cases hk with
      | name h =>
        obtain ⟨a, d, rfl, _⟩ := h
        rfl
      | twice h =>
        obtain ⟨a, d, rfl, _⟩ := h
        rfl
      | teeth h =>
        obtain ⟨a, d, rfl, _⟩ := h
        rfl
    rw [nx]
    exact ⟨l2, _, 1, .ref r, rfl, rfl, SqL.of upd_same, atI_nat (j := 1) rfl, q _ _ S ((s.trans s1).free nr) (s2 _ _ h3)⟩
section
variable {P : Program} {w : World} {K : PySem.W.Frag} {mg : Str → Option Value} {base : Heap}
theorem ixK {Y : Cx} (e : Y.K = K) : IxR Y (rIxL K) := e ▸ ix_list
theorem scCaught : FnScope ["kind", "names", "teeth", "back", "error", "e"] ["kind", "names", "teeth", "back"] (defScope sCaught) := ⟨rfl, rfl, rfl, by decide +kernel, rfl, by decide +kernel, by decide +kernel⟩
theorem ok_caught {c : Cls7} {cH f fK C0 C1 C2 C3 C4 C5 f0 f1 f2 f3 f4 f5 : Addr} {fd fdK fd4 : FuncData} (F : Fun K "_law_caught" "_law_caught" sCaught f fd) (T : Kit7 K mg c) (gH : mg "HallError" = some (.ref cH)) (zi : mg "int" = none)
    (hN : PySem.W.exmOne K (.ref c.cN) (.ref cH) = some true) (hT : PySem.W.exmOne K (.ref c.cT) (.ref cH) = some true) (hE : PySem.W.exmOne K (.ref c.cE) (.ref cH) = some true)
    (GK : FnOk P w K mg base CX0 1 fK fdK ["error"] (spKind c)) (gK : mg "_law_kind" = some (.ref fK)) (kK : PySem.W.keepIn K (.ref fK) = true) (bK : Binds K fdK ["error"] [])
    (p0 : Prt K mg "Mesh" C0 f0) (F0 : FnR P w K mg base (L2.CX P w) 5 f0 (spMesh K c.cN c.cT c.cE))
    (p1 : Prt K mg "Chain" C1 f1) (F1 : FnR P w K mg base (L2.CX P w) 6 f1 (spMesh K c.cN c.cT c.cE))
    (p2 : Prt K mg "Differential" C2 f2) (F2 : FnR P w K mg base (L2.CX P w) 5 f2 (spDiff K c.cN c.cT c.cE))
    (p3 : Prt K mg "Brake" C3 f3) (F3 : FnR P w K mg base (L2.CX P w) 5 f3 (spBrake K c.cN c.cT))
    (p4 : Prt K mg "Ratchet" C4 f4) (F4 : FnOk P w K mg base (L2.CX P w) 5 f4 fd4 ["self", "a", "backward"] (spRat K c.cN c.cT c.cE)) (b4 : KBn K fd4 ["self", "a", "backward"] 2 ["backward"] (fun us ws => us ++ ws) (fun vs zs => vs ++ zs)) (a4 : NoAttr K C4 "_backward")
    (p5 : Prt K mg "Freewheel" C5 f5) (F5 : FnR P w K mg base (L2.CX P w) 5 f5 (spFree K c.cN c.cT))
    : FnOk P w K mg base CX0 8 f fd ["kind", "names", "teeth", "back"] (spCaughtK K) := by
  refine F.ok scCaught (fun vs H Q E h => ?_) (fun cdv A outer s H vs Q E hr h => ?_)
  · obtain ⟨n, a, t, xs, ts, bk, ds, es, dk, rfl, _⟩ := h
    rfl
  · obtain ⟨n, a, t, xs, ts, bk, ds, es, dk, rfl, hn, ha, hds, lenX, lens, ht, hes, lenT, hbk, q⟩ := h
    refine ⟨_, pss_cons (ps_set (i := 4) scCaught.nd rfl (Or.inl rfl) pe_non)
      (pss_cons (ps_try_keep (i := 5) rfl rfl rfl scCaught.nd rfl rfl ⟨rfl, by decide, .inl gH⟩ takes0 (fun W pn xe tk _ => (pss_one (ps_if (pt_cmpR op_eq (pv 0) pe_int (nomark _)) (pss_one (ps_expr (pe_makeS p0.m F0 (hr.mono (by decide)) rfl p0.g (fun σ => passAt tk σ) (pa_cons (pe_ix (ixK (K := K) rfl) (pv 1) pe_int (fun _ _ => rfl)) (pa_cons (pe_ix (ixK (K := K) rfl) (pv 1) pe_int (fun _ _ => rfl)) (pa_cons (pe_ix (ixK (K := K) rfl) (pv 2) pe_int (fun _ _ => rfl)) (pa_cons (pe_ix (ixK (K := K) rfl) (pv 2) pe_int (fun _ _ => rfl)) pa_nil))))))) (pss_one (ps_if (pt_cmpR op_eq (pv 0) pe_int (nomark _)) (pss_one (ps_expr (pe_makeS p1.m F1 (hr.mono (by decide)) rfl p1.g (fun σ => passAt tk σ) (pa_cons (pe_ix (ixK (K := K) rfl) (pv 1) pe_int (fun _ _ => rfl)) (pa_cons (pe_ix (ixK (K := K) rfl) (pv 1) pe_int (fun _ _ => rfl)) (pa_cons (pe_ix (ixK (K := K) rfl) (pv 2) pe_int (fun _ _ => rfl)) (pa_cons (pe_ix (ixK (K := K) rfl) (pv 2) pe_int (fun _ _ => rfl)) pa_nil))))))) (pss_one (ps_if (pt_cmpR op_eq (pv 0) pe_int (nomark _)) (pss_one (ps_expr (pe_makeS p2.m F2 (hr.mono (by decide)) rfl p2.g (fun σ => passAt tk σ) (pa_cons (pe_ix (ixK (K := K) rfl) (pv 1) pe_int (fun _ _ => rfl)) (pa_cons (pe_ix (ixK (K := K) rfl) (pv 1) pe_int (fun _ _ => rfl)) (pa_cons (pe_ix (ixK (K := K) rfl) (pv 1) pe_int (fun _ _ => rfl)) (pa_cons (pe_ix (ixK (K := K) rfl) (pv 2) pe_int (fun _ _ => rfl)) (pa_cons (pe_ix (ixK (K := K) rfl) (pv 2) pe_int (fun _ _ => rfl)) pa_nil)))))))) (pss_one (ps_if (pt_cmpR op_eq (pv 0) pe_int (nomark _)) (pss_one (ps_expr (pe_makeS p3.m F3 (hr.mono (by decide)) rfl p3.g (fun σ => passAt tk σ) (pa_cons (pe_ix (ixK (K := K) rfl) (pv 1) pe_int (fun _ _ => rfl)) pa_nil)))) (pss_one (ps_if (pt_cmpR op_eq (pv 0) pe_int (nomark _)) (pss_one (ps_expr (pe_makeKS p4.m F4 (hr.mono (by decide)) rfl p4.g b4 (fun σ => passAt tk σ) (pa_cons (pe_ix (ixK (K := K) rfl) (pv 1) pe_int (fun _ _ => rfl)) pa_nil) (pk_cons (pv 3) pk_nil)))) (pss_one (ps_expr (pe_makeS p5.m F5 (hr.mono (by decide)) rfl p5.g (fun σ => passAt tk σ) (pa_cons (pe_ix (ixK (K := K) rfl) (pv 1) pe_int (fun _ _ => rfl)) (pa_cons (pe_ix (ixK (K := K) rfl) (pv 1) pe_int (fun _ _ => rfl)) pa_nil)))))))))))))))) (fun a pn => pss_one (ps_set (i := 4) scCaught.nd rfl (Or.inl rfl) (pv 5))))
      (pss_one (ps_ret (pe_ix ix_list (pe_lst (pa_cons (pe_lst pa_nil) (pa_cons (pe_call GK (hr.mono (by decide)) rfl gK kK bK .nil pass0 (pa_cons (pv 4) pa_nil)) pa_nil))) (pe_callTy call_int1 (by rfl) zi bt_int (pa_cons (pe_cmpR op_notN (pv 4) pe_non (nomark _)) pa_nil)) (fun _ _ => rfl))))), ?_⟩
    have sH : ∀ (C : Addr) {x dx : Addr}, H x = none → H dx = none → dx ≠ x → Same H (upd (upd H dx (.own x)) x (.ins C dx [])) := fun C {x dx} hx hdx ne => (same_new hdx).trans (same_new ((upd_ne ne.symm).trans hx))
    obtain ⟨t0, t1, rfl⟩ := two_of lenT
    match n, hn, lenX, q with
    | 0, _, lenX, q =>
      obtain ⟨v0, v1, rfl⟩ := two_of lenX
      refine ⟨_, rfl, rfl, _, rfl, it_t (by decide) ?_⟩
      refine ⟨_, rfl, a, _, _, _, rfl, rfl, ha, atI_nat (j := 0) rfl, _, rfl, a, _, _, _, rfl, rfl, ha, atI_nat (j := 1) rfl, _, rfl, t, _, _, _, rfl, rfl, ht, atI_nat (j := 0) rfl, _, rfl, t, _, _, _, rfl, rfl, ht, atI_nat (j := 1) rfl, fun x dx hx hdx ne => ?_⟩
      exact ⟨H, x, C0, dx, v0, v1, t0, t1, ds, es, rfl, ⟨sH _ hx hdx ne, hx, upd_same, p0.c, p0.a1, p0.a2⟩, hds, lens, hes, fun v hv d H2 _ s2 e => ⟨true, hN, fun _ b hb => ⟨_, rfl, tail_ok (K := K) (c := c) rfl (.name ⟨b, d, rfl, upd_same, (upd_ne (ne_of_none e hb)).trans e⟩) (s2.trans (same_new hb)) fun r H3 s3 nr told => q r H3 s3 nr (by rw [outK_name hv]; exact told)⟩, fun z => nomatch z⟩, fun hb1 ss e1 => ⟨fun z hz d H2 _ s2 e => ⟨true, hT, fun _ b hb => ⟨_, rfl, tail_ok (K := K) (c := c) rfl (.twice ⟨b, d, rfl, upd_same, (upd_ne (ne_of_none e hb)).trans e⟩) (s2.trans (same_new hb)) fun r H3 s3 nr told => q r H3 s3 nr (by rw [outK_twice hds hb1 e1 hz]; exact told)⟩, fun z => nomatch z⟩, fun hd => ⟨fun v hv d H2 _ s2 e => ⟨true, hE, fun _ b hb => ⟨_, rfl, tail_ok (K := K) (c := c) rfl (.teeth ⟨b, d, rfl, upd_same, (upd_ne (ne_of_none e hb)).trans e⟩) (s2.trans (same_new hb)) fun r H3 s3 nr told => q r H3 s3 nr (by rw [(outK_rest hds hb1 e1 hd).trans ((if_pos (by decide)).trans (by rw [hv]; rfl) : _ = some (("teeth" : Str), v))]; exact told)⟩, fun z => nomatch z⟩, fun hb2 H2 p1 p2 s2 e2 e3 e4 => ⟨rfl, tail_ok (K := K) (c := c) rfl (.non rfl) s2 fun r H3 s3 nr told => q r H3 s3 nr (by rw [(outK_rest hds hb1 e1 hd).trans ((if_pos (by decide)).trans (by rw [hb2]; rfl) : _ = none)]; exact told)⟩⟩⟩⟩
    | 1, _, lenX, q =>
      obtain ⟨v0, v1, rfl⟩ := two_of lenX
      refine ⟨_, rfl, rfl, _, rfl, it_f (by decide) ?_⟩
      refine ⟨_, rfl, rfl, _, rfl, it_t (by decide) ?_⟩
      refine ⟨_, rfl, a, _, _, _, rfl, rfl, ha, atI_nat (j := 0) rfl, _, rfl, a, _, _, _, rfl, rfl, ha, atI_nat (j := 1) rfl, _, rfl, t, _, _, _, rfl, rfl, ht, atI_nat (j := 0) rfl, _, rfl, t, _, _, _, rfl, rfl, ht, atI_nat (j := 1) rfl, fun x dx hx hdx ne => ?_⟩
      exact ⟨H, x, C1, dx, v0, v1, t0, t1, ds, es, rfl, ⟨sH _ hx hdx ne, hx, upd_same, p1.c, p1.a1, p1.a2⟩, hds, lens, hes, fun v hv d H2 _ s2 e => ⟨true, hN, fun _ b hb => ⟨_, rfl, tail_ok (K := K) (c := c) rfl (.name ⟨b, d, rfl, upd_same, (upd_ne (ne_of_none e hb)).trans e⟩) (s2.trans (same_new hb)) fun r H3 s3 nr told => q r H3 s3 nr (by rw [outK_name hv]; exact told)⟩, fun z => nomatch z⟩, fun hb1 ss e1 => ⟨fun z hz d H2 _ s2 e => ⟨true, hT, fun _ b hb => ⟨_, rfl, tail_ok (K := K) (c := c) rfl (.twice ⟨b, d, rfl, upd_same, (upd_ne (ne_of_none e hb)).trans e⟩) (s2.trans (same_new hb)) fun r H3 s3 nr told => q r H3 s3 nr (by rw [outK_twice hds hb1 e1 hz]; exact told)⟩, fun z => nomatch z⟩, fun hd => ⟨fun v hv d H2 _ s2 e => ⟨true, hE, fun _ b hb => ⟨_, rfl, tail_ok (K := K) (c := c) rfl (.teeth ⟨b, d, rfl, upd_same, (upd_ne (ne_of_none e hb)).trans e⟩) (s2.trans (same_new hb)) fun r H3 s3 nr told => q r H3 s3 nr (by rw [(outK_rest hds hb1 e1 hd).trans ((if_pos (by decide)).trans (by rw [hv]; rfl) : _ = some (("teeth" : Str), v))]; exact told)⟩, fun z => nomatch z⟩, fun hb2 H2 p1 p2 s2 e2 e3 e4 => ⟨rfl, tail_ok (K := K) (c := c) rfl (.non rfl) s2 fun r H3 s3 nr told => q r H3 s3 nr (by rw [(outK_rest hds hb1 e1 hd).trans ((if_pos (by decide)).trans (by rw [hb2]; rfl) : _ = none)]; exact told)⟩⟩⟩⟩
    | 2, _, lenX, q =>
      obtain ⟨v0, v1, v2, rfl⟩ := three_of lenX
      refine ⟨_, rfl, rfl, _, rfl, it_f (by decide) ?_⟩
      refine ⟨_, rfl, rfl, _, rfl, it_f (by decide) ?_⟩
      refine ⟨_, rfl, rfl, _, rfl, it_t (by decide) ?_⟩
      refine ⟨_, rfl, a, _, _, _, rfl, rfl, ha, atI_nat (j := 0) rfl, _, rfl, a, _, _, _, rfl, rfl, ha, atI_nat (j := 1) rfl, _, rfl, a, _, _, _, rfl, rfl, ha, atI_nat (j := 2) rfl, _, rfl, t, _, _, _, rfl, rfl, ht, atI_nat (j := 0) rfl, _, rfl, t, _, _, _, rfl, rfl, ht, atI_nat (j := 1) rfl, fun x dx hx hdx ne => ?_⟩
      exact ⟨H, x, C2, dx, v0, v1, v2, t0, t1, ds, es, rfl, ⟨sH _ hx hdx ne, hx, upd_same, p2.c, p2.a1, p2.a2⟩, hds, lens, hes, fun v hv d H2 _ s2 e => ⟨true, hN, fun _ b hb => ⟨_, rfl, tail_ok (K := K) (c := c) rfl (.name ⟨b, d, rfl, upd_same, (upd_ne (ne_of_none e hb)).trans e⟩) (s2.trans (same_new hb)) fun r H3 s3 nr told => q r H3 s3 nr (by rw [outK_name hv]; exact told)⟩, fun z => nomatch z⟩, fun hb1 ss e1 => ⟨fun z hz d H2 _ s2 e => ⟨true, hT, fun _ b hb => ⟨_, rfl, tail_ok (K := K) (c := c) rfl (.twice ⟨b, d, rfl, upd_same, (upd_ne (ne_of_none e hb)).trans e⟩) (s2.trans (same_new hb)) fun r H3 s3 nr told => q r H3 s3 nr (by rw [outK_twice hds hb1 e1 hz]; exact told)⟩, fun z => nomatch z⟩, fun hd => ⟨fun v hv d H2 _ s2 e => ⟨true, hE, fun _ b hb => ⟨_, rfl, tail_ok (K := K) (c := c) rfl (.teeth ⟨b, d, rfl, upd_same, (upd_ne (ne_of_none e hb)).trans e⟩) (s2.trans (same_new hb)) fun r H3 s3 nr told => q r H3 s3 nr (by rw [(outK_rest hds hb1 e1 hd).trans ((if_pos (by decide)).trans (by rw [hv]; rfl) : _ = some (("teeth" : Str), v))]; exact told)⟩, fun z => nomatch z⟩, fun hb2 H2 p1 p2 s2 e2 e3 e4 => ⟨rfl, tail_ok (K := K) (c := c) rfl (.non rfl) s2 fun r H3 s3 nr told => q r H3 s3 nr (by rw [(outK_rest hds hb1 e1 hd).trans ((if_pos (by decide)).trans (by rw [hb2]; rfl) : _ = none)]; exact told)⟩⟩⟩⟩
    | 3, _, lenX, q =>
      obtain ⟨v0, rfl⟩ := one_of lenX
      refine ⟨_, rfl, rfl, _, rfl, it_f (by decide) ?_⟩
      refine ⟨_, rfl, rfl, _, rfl, it_f (by decide) ?_⟩
      refine ⟨_, rfl, rfl, _, rfl, it_f (by decide) ?_⟩
      refine ⟨_, rfl, rfl, _, rfl, it_t (by decide) ?_⟩
      refine ⟨_, rfl, a, _, _, _, rfl, rfl, ha, atI_nat (j := 0) rfl, fun x dx hx hdx ne => ?_⟩
      exact ⟨H, x, C3, dx, v0, ds, rfl, ⟨sH _ hx hdx ne, hx, upd_same, p3.c, p3.a1, p3.a2⟩, hds, lens, fun v hv d H2 _ s2 e => ⟨true, hN, fun _ b hb => ⟨_, rfl, tail_ok (K := K) (c := c) rfl (.name ⟨b, d, rfl, upd_same, (upd_ne (ne_of_none e hb)).trans e⟩) (s2.trans (same_new hb)) fun r H3 s3 nr told => q r H3 s3 nr (by rw [outK_name hv]; exact told)⟩, fun z => nomatch z⟩, fun hb1 ss e1 => ⟨fun z hz d H2 _ s2 e => ⟨true, hT, fun _ b hb => ⟨_, rfl, tail_ok (K := K) (c := c) rfl (.twice ⟨b, d, rfl, upd_same, (upd_ne (ne_of_none e hb)).trans e⟩) (s2.trans (same_new hb)) fun r H3 s3 nr told => q r H3 s3 nr (by rw [outK_twice hds hb1 e1 hz]; exact told)⟩, fun z => nomatch z⟩, fun hd => fun H2 p1 s2 e2 e3 => ⟨rfl, tail_ok (K := K) (c := c) rfl (.non rfl) s2 fun r H3 s3 nr told => q r H3 s3 nr (by rw [(outK_rest hds hb1 e1 hd).trans ((if_neg (by decide)).trans (if_neg fun z => absurd z.1 (by decide)))]; exact told)⟩⟩⟩
    | 4, _, lenX, q =>
      obtain ⟨v0, rfl⟩ := one_of lenX
      refine ⟨_, rfl, rfl, _, rfl, it_f (by decide) ?_⟩
      refine ⟨_, rfl, rfl, _, rfl, it_f (by decide) ?_⟩
      refine ⟨_, rfl, rfl, _, rfl, it_f (by decide) ?_⟩
      refine ⟨_, rfl, rfl, _, rfl, it_f (by decide) ?_⟩
      refine ⟨_, rfl, rfl, _, rfl, it_t (by decide) ?_⟩
      refine ⟨_, rfl, a, _, _, _, rfl, rfl, ha, atI_nat (j := 0) rfl, _, rfl, rfl, rfl, fun x dx hx hdx ne => ?_⟩
      exact ⟨H, x, C4, dx, v0, bk, ds, dk, rfl, ⟨sH _ hx hdx ne, hx, upd_same, p4.c, p4.a1, p4.a2⟩, a4, hds, lens, hbk, fun v hv d H2 _ s2 e => ⟨true, hN, fun _ b hb => ⟨_, rfl, tail_ok (K := K) (c := c) rfl (.name ⟨b, d, rfl, upd_same, (upd_ne (ne_of_none e hb)).trans e⟩) (s2.trans (same_new hb)) fun r H3 s3 nr told => q r H3 s3 nr (by rw [outK_name hv]; exact told)⟩, fun z => nomatch z⟩, fun hb1 ss e1 => ⟨fun z hz d H2 _ s2 e => ⟨true, hT, fun _ b hb => ⟨_, rfl, tail_ok (K := K) (c := c) rfl (.twice ⟨b, d, rfl, upd_same, (upd_ne (ne_of_none e hb)).trans e⟩) (s2.trans (same_new hb)) fun r H3 s3 nr told => q r H3 s3 nr (by rw [outK_twice hds hb1 e1 hz]; exact told)⟩, fun z => nomatch z⟩, fun hd => ⟨fun hbb d H2 _ s2 e => ⟨true, hE, fun _ b hb => ⟨_, rfl, tail_ok (K := K) (c := c) rfl (.teeth ⟨b, d, rfl, upd_same, (upd_ne (ne_of_none e hb)).trans e⟩) (s2.trans (same_new hb)) fun r H3 s3 nr told => q r H3 s3 nr (by rw [(outK_rest hds hb1 e1 hd).trans ((if_neg (by decide)).trans (if_pos ⟨rfl, hbb⟩))]; exact told)⟩, fun z => nomatch z⟩, fun hbb H2 p1 s2 e2 e3 => ⟨rfl, tail_ok (K := K) (c := c) rfl (.non rfl) s2 fun r H3 s3 nr told => q r H3 s3 nr (by rw [(outK_rest hds hb1 e1 hd).trans ((if_neg (by decide)).trans (if_neg fun z => by rw [hbb] at z; cases z.2))]; exact told)⟩⟩⟩⟩
    | 5, _, lenX, q =>
      obtain ⟨v0, v1, rfl⟩ := two_of lenX
      refine ⟨_, rfl, rfl, _, rfl, it_f (by decide) ?_⟩
      refine ⟨_, rfl, rfl, _, rfl, it_f (by decide) ?_⟩
      refine ⟨_, rfl, rfl, _, rfl, it_f (by decide) ?_⟩
      refine ⟨_, rfl, rfl, _, rfl, it_f (by decide) ?_⟩
      refine ⟨_, rfl, rfl, _, rfl, it_f (by decide) ?_⟩
      refine ⟨_, rfl, a, _, _, _, rfl, rfl, ha, atI_nat (j := 0) rfl, _, rfl, a, _, _, _, rfl, rfl, ha, atI_nat (j := 1) rfl, fun x dx hx hdx ne => ?_⟩
      exact ⟨H, x, C5, dx, v0, v1, ds, rfl, ⟨sH _ hx hdx ne, hx, upd_same, p5.c, p5.a1, p5.a2⟩, hds, lens, fun v hv d H2 _ s2 e => ⟨true, hN, fun _ b hb => ⟨_, rfl, tail_ok (K := K) (c := c) rfl (.name ⟨b, d, rfl, upd_same, (upd_ne (ne_of_none e hb)).trans e⟩) (s2.trans (same_new hb)) fun r H3 s3 nr told => q r H3 s3 nr (by rw [outK_name hv]; exact told)⟩, fun z => nomatch z⟩, fun hb1 ss e1 => ⟨fun z hz d H2 _ s2 e => ⟨true, hT, fun _ b hb => ⟨_, rfl, tail_ok (K := K) (c := c) rfl (.twice ⟨b, d, rfl, upd_same, (upd_ne (ne_of_none e hb)).trans e⟩) (s2.trans (same_new hb)) fun r H3 s3 nr told => q r H3 s3 nr (by rw [outK_twice hds hb1 e1 hz]; exact told)⟩, fun z => nomatch z⟩, fun hd => fun H2 p1 s2 e2 e3 => ⟨rfl, tail_ok (K := K) (c := c) rfl (.non rfl) s2 fun r H3 s3 nr told => q r H3 s3 nr (by rw [(outK_rest hds hb1 e1 hd).trans ((if_neg (by decide)).trans (if_neg fun z => absurd z.1 (by decide)))]; exact told)⟩⟩⟩
end
end Paw

set_option maxRecDepth 100000
set_option maxHeartbeats 8000000
namespace Paw
open PySem PySem.Spec PyProof.Rows L2
abbrev sLaw : Stmt := top 45
def spLaw (K : PySem.W.Frag) : Sp := fun vs H Q _ => ∃ (a : Addr) (ns : List Int), vs = [.ref a] ∧ SqL K H a (ns.map V.int) ∧ ∀ H', Q (.bl true) H'
theorem RDs.set {K : PySem.W.Frag} {H : Hp} {v : V} {d : PyData} (hv : RD K H v d) : ∀ {xs : List V} {ds : List PyData} (i : Nat), RDs K H xs ds → RDs K H (xs.set i v) (ds.set i d)
  | [], _, _, h => by
    cases h
    exact .nil
  | x :: xs, _, 0, h => by
    cases h with
    | cons h1 h2 => exact .cons hv h2
  | x :: xs, _, i + 1, h => by
    cases h with
    | cons h1 h2 => exact .cons h1 (RDs.set hv i h2)
theorem mem_set {ds : List PyData} {d x : PyData} {i : Nat} (h : x ∈ ds.set i d) : x ∈ ds ∨ x = d := List.mem_or_eq_of_mem_set h
/-- the pile, the names, the teeth and the direction, as they are drawn and changed -/
structure StA (K : PySem.W.Frag) (p N T : Addr) (b : Bool) (m : Nat) (bk : V) (H : Hp) : Prop where
  pile : ∃ L, H p = some (.lst L) ∧ Pile b L
  names : ∃ (xs : List V) (ds : List PyData), H N = some (.lst xs) ∧ xs.length = m ∧ RDs K (cut [p, N, T] H) xs ds ∧ ∀ d ∈ ds, tinyD d = true
  teeth : ∃ (ts : List V) (es : List PyData), H T = some (.lst ts) ∧ ts.length = 2 ∧ RDs K (cut [p, N, T] H) ts es ∧ ∀ d ∈ es, tinyD d = true
  back : ∃ dk : PyData, RD K (cut [p, N, T] H) bk dk ∧ tinyD dk = true
  nN : N ≠ p
  nT : T ≠ p
  nNT : N ≠ T
section
variable {K : PySem.W.Frag} {p N T : Addr} {b : Bool} {m : Nat} {bk : V} {H1 H2 : Hp}
theorem cut3 {c : Addr} {H : Hp} (h1 : c ≠ p) (h2 : c ≠ N) (h3 : c ≠ T) : cut [p, N, T] H c = H c := cut_out (by simp [h1, h2, h3])
theorem cut3_some {c : Addr} {H : Hp} {o : HO} (e : cut [p, N, T] H c = some o) : c ≠ p ∧ c ≠ N ∧ c ≠ T ∧ H c = some o := by
  by_cases h : c ∈ [p, N, T]
  · rw [cut_in h] at e
    cases e
  · rw [cut_out h] at e
    simp only [List.mem_cons, List.not_mem_nil, or_false, not_or] at h
    exact ⟨h.1, h.2.1, h.2.2, e⟩
theorem cut3_mono (h : ∀ c o, c ≠ p → c ≠ N → c ≠ T → H1 c = some o → H2 c = some o) : Same (cut [p, N, T] H1) (cut [p, N, T] H2) := fun c o e => by
  obtain ⟨e1, e2, e3, e4⟩ := cut3_some e
  rw [cut3 e1 e2 e3]
  exact h c o e1 e2 e3 e4
theorem st_keep {L : List V} (h : StA K p N T b m bk H1) (bu : But p H1 H2) (hp : H2 p = some (.lst L)) (hL : Pile b L) : StA K p N T b m bk H2 := by
  have s : Same (cut [p, N, T] H1) (cut [p, N, T] H2) := cut3_mono fun c o n1 _ _ e => bu c o n1 e
  obtain ⟨_, ⟨xs, ds, n1, n2, n3, n4⟩, ⟨ts, es, t1, t2, t3, t4⟩, ⟨dk, k1, k2⟩, i1, i2, i3⟩ := h
  exact ⟨⟨L, hp, hL⟩, ⟨xs, ds, bu _ _ i1 n1, n2, RDs.mono s _ _ n3, n4⟩, ⟨ts, es, bu _ _ i2 t1, t2, RDs.mono s _ _ t3, t4⟩, ⟨dk, RD.mono s _ _ k1, k2⟩, i1, i2, i3⟩
theorem st_new {v : V} {d : PyData} (h : StA K p N T b m bk H1) (rd : RD K (newer H1 H2) v d) : RD K (cut [p, N, T] H2) v d := by
  obtain ⟨⟨L, p1, _⟩, ⟨xs, ds, n1, _⟩, ⟨ts, es, t1, _⟩, _⟩ := h
  refine RD.mono (newer_cut (S := [p, N, T]) fun c hc => ?_) _ _ rd
  simp only [List.mem_cons, List.not_mem_nil, or_false] at hc
  rcases hc with rfl | rfl | rfl
  · rw [p1]
    exact fun z => nomatch z
  · rw [n1]
    exact fun z => nomatch z
  · rw [t1]
    exact fun z => nomatch z
theorem st_same (h : StA K p N T b m bk H1) (s : Same H1 H2) : StA K p N T b m bk H2 := by
  obtain ⟨L, hp, hL⟩ := h.pile
  exact st_keep h (same_but s) (s _ _ hp) hL
theorem st_names {v : V} {d : PyData} (h : StA K p N T b m bk H1) (rd : RD K (cut [p, N, T] H1) v d) (ti : tinyD d = true) (j : Nat) : ∃ xs, H1 N = some (.lst xs) ∧ xs.length = m ∧ StA K p N T b m bk (upd H1 N (.lst (xs.set j v))) := by
  have s : ∀ o, Same (cut [p, N, T] H1) (cut [p, N, T] (upd H1 N o)) := fun o => cut3_mono fun c u _ n2 _ e => (upd_ne n2).trans e
  obtain ⟨⟨L, p1, p2⟩, ⟨xs, ds, n1, n2, n3, n4⟩, ⟨ts, es, t1, t2, t3, t4⟩, ⟨dk, k1, k2⟩, i1, i2, i3⟩ := h
  refine ⟨xs, n1, n2, ⟨⟨L, (upd_ne i1.symm).trans p1, p2⟩, ⟨xs.set j v, ds.set j d, upd_same, by rw [List.length_set, n2], RDs.mono (s _) _ _ (RDs.set rd j n3), fun x hx => ?_⟩, ⟨ts, es, (upd_ne i3.symm).trans t1, t2, RDs.mono (s _) _ _ t3, t4⟩, ⟨dk, RD.mono (s _) _ _ k1, k2⟩, i1, i2, i3⟩⟩
  rcases mem_set hx with hx | hx
  · exact n4 x hx
  · rw [hx]
    exact ti
theorem st_teeth {v : V} {d : PyData} (h : StA K p N T b m bk H1) (rd : RD K (cut [p, N, T] H1) v d) (ti : tinyD d = true) (j : Nat) : ∃ ts, H1 T = some (.lst ts) ∧ ts.length = 2 ∧ StA K p N T b m bk (upd H1 T (.lst (ts.set j v))) := by
  have s : ∀ o, Same (cut [p, N, T] H1) (cut [p, N, T] (upd H1 T o)) := fun o => cut3_mono fun c u _ _ n3 e => (upd_ne n3).trans e
  obtain ⟨⟨L, p1, p2⟩, ⟨xs, ds, n1, n2, n3, n4⟩, ⟨ts, es, t1, t2, t3, t4⟩, ⟨dk, k1, k2⟩, i1, i2, i3⟩ := h
  refine ⟨ts, t1, t2, ⟨⟨L, (upd_ne i2.symm).trans p1, p2⟩, ⟨xs, ds, (upd_ne i3).trans n1, n2, RDs.mono (s _) _ _ n3, n4⟩, ⟨ts.set j v, es.set j d, upd_same, by rw [List.length_set, t2], RDs.mono (s _) _ _ (RDs.set rd j t3), fun x hx => ?_⟩, ⟨dk, RD.mono (s _) _ _ k1, k2⟩, i1, i2, i3⟩⟩
  rcases mem_set hx with hx | hx
  · exact t4 x hx
  · rw [hx]
    exact ti
theorem st_back {v : V} {d : PyData} (h : StA K p N T b m bk H1) (rd : RD K (cut [p, N, T] H1) v d) (ti : tinyD d = true) : StA K p N T b m v H1 := ⟨h.pile, h.names, h.teeth, ⟨d, rd, ti⟩, h.nN, h.nT, h.nNT⟩
end
end Paw

set_option maxRecDepth 100000
set_option maxHeartbeats 4000000
namespace Paw
open PySem PySem.Spec PyProof.Rows L2
theorem word_small : (siz (.str "name") ≤ 60 ∧ plainD (.str "name") = true) ∧ (siz (.str "twice") ≤ 60 ∧ plainD (.str "twice") = true) ∧ (siz (.str "teeth") ≤ 60 ∧ plainD (.str "teeth") = true) := by decide +kernel
theorem fit_word {w : Str} {d : PyData} (hw : siz (.str w) ≤ 60 ∧ plainD (.str w) = true) (h : tinyD d = true) : Fit (.list [.str w, d]) := by
  unfold tinyD at h
  simp only [Bool.and_eq_true] at h
  obtain ⟨⟨⟨h1, h2⟩, h3⟩, h4⟩ := h
  have h3 := of_decide_eq_true h3
  have h4 := of_decide_eq_true h4
  obtain ⟨s1, p1⟩ := hw
  refine ⟨?_, ?_, ?_, ?_⟩
  · show (plainD (.str w) && (plainD d && true)) = true
    rw [p1, h1]
    rfl
  · simp [PyData.showable, PyData.showableAll, h2]
  · have e : siz (.list [.str w, d]) = 2 + (siz (.str w) + 2 + (siz d + 2 + 0)) := rfl
    rw [e]
    omega
  · simp only [PyData.depth, PyData.depthAll]
    omega
theorem fit_none : Fit (.list []) := ⟨rfl, by simp [PyData.showable, PyData.showableAll], by decide, by simp [PyData.depth, PyData.depthAll]⟩
theorem firstNo_data {K : PySem.W.Frag} {H : Hp} {ok : PyData → Bool} : ∀ {xs : List V} {ds : List PyData} {v : V}, RDs K H xs ds → firstNo ok xs ds = some v → ∃ d, d ∈ ds ∧ RD K H v d
  | [], _, v, hr, h => by
    cases hr
    cases h
  | x :: xs, _, v, hr, h => by
    cases hr with
    | @cons _ _ d ds h1 h2 =>
      have e : firstNo ok (x :: xs) (d :: ds) = if ok d then firstNo ok xs ds else some x := rfl
      rw [e] at h
      cases hd : ok d with
      | true =>
        rw [hd, if_pos rfl] at h
        obtain ⟨d', m, r⟩ := firstNo_data h2 h
        exact ⟨d', List.mem_cons_of_mem _ m, r⟩
      | false =>
        rw [hd, if_neg Bool.false_ne_true] at h
        cases h
        exact ⟨d, List.mem_cons_self, h1⟩
theorem dup_mem : ∀ {ss seen : List Str} {z : Str}, dup seen ss = some z → z ∈ ss
  | [], seen, z, h => by cases h
  | s :: r, seen, z, h => by
    have e : dup seen (s :: r) = if decide (s ∈ seen) then some s else dup (seen ++ [s]) r := rfl
    rw [e] at h
    split at h
    · cases h
      exact List.mem_cons_self
    · exact List.mem_cons_of_mem _ (dup_mem h)
theorem strsD_mem : ∀ {ds : List PyData} {z : Str}, z ∈ strsD ds → PyData.str z ∈ ds
  | [], z, h => by cases h
  | d :: r, z, h => by
    cases d with
    | str s =>
      rcases List.mem_cons.mp (show z ∈ s :: strsD r from h) with rfl | h
      · exact List.mem_cons_self
      · exact List.mem_cons_of_mem _ (strsD_mem h)
    | _ => exact List.mem_cons_of_mem _ (strsD_mem h)
theorem tiny_len {d : PyData} (h : tinyD d = true) : LenOk d := by
  rintro z rfl
  unfold tinyD at h
  simp only [Bool.and_eq_true] at h
  have h3 := of_decide_eq_true h.1.2
  simp only [siz] at h3
  exact Nat.le_trans (show z.length ≤ 20 by omega) (by decide)
/-- what both lists of a call show -/
theorem told_data {K : PySem.W.Frag} {H0 : Hp} {n : Nat} {xs ts : List V} {ds es : List PyData} {bk : V} {dk : PyData} (hds : RDs K H0 xs ds) (td : ∀ d ∈ ds, tinyD d = true) (hes : RDs K H0 ts es) (te : ∀ d ∈ es, tinyD d = true) (hbk : RD K H0 bk dk) (tb : tinyD dk = true) :
    ∃ d, Fit d ∧ ∀ (H H' : Hp) (r : Addr), Same H0 H → Told H r (outK n xs ds ts es bk dk) → Same H H' → RD K H' (.ref r) d := by
  obtain ⟨wn, wt, we⟩ := word_small
  have one : ∀ {w : Str} {v : V} {d : PyData}, outK n xs ds ts es bk dk = some (w, v) → siz (.str w) ≤ 60 ∧ plainD (.str w) = true → RD K H0 v d → tinyD d = true → ∃ d, Fit d ∧ ∀ (H H' : Hp) (r : Addr), Same H0 H → Told H r (outK n xs ds ts es bk dk) → Same H H' → RD K H' (.ref r) d := by
    intro w v d e hw hv ht
    refine ⟨_, fit_word hw ht, fun H H' r s told s' => ?_⟩
    rw [e] at told
    exact .lst (SqL.of (s' _ _ told)) (.cons (.str _) (.cons (RD.mono (s.trans s') _ _ hv) .nil))
  have nil : outK n xs ds ts es bk dk = none → ∃ d, Fit d ∧ ∀ (H H' : Hp) (r : Addr), Same H0 H → Told H r (outK n xs ds ts es bk dk) → Same H H' → RD K H' (.ref r) d := by
    intro e
    refine ⟨_, fit_none, fun H H' r s told s' => ?_⟩
    rw [e] at told
    exact .lst (SqL.of (s' _ _ told)) .nil
  cases h1 : firstNo isN xs ds with
  | some v =>
    obtain ⟨d, m, r⟩ := firstNo_data hds h1
    exact one (outK_name h1) wn r (td d m)
  | none =>
    have e := strs_ds hds (firstNo_all hds.length h1)
    cases h2 : dup [] (strsD ds) with
    | some z => exact one (outK_twice hds h1 e h2) wt (.str _) (td _ (strsD_mem (dup_mem h2)))
    | none =>
      have e3 := outK_rest (n := n) (ts := ts) (es := es) (bk := bk) (dk := dk) hds h1 e h2
      by_cases h3 : n < 3
      · rw [if_pos h3] at e3
        cases h4 : firstNo okT ts es with
        | some v =>
          obtain ⟨d, m, r⟩ := firstNo_data hes h4
          rw [h4] at e3
          exact one e3 we r (te d m)
        | none =>
          rw [h4] at e3
          exact nil e3
      · rw [if_neg h3] at e3
        by_cases h4 : n = 4 ∧ isB dk = false
        · rw [if_pos h4] at e3
          exact one e3 we hbk tb
        · rw [if_neg h4] at e3
          exact nil e3
end Paw

set_option maxRecDepth 100000
set_option maxHeartbeats 8000000
namespace Paw
open PySem PySem.Spec PyProof.Rows L2
theorem menu_pick {K : PySem.W.Frag} {H : Hp} {xs : List V} {ds : List PyData} (h : RDs K H xs ds) (t : ds.all tinyD = true) {j : Nat} (hj : j < xs.length) : ∃ v d, xs[j]? = some v ∧ RD K H v d ∧ tinyD d = true := by
  have hx := List.getElem?_eq_getElem hj
  obtain ⟨d, hd, rd⟩ := h.at_ hx
  exact ⟨_, d, hx, rd, List.all_eq_true.mp t d (List.mem_of_getElem? hd)⟩
theorem rds_strs {K : PySem.W.Frag} {H : Hp} : ∀ ss : List Str, RDs K H (ss.map V.str) (ss.map PyData.str)
  | [] => .nil
  | s :: r => .cons (.str s) (rds_strs r)
theorem same_via {p : Addr} {H1 G0 H2 : Hp} (s : Same H1 G0) (n : H1 p = none) (b : But p G0 H2) : Same H1 H2 := fun c o e => b c o (ne_of_none e n) (s c o e)
theorem tiny_bl : ∀ c : Bool, tinyD (.bool c) = true := by decide +kernel
theorem ixN_in {n : Nat} {i : Int} (h0 : 0 ≤ i) (h : i < n) : ixN n i = some i.toNat := by
  unfold ixN
  rw [if_pos (by omega), if_pos (by omega)]
theorem alike_yes {d : PyData} : decide (V.str d.shown = V.str d.shown) = true := decide_eq_true rfl
theorem menu_tiny : ∀ s ∈ menuS, tinyD (.str s) = true := by decide +kernel
theorem free_but {p N : Addr} {G H : Hp} (b : But p G H) (n : N ≠ p) (h : H N = none) : G N = none := by
  cases e : G N with
  | none => rfl
  | some o =>
    have := b _ _ n e
    rw [h] at this
    cases this
theorem lens_at {kd : Nat} (h : kd < 6) : atI [V.int 2, V.int 2, V.int 3, V.int 1, V.int 1, V.int 2] (kd : Int) = some (.int ((lensK kd : Nat) : Int)) := by
  match kd, h with
  | 0, _ => exact atI_nat (j := 0) rfl
  | 1, _ => exact atI_nat (j := 1) rfl
  | 2, _ => exact atI_nat (j := 2) rfl
  | 3, _ => exact atI_nat (j := 3) rfl
  | 4, _ => exact atI_nat (j := 4) rfl
  | 5, _ => exact atI_nat (j := 5) rfl
theorem lens_le (kd : Nat) : lensK kd ≤ 3 ∧ 0 < lensK kd := by
  unfold lensK
  split <;> decide
section
variable {P : Program} {wd : World} {K : PySem.W.Frag} {mg : Str → Option Value} {base : Heap}
theorem scLaw : FnScope ["script", "k", "pile", "kind", "names", "teeth", "back", "turn", "at", "way"] ["script"] (defScope sLaw) := ⟨rfl, rfl, rfl, by decide +kernel, rfl, by decide +kernel, by decide +kernel⟩
theorem ok_law {f fP fT fS fO fN fC fD fA : Addr} {fd fdP fdT fdS fdO fdN fdC fdD fdA : FuncData} (F : Fun K "law" "law" sLaw f fd)
    (GP : FnOk P wd K mg base CX0 1 fP fdP ["script", "k"] (spPile K)) (gP : mg "_law_pile" = some (.ref fP)) (kP : PySem.W.keepIn K (.ref fP) = true) (bP : Binds K fdP ["script", "k"] [])
    (GT : FnOk P wd K mg base CX0 2 fT fdT ["pile", "many"] spTake) (gT : mg "_law_take" = some (.ref fT)) (kT : PySem.W.keepIn K (.ref fT) = true) (bT : Binds K fdT ["pile", "many"] [])
    (GS : FnOk P wd K mg base CX0 3 fS fdS ["pile"] spSize) (gS : mg "_law_size" = some (.ref fS)) (kS : PySem.W.keepIn K (.ref fS) = true) (bS : Binds K fdS ["pile"] [])
    (GO : FnOk P wd K mg base CX0 3 fO fdO ["pile"] (spDraw K)) (gO : mg "_law_odd" = some (.ref fO)) (kO : PySem.W.keepIn K (.ref fO) = true) (bO : Binds K fdO ["pile"] [])
    (GN : FnOk P wd K mg base CX0 4 fN fdN ["pile", "many"] spNames) (gN : mg "_law_names" = some (.ref fN)) (kN : PySem.W.keepIn K (.ref fN) = true) (bN : Binds K fdN ["pile", "many"] [])
    (GC : FnOk P wd K mg base CX0 8 fC fdC ["kind", "names", "teeth", "back"] (spCaughtK K)) (gC : mg "_law_caught" = some (.ref fC)) (kC : PySem.W.keepIn K (.ref fC) = true) (bC : Binds K fdC ["kind", "names", "teeth", "back"] [])
    (GD : FnOk P wd K mg base CX0 3 fD fdD ["kind", "names", "teeth", "back"] (spDueK K)) (gD : mg "_law_due" = some (.ref fD)) (kD : PySem.W.keepIn K (.ref fD) = true) (bD : Binds K fdD ["kind", "names", "teeth", "back"] [])
    (GA : FnG P wd K mg base CX0 1 fA fdA ["one", "other"] (spAlike K)) (gA : mg "_law_alike" = some (.ref fA)) (kA : PySem.W.keepIn K (.ref fA) = true) (bA : Binds K fdA ["one", "other"] [])
    (zr : mg "range" = none) (zl : mg "len" = none) : FnG P wd K mg base CX0 9 f fd ["script"] (spLaw K) := by
  refine funG0 F scLaw (fun vs H Q E h => ?_) (fun cdv A hG outer s H vs Q E hS hr h => ?_)
  · obtain ⟨a, ns, rfl, _⟩ := h
    rfl
  · obtain ⟨a, ns, rfl, hns, q⟩ := h
    have g : Gd (cxOf CX0 P wd K mg base ["script", "k", "pile", "kind", "names", "teeth", "back", "turn", "at", "way"] "law" (defScope sLaw) f cdv A outer s H E).nox := ⟨hG, hS, rfl⟩
    have hr1 : Room 1 (cxOf CX0 P wd K mg base ["script", "k", "pile", "kind", "names", "teeth", "back", "turn", "at", "way"] "law" (defScope sLaw) f cdv A outer s H E).nox.A := hr.mono (by decide)
    have hr2 : Room 2 (cxOf CX0 P wd K mg base ["script", "k", "pile", "kind", "names", "teeth", "back", "turn", "at", "way"] "law" (defScope sLaw) f cdv A outer s H E).nox.A := hr.mono (by decide)
    have hr3 : Room 3 (cxOf CX0 P wd K mg base ["script", "k", "pile", "kind", "names", "teeth", "back", "turn", "at", "way"] "law" (defScope sLaw) f cdv A outer s H E).nox.A := hr.mono (by decide)
    have hr4 : Room 4 (cxOf CX0 P wd K mg base ["script", "k", "pile", "kind", "names", "teeth", "back", "turn", "at", "way"] "law" (defScope sLaw) f cdv A outer s H E).nox.A := hr.mono (by decide)
    have hr8 : Room 8 (cxOf CX0 P wd K mg base ["script", "k", "pile", "kind", "names", "teeth", "back", "turn", "at", "way"] "law" (defScope sLaw) f cdv A outer s H E).nox.A := hr.mono (by decide)
    refine ⟨_, (pss_cons (ps_for PassesOwn.never rfl (pi_range1 rfl zr (pa_cons pe_int pa_nil)) (pg_name (i := 1) scLaw.nd rfl (Or.inl rfl)) (pss_cons (ps_set (i := 2) scLaw.nd rfl (Or.inl rfl) (pe_call GP hr1 rfl gP kP bP .nil pass0 (pa_cons (pv 0) (pa_cons (pv 1) pa_nil))))
      (pss_one (ps_for PassesOwn.never rfl (pi_range1 rfl zr (pa_cons pe_int pa_nil)) (pg_name (i := 3) scLaw.nd rfl (Or.inl rfl)) (pss_cons (ps_set (i := 4) scLaw.nd rfl (Or.inl rfl) (pe_call GN hr4 rfl gN kN bN .nil pass0 (pa_cons (pv 2) (pa_cons (pe_ix ix_list (pe_lst (pa_cons pe_int (pa_cons pe_int (pa_cons pe_int (pa_cons pe_int (pa_cons pe_int (pa_cons pe_int pa_nil))))))) (pv 3) (fun _ _ => rfl)) pa_nil))))
      (pss_cons (ps_set (i := 5) scLaw.nd rfl (Or.inl rfl) (pe_lst (pa_cons (pe_call GS hr3 rfl gS kS bS .nil pass0 (pa_cons (pv 2) pa_nil)) (pa_cons (pe_call GS hr3 rfl gS kS bS .nil pass0 (pa_cons (pv 2) pa_nil)) pa_nil))))
      (pss_cons (ps_set (i := 6) scLaw.nd rfl (Or.inl rfl) (pe_cmpR op_eq (pe_call GT hr2 rfl gT kT bT .nil pass0 (pa_cons (pv 2) (pa_cons pe_int pa_nil))) pe_int (nomark _)))
      (pss_one (ps_for PassesOwn.never rfl (pi_range1 rfl zr (pa_cons pe_int pa_nil)) (pg_name (i := 7) scLaw.nd rfl (Or.inl rfl)) (pss_cons (ps_set (i := 8) scLaw.nd rfl (Or.inl rfl) (pe_call GT hr2 rfl gT kT bT .nil pass0 (pa_cons (pv 2) (pa_cons (pe_callB call_len_seq (by rfl) zl bt_len (pa_cons (pv 4) pa_nil)) pa_nil))))
      (pss_cons (ps_set (i := 9) scLaw.nd rfl (Or.inl rfl) (pe_call GT hr2 rfl gT kT bT .nil pass0 (pa_cons (pv 2) (pa_cons pe_int pa_nil))))
      (pss_cons (ps_if (pt_cmpR op_eq (pv 9) pe_int (nomark _)) (pss_one (ps_asg (pe_call GO hr3 rfl gO kO bO .nil pass0 (pa_cons (pv 2) pa_nil)) (pg_sub (pv 4) (pv 8) set_list))) pss_nil)
      (pss_cons (ps_if (pt_cmpR op_eq (pv 9) pe_int (nomark _)) (pss_one (ps_asg (pe_ix ix_list (pv 4) (pe_call GT hr2 rfl gT kT bT .nil pass0 (pa_cons (pv 2) (pa_cons (pe_callB call_len_seq (by rfl) zl bt_len (pa_cons (pv 4) pa_nil)) pa_nil))) (fun _ _ => rfl)) (pg_sub (pv 4) (pv 8) set_list))) pss_nil)
      (pss_cons (ps_if (pt_cmpR op_eq (pv 9) pe_int (nomark _)) (pss_one (ps_asg (pe_ix ix_list (pe_lst (pa_cons pe_int (pa_cons (pe_un un_neg pe_int) (pa_cons pe_bl (pa_cons pe_non (pa_cons pe_str (pa_cons (pe_tup (pa_cons pe_int (pa_cons pe_int pa_nil))) (pa_cons (pe_lst pa_nil) (pa_cons pe_bl pa_nil))))))))) (pe_call GT hr2 rfl gT kT bT .nil pass0 (pa_cons (pv 2) (pa_cons pe_int pa_nil))) (fun _ _ => rfl)) (pg_sub (pv 5) (pe_call GT hr2 rfl gT kT bT .nil pass0 (pa_cons (pv 2) (pa_cons pe_int pa_nil))) set_list))) pss_nil)
      (pss_cons (ps_if (pt_cmpR op_eq (pv 9) pe_int (nomark _)) (pss_one (ps_set (i := 6) scLaw.nd rfl (Or.inl rfl) (pe_ix ix_list (pe_lst (pa_cons pe_non (pa_cons pe_int (pa_cons pe_int (pa_cons pe_str (pa_cons (pe_tup pa_nil) (pa_cons pe_bl (pa_cons pe_bl (pa_cons (pe_lst pa_nil) pa_nil))))))))) (pe_call GT hr2 rfl gT kT bT .nil pass0 (pa_cons (pv 2) (pa_cons pe_int pa_nil))) (fun _ _ => rfl)))) pss_nil)
      (pss_one (ps_if (pt_not (pt_val (pe_callG GA g hr1 rfl gA kA bA .nil pass0 (pa_cons (pe_call GC hr8 rfl gC kC bC .nil pass0 (pa_cons (pv 3) (pa_cons (pv 4) (pa_cons (pv 5) (pa_cons (pv 6) pa_nil))))) (pa_cons (pe_call GD hr3 rfl gD kD bD .nil pass0 (pa_cons (pv 3) (pa_cons (pv 4) (pa_cons (pv 5) (pa_cons (pv 6) pa_nil))))) pa_nil))))) (pss_one (ps_ret pe_bl)) pss_nil)))))))))))))))))
      (pss_one (ps_ret pe_bl))), ?_⟩
    refine ⟨24, rfl, by decide, by decide, for_range (n := 24) (fun k σ H' => (∃ v1 v2 v3 v4 v5 v6 v7 v8 v9 : Option V, σ = [some (.ref a), v1, v2, v3, v4, v5, v6, v7, v8, v9]) ∧ SqL K H' a (ns.map V.int)) ⟨⟨_, _, _, _, _, _, _, _, _, rfl⟩, hns⟩ ?_ ?_⟩
    · rintro k σ H1 hk ⟨⟨v1, v2, v3, v4, v5, v6, v7, v8, v9, rfl⟩, sq1⟩
      rw [Int.zero_add]
      refine ⟨_, rfl, _, rfl, a, ns, k, rfl, sq1, fun G0 p L0 sP nP hp0 hL0 => ?_⟩
      generalize decide ((k : Int) < 2) = b at hL0
      refine ⟨6, rfl, by decide, by decide, for_range (n := 6) (fun kd σ H' => (∃ w3 w4 w5 w6 w7 w8 w9 : Option V, σ = [some (.ref a), some (.int (k : Int)), some (.ref p), w3, w4, w5, w6, w7, w8, w9]) ∧ But p G0 H' ∧ ∃ L, H' p = some (.lst L) ∧ Pile b L) ⟨⟨_, _, _, _, _, _, _, rfl⟩, But.refl, _, hp0, hL0⟩ ?_ ?_⟩
      · rintro kd σ H2 hkd ⟨⟨w3, w4, w5, w6, w7, w8, w9, rfl⟩, b2, L2', hp2, hL2⟩
        rw [Int.zero_add]
        obtain ⟨ml, mp⟩ := lens_le kd
        refine ⟨_, rfl, (by show 6 ≤ sizeLine; decide), fun M nM => ⟨_, rfl, M, _, (kd : Int), _, rfl, rfl, SqL.of upd_same, lens_at hkd, ?_⟩⟩
        have sM := same_new (o := .lst [V.int 2, V.int 2, V.int 3, V.int 1, V.int 1, V.int 2]) nM
        have b3 := b2.trans (same_but sM)
        have hp3 := sM _ _ hp2
        refine ⟨p, b, L2', lensK kd, rfl, by omega, hp3, hL2, fun H4 N ss L4 b4 nN eN lenN inN hp4 hL4 => ?_⟩
        have i1 : N ≠ p := (ne_of_none hp3 nN).symm
        refine ⟨_, rfl, p, b, _, rfl, hp4, hL4, fun z1 L5 H5 s1 b5 hp5 hL5 => ⟨_, rfl, p, b, _, rfl, hp5, hL5, fun z2 L6 H6 s2 b6 hp6 hL6 => ⟨(by show 2 ≤ sizeLine; decide), fun T nT => ?_⟩⟩⟩
        have eN6 := b6 _ _ i1 (b5 _ _ i1 eN)
        have sT := same_new (o := .lst [V.int z1, V.int z2]) nT
        have i2 : T ≠ p := (ne_of_none hp6 nT).symm
        have i3 : N ≠ T := ne_of_none eN6 nT
        have hp7 := sT _ _ hp6
        have bT : But p G0 (upd H6 T (.lst [V.int z1, V.int z2])) := ((((b3.trans b4).trans b5).trans b6).trans (same_but sT))
        have gN0 : G0 N = none := free_but b3 i1 nN
        have gT0 : G0 T = none := free_but (((b3.trans b4).trans b5).trans b6) i2 nT
        refine ⟨_, rfl, p, 2, b, _, rfl, by decide, by decide, hp7, hL6, fun r L8 H8 r0 r1 hL8 b8 hp8 => ⟨rfl, ?_⟩⟩
        have st0 : StA K p N T b (lensK kd) (.bl (decide (V.int r = V.int 0))) H8 := by
          refine ⟨⟨L8, hp8, hL8⟩, ⟨_, _, b8 _ _ i1 (sT _ _ eN6), by rw [List.length_map, lenN], rds_strs ss, fun d hd => ?_⟩, ⟨_, _, b8 _ _ i2 upd_same, rfl, .cons (.int z1) (.cons (.int z2) .nil), fun d hd => ?_⟩, ⟨_, .bl _, tiny_bl _⟩, i1, i2, i3⟩
          · obtain ⟨z, hz, rfl⟩ := List.mem_map.mp hd
            exact menu_tiny z (inN z hz)
          · rcases List.mem_cons.mp hd with rfl | hd
            · exact tiny_int s1
            · rw [List.mem_singleton.mp hd]
              exact tiny_int s2
        refine ⟨3, rfl, by decide, by decide, for_range (n := 3) (fun tn σ H' => (∃ (bk : V) (u7 u8 u9 : Option V), σ = [some (.ref a), some (.int (k : Int)), some (.ref p), some (.int (kd : Int)), some (.ref N), some (.ref T), some bk, u7, u8, u9] ∧ StA K p N T b (lensK kd) bk H') ∧ But p G0 H') ⟨⟨_, _, _, _, rfl, st0⟩, bT.trans b8⟩ ?_ ?_⟩
        · rintro tn σ H9 htn ⟨⟨bk, u7, u8, u9, rfl, st⟩, b9⟩
          obtain ⟨L9, hp9, hL9⟩ := st.pile
          obtain ⟨xs9, ds9, n1, n2, n3, n4⟩ := st.names
          refine ⟨_, rfl, _, rfl, N, xs9, rfl, .inl (SqL.of n1), p, _, b, L9, rfl, by omega, ?_, hp9, hL9, fun at_ L10 H10 a0 a1 hL10 b10 hp10 => ?_⟩
          · exact Nat.lt_of_lt_of_le (abs60 (n := 101) (by omega) (by decide)) (Nat.pow_le_pow_right (by decide) (by decide))
          have st10 := st_keep st b10 hp10 hL10
          refine ⟨_, rfl, p, 4, b, L10, rfl, by decide, by decide +kernel, hp10, hL10, fun way L11 H11 w0 w1 hL11 b11 hp11 => ?_⟩
          have st11 := st_keep st10 b11 hp11 hL11
          have bu := (b9.trans b10).trans b11
          have hw : way = 0 ∨ way = 1 ∨ way = 2 ∨ way = 3 := by omega
          rcases hw with rfl | rfl | rfl | rfl
          · refine ⟨_, rfl, rfl, _, rfl, it_t (by decide) ?_⟩
            refine ⟨_, rfl, p, b, L11, rfl, hp11, hL11, fun v d L12 H12 rd ti b12 hp12 hL12 => ?_⟩
            have st12 := st_keep st11 b12 hp12 hL12
            obtain ⟨xs, x1, x2, stF⟩ := st_names st12 (st_new st11 rd) ti at_.toNat
            have buF : But p G0 (upd H12 N (.lst (xs.set at_.toNat v))) := fun c o n e => (upd_ne (ne_of_none e gN0)).trans ((bu.trans b12) c o n e)
            refine ⟨_, rfl, _, rfl, N, xs, at_, at_.toNat, rfl, rfl, x1, ixN_in a0 (by omega), ?_⟩
            refine ⟨_, rfl, rfl, _, rfl, it_f (by decide) ?_⟩
            refine ⟨_, rfl, rfl, _, rfl, it_f (by decide) ?_⟩
            refine ⟨_, rfl, rfl, _, rfl, it_f (by decide) ?_⟩
            obtain ⟨LF, hpF, hLF⟩ := stF.pile
            obtain ⟨xsF, dsF, m1, m2, m3, m4⟩ := stF.names
            obtain ⟨tsF, esF, t1, t2, t3, t4⟩ := stF.teeth
            obtain ⟨dkF, k1, k2⟩ := stF.back
            have rx := RDs.mono cut_same _ _ m3
            have re := RDs.mono cut_same _ _ t3
            have rk := RD.mono cut_same _ _ k1
            obtain ⟨dd, fit, dat⟩ := told_data (n := kd) rx m4 re t4 rk k2
            refine ⟨_, rfl, _, rfl, _, rfl, _, rfl, kd, N, T, xsF, tsF, _, dsF, esF, dkF, rfl, hkd, SqL.of m1, rx, m2, fun d hd => tiny_len (m4 d hd), SqL.of t1, re, t2, rk, fun r1 Ha sa na tolda => ?_⟩
            refine ⟨_, rfl, _, rfl, _, rfl, _, rfl, kd, N, T, xsF, tsF, _, dsF, esF, dkF, rfl, SqL.of (sa _ _ m1), RDs.mono sa _ _ rx, by omega, fun d hd => tiny_len (m4 d hd), SqL.of (sa _ _ t1), RDs.mono sa _ _ re, by omega, RD.mono sa _ _ rk, fun r2 Hb sb nb toldb => ?_⟩
            refine ⟨_, _, dd, dd, rfl, dat Ha Hb r1 sa tolda sb, dat Hb Hb r2 (sa.trans sb) toldb (fun _ _ e => e), fit, fit, _, rfl, ?_⟩
            rw [alike_yes]
            exact it_f rfl ⟨⟨_, _, _, _, rfl, st_same stF (sa.trans sb)⟩, buF.trans (same_but (sa.trans sb))⟩
          · refine ⟨_, rfl, rfl, _, rfl, it_f (by decide) ?_⟩
            refine ⟨_, rfl, rfl, _, rfl, it_t (by decide) ?_⟩
            obtain ⟨xs1, ds1, y1, y2, _, _⟩ := st11.names
            refine ⟨_, rfl, _, rfl, _, rfl, N, xs1, rfl, .inl (SqL.of y1), p, _, b, L11, rfl, by omega, ?_, hp11, hL11, fun j L12 H12 j0 j1 hL12 b12 hp12 => ?_⟩
            · exact Nat.lt_of_lt_of_le (abs60 (n := 101) (by omega) (by decide)) (Nat.pow_le_pow_right (by decide) (by decide))
            have st12 := st_keep st11 b12 hp12 hL12
            obtain ⟨xs2, ds2, z1, z2, z3, z4⟩ := st12.names
            have hj : j.toNat < xs2.length := by omega
            obtain ⟨v, hx⟩ : ∃ v, xs2[j.toNat]? = some v := ⟨_, List.getElem?_eq_getElem hj⟩
            obtain ⟨d, hd, rd⟩ := z3.at_ hx
            obtain ⟨xs, x1, x2, stF⟩ := st_names st12 rd (z4 d (List.mem_of_getElem? hd)) at_.toNat
            have buF : But p G0 (upd H12 N (.lst (xs.set at_.toNat v))) := fun c o n e => (upd_ne (ne_of_none e gN0)).trans ((bu.trans b12) c o n e)
            refine ⟨N, xs2, j, v, rfl, rfl, SqL.of z1, ?_, _, rfl, _, rfl, N, xs, at_, at_.toNat, rfl, rfl, x1, ixN_in a0 (by omega), ?_⟩
            · have ej : ((j.toNat : Nat) : Int) = j := by omega
              rw [← ej]
              exact atI_nat (j := j.toNat) hx
            refine ⟨_, rfl, rfl, _, rfl, it_f (by decide) ?_⟩
            refine ⟨_, rfl, rfl, _, rfl, it_f (by decide) ?_⟩
            obtain ⟨LF, hpF, hLF⟩ := stF.pile
            obtain ⟨xsF, dsF, m1, m2, m3, m4⟩ := stF.names
            obtain ⟨tsF, esF, t1, t2, t3, t4⟩ := stF.teeth
            obtain ⟨dkF, k1, k2⟩ := stF.back
            have rx := RDs.mono cut_same _ _ m3
            have re := RDs.mono cut_same _ _ t3
            have rk := RD.mono cut_same _ _ k1
            obtain ⟨dd, fit, dat⟩ := told_data (n := kd) rx m4 re t4 rk k2
            refine ⟨_, rfl, _, rfl, _, rfl, _, rfl, kd, N, T, xsF, tsF, _, dsF, esF, dkF, rfl, hkd, SqL.of m1, rx, m2, fun d hd => tiny_len (m4 d hd), SqL.of t1, re, t2, rk, fun r1 Ha sa na tolda => ?_⟩
            refine ⟨_, rfl, _, rfl, _, rfl, _, rfl, kd, N, T, xsF, tsF, _, dsF, esF, dkF, rfl, SqL.of (sa _ _ m1), RDs.mono sa _ _ rx, by omega, fun d hd => tiny_len (m4 d hd), SqL.of (sa _ _ t1), RDs.mono sa _ _ re, by omega, RD.mono sa _ _ rk, fun r2 Hb sb nb toldb => ?_⟩
            refine ⟨_, _, dd, dd, rfl, dat Ha Hb r1 sa tolda sb, dat Hb Hb r2 (sa.trans sb) toldb (fun _ _ e => e), fit, fit, _, rfl, ?_⟩
            rw [alike_yes]
            exact it_f rfl ⟨⟨_, _, _, _, rfl, st_same stF (sa.trans sb)⟩, buF.trans (same_but (sa.trans sb))⟩
          · refine ⟨_, rfl, rfl, _, rfl, it_f (by decide) ?_⟩
            refine ⟨_, rfl, rfl, _, rfl, it_f (by decide) ?_⟩
            refine ⟨_, rfl, rfl, _, rfl, it_t (by decide) ?_⟩
            refine ⟨_, rfl, (by show 2 ≤ sizeLine; decide), fun t5 h5 => ⟨(by show 0 ≤ sizeLine; decide), fun t6 h6 => ⟨(by show 8 ≤ sizeLine; decide), fun l hl => ?_⟩⟩⟩
            have s5 := same_new (o := .tup [V.int 1, V.int 2]) h5
            have s6 := same_new (o := .lst []) h6
            have sl := same_new (o := .lst [V.int 0, V.int (-1), V.bl true, V.non, V.str "1", V.ref t5, V.ref t6, V.bl false]) hl
            have sm := (s5.trans s6).trans sl
            have c5 : t5 ≠ p := (ne_of_none hp11 h5).symm
            have c6 : t6 ≠ p := (ne_of_none (s5 _ _ hp11) h6).symm
            have cl : l ≠ p := (ne_of_none (s6 _ _ (s5 _ _ hp11)) hl).symm
            refine ⟨_, rfl, p, 8, b, L11, rfl, by decide, by decide +kernel, sm _ _ hp11, hL11, fun j L12 H12 j0 j1 hL12 b12 hp12 => ?_⟩
            have e5 : newer H11 H12 t5 = some (.tup [V.int 1, V.int 2]) := (newer_at h5).trans (b12 _ _ c5 (sl _ _ (s6 _ _ upd_same)))
            have e6 : newer H11 H12 t6 = some (.lst []) := (newer_at (s5.free h6)).trans (b12 _ _ c6 (sl _ _ upd_same))
            have rds : RDs K (newer H11 H12) [V.int 0, V.int (-1), V.bl true, V.non, V.str "1", V.ref t5, V.ref t6, V.bl false] [PyData.int 0, .int (-1), .bool true, .none, .str "1", .tuple [.int 1, .int 2], .list [], .bool false] := .cons (.int 0) (.cons (.int (-1)) (.cons (.bl true) (.cons .non (.cons (.str _) (.cons (.tup (SqT.of e5) (.cons (.int 1) (.cons (.int 2) .nil))) (.cons (.lst (SqL.of e6) .nil) (.cons (.bl false) .nil)))))))
            obtain ⟨v, d, hv, rd, ti⟩ := menu_pick rds (by decide +kernel) (show j.toNat < 8 by omega)
            have hj : atI [V.int 0, V.int (-1), V.bl true, V.non, V.str "1", V.ref t5, V.ref t6, V.bl false] j = some v := by
              have ej : ((j.toNat : Nat) : Int) = j := by omega
              rw [← ej]
              exact atI_nat (j := j.toNat) hv
            have b12a := (same_but sm).trans b12
            have st12 := st_keep st11 b12a hp12 hL12
            have rc := st_new st11 rd
            refine ⟨l, _, j, v, rfl, rfl, SqL.of (b12 _ _ cl upd_same), hj, _, rfl, _, rfl, p, 2, b, L12, rfl, by decide, by decide +kernel, hp12, hL12, fun i L13 H13 i0 i1 hL13 b13 hp13 => ?_⟩
            have st13 := st_keep st12 b13 hp13 hL13
            obtain ⟨ts, x1, x2, stF⟩ := st_teeth st13 (RD.mono (cut3_mono fun c o n1 _ _ e => b13 c o n1 e) _ _ rc) ti i.toNat
            have buF : But p G0 (upd H13 T (.lst (ts.set i.toNat v))) := fun c o n e => (upd_ne (ne_of_none e gT0)).trans (((bu.trans b12a).trans b13) c o n e)
            refine ⟨T, ts, i, i.toNat, rfl, rfl, x1, ixN_in i0 (by omega), ?_⟩
            refine ⟨_, rfl, rfl, _, rfl, it_f (by decide) ?_⟩
            obtain ⟨LF, hpF, hLF⟩ := stF.pile
            obtain ⟨xsF, dsF, m1, m2, m3, m4⟩ := stF.names
            obtain ⟨tsF, esF, t1, t2, t3, t4⟩ := stF.teeth
            obtain ⟨dkF, k1, k2⟩ := stF.back
            have rx := RDs.mono cut_same _ _ m3
            have re := RDs.mono cut_same _ _ t3
            have rk := RD.mono cut_same _ _ k1
            obtain ⟨dd, fit, dat⟩ := told_data (n := kd) rx m4 re t4 rk k2
            refine ⟨_, rfl, _, rfl, _, rfl, _, rfl, kd, N, T, xsF, tsF, _, dsF, esF, dkF, rfl, hkd, SqL.of m1, rx, m2, fun d hd => tiny_len (m4 d hd), SqL.of t1, re, t2, rk, fun r1 Ha sa na tolda => ?_⟩
            refine ⟨_, rfl, _, rfl, _, rfl, _, rfl, kd, N, T, xsF, tsF, _, dsF, esF, dkF, rfl, SqL.of (sa _ _ m1), RDs.mono sa _ _ rx, by omega, fun d hd => tiny_len (m4 d hd), SqL.of (sa _ _ t1), RDs.mono sa _ _ re, by omega, RD.mono sa _ _ rk, fun r2 Hb sb nb toldb => ?_⟩
            refine ⟨_, _, dd, dd, rfl, dat Ha Hb r1 sa tolda sb, dat Hb Hb r2 (sa.trans sb) toldb (fun _ _ e => e), fit, fit, _, rfl, ?_⟩
            rw [alike_yes]
            exact it_f rfl ⟨⟨_, _, _, _, rfl, st_same stF (sa.trans sb)⟩, buF.trans (same_but (sa.trans sb))⟩
          · refine ⟨_, rfl, rfl, _, rfl, it_f (by decide) ?_⟩
            refine ⟨_, rfl, rfl, _, rfl, it_f (by decide) ?_⟩
            refine ⟨_, rfl, rfl, _, rfl, it_f (by decide) ?_⟩
            refine ⟨_, rfl, rfl, _, rfl, it_t (by decide) ?_⟩
            refine ⟨(by show 0 ≤ sizeLine; decide), fun t5 h5 => ⟨(by show 0 ≤ sizeLine; decide), fun t6 h6 => ⟨(by show 8 ≤ sizeLine; decide), fun l hl => ?_⟩⟩⟩
            have s5 := same_new (o := .tup ([] : List V)) h5
            have s6 := same_new (o := .lst []) h6
            have sl := same_new (o := .lst [V.non, V.int 0, V.int 1, V.str "True", V.ref t5, V.bl true, V.bl false, V.ref t6]) hl
            have sm := (s5.trans s6).trans sl
            have c5 : t5 ≠ p := (ne_of_none hp11 h5).symm
            have c6 : t6 ≠ p := (ne_of_none (s5 _ _ hp11) h6).symm
            have cl : l ≠ p := (ne_of_none (s6 _ _ (s5 _ _ hp11)) hl).symm
            refine ⟨_, rfl, p, 8, b, L11, rfl, by decide, by decide +kernel, sm _ _ hp11, hL11, fun j L12 H12 j0 j1 hL12 b12 hp12 => ?_⟩
            have e5 : newer H11 H12 t5 = some (.tup ([] : List V)) := (newer_at h5).trans (b12 _ _ c5 (sl _ _ (s6 _ _ upd_same)))
            have e6 : newer H11 H12 t6 = some (.lst []) := (newer_at (s5.free h6)).trans (b12 _ _ c6 (sl _ _ upd_same))
            have rds : RDs K (newer H11 H12) [V.non, V.int 0, V.int 1, V.str "True", V.ref t5, V.bl true, V.bl false, V.ref t6] [PyData.none, .int 0, .int 1, .str "True", .tuple [], .bool true, .bool false, .list []] := .cons .non (.cons (.int 0) (.cons (.int 1) (.cons (.str _) (.cons (.tup (SqT.of e5) .nil) (.cons (.bl true) (.cons (.bl false) (.cons (.lst (SqL.of e6) .nil) .nil)))))))
            obtain ⟨v, d, hv, rd, ti⟩ := menu_pick rds (by decide +kernel) (show j.toNat < 8 by omega)
            have hj : atI [V.non, V.int 0, V.int 1, V.str "True", V.ref t5, V.bl true, V.bl false, V.ref t6] j = some v := by
              have ej : ((j.toNat : Nat) : Int) = j := by omega
              rw [← ej]
              exact atI_nat (j := j.toNat) hv
            have b12a := (same_but sm).trans b12
            have st12 := st_keep st11 b12a hp12 hL12
            have rc := st_new st11 rd
            have stF := st_back st12 rc ti
            have buF := bu.trans b12a
            refine ⟨l, _, j, v, rfl, rfl, SqL.of (b12 _ _ cl upd_same), hj, ?_⟩
            obtain ⟨LF, hpF, hLF⟩ := stF.pile
            obtain ⟨xsF, dsF, m1, m2, m3, m4⟩ := stF.names
            obtain ⟨tsF, esF, t1, t2, t3, t4⟩ := stF.teeth
            obtain ⟨dkF, k1, k2⟩ := stF.back
            have rx := RDs.mono cut_same _ _ m3
            have re := RDs.mono cut_same _ _ t3
            have rk := RD.mono cut_same _ _ k1
            obtain ⟨dd, fit, dat⟩ := told_data (n := kd) rx m4 re t4 rk k2
            refine ⟨_, rfl, _, rfl, _, rfl, _, rfl, kd, N, T, xsF, tsF, _, dsF, esF, dkF, rfl, hkd, SqL.of m1, rx, m2, fun d hd => tiny_len (m4 d hd), SqL.of t1, re, t2, rk, fun r1 Ha sa na tolda => ?_⟩
            refine ⟨_, rfl, _, rfl, _, rfl, _, rfl, kd, N, T, xsF, tsF, _, dsF, esF, dkF, rfl, SqL.of (sa _ _ m1), RDs.mono sa _ _ rx, by omega, fun d hd => tiny_len (m4 d hd), SqL.of (sa _ _ t1), RDs.mono sa _ _ re, by omega, RD.mono sa _ _ rk, fun r2 Hb sb nb toldb => ?_⟩
            refine ⟨_, _, dd, dd, rfl, dat Ha Hb r1 sa tolda sb, dat Hb Hb r2 (sa.trans sb) toldb (fun _ _ e => e), fit, fit, _, rfl, ?_⟩
            rw [alike_yes]
            exact it_f rfl ⟨⟨_, _, _, _, rfl, st_same stF (sa.trans sb)⟩, buF.trans (same_but (sa.trans sb))⟩
        · rintro σ H9 ⟨⟨bk, u7, u8, u9, rfl, st⟩, b9⟩
          obtain ⟨L9, hp9, hL9⟩ := st.pile
          exact ⟨⟨_, _, _, _, _, _, _, rfl⟩, b9, L9, hp9, hL9⟩
      · rintro σ H2 ⟨⟨w3, w4, w5, w6, w7, w8, w9, rfl⟩, b2, _⟩
        exact ⟨⟨_, _, _, _, _, _, _, _, _, rfl⟩, Same.seq (same_via sP nP b2) sq1⟩
    · rintro σ H1 ⟨_, sq1⟩
      exact q _
end
end Paw

set_option maxRecDepth 100000
set_option maxHeartbeats 4000000
namespace Paw
open PySem PySem.Spec PyProof.Rows L2
abbrev bmOf (CH : Addr) : List Value := [.ref CH, .type "ValueError", .type "Exception", .type "BaseException", .type "object"]
section
variable {K : PySem.W.Frag} {mg : Str → Option Value} {h : Heap} {C CH : Addr} {nm q : Str} {N : Addr} {bs : List Value} {sn : List Str} {sub : List Value} {ab : Bool} {col : Option Bool} {dd : Option Addr} {m0 m1 m2 m3 m5 : Option Value}
/-- a class of errors, by what the written part says -/
theorem exv_mk (xL : K.lookup C = some (excClassObj nm q C N bs (bmOf CH) true sn sub ab col dd m0 m1 m2 m3 m5 "ValueError.__new__"))
    (sa : PySem.W.findIn K (.ref C) "__setattr__" = some (some (.builtin "object.__setattr__"))) (ga : PySem.W.findIn K (.ref C) "__getattribute__" = some (some (.builtin "BaseException.__getattribute__"))) (gg : PySem.W.findIn K (.ref C) "__getattr__" = some none)
    (kC : PySem.W.keepIn K (.ref C) = true) (tC : PySem.W.typeIn K (.ref C) = some (.type "type")) (ca : PySem.W.findIn K (.ref C) "__class__" = some (some (.builtin "object.__class__")))
    (cg : PySem.W.specialIn K (.builtin "object.__class__") "__get__" = some (some (.builtin "getset_descriptor.__get__"))) (ct : PySem.W.takesIn K (.builtin "object.__class__") = some true) : ExV K C := by
  have cl : PySem.W.clsIn K C = some { name := nm, bases := bs, mro := .ref C :: bmOf CH, ns := N, qualname := q, hasDict := true, slotNames := sn, subclasses := sub, abstract := ab, collection := col, hasDel := false } := by
    unfold PySem.W.clsIn
    rw [xL] <;> rfl
  have ob : PySem.W.mroIn K C (.type "object") = some true := by
    unfold PySem.W.mroIn
    rw [cl] <;> rfl
  have ex : PySem.W.subIn K (.ref C) (.type "BaseException") = some true := by
    show PySem.W.mroIn K C (.type "BaseException") = some true
    unfold PySem.W.mroIn
    rw [cl] <;> rfl
  have hd : PySem.W.hasDictIn K C = true := by
    unfold PySem.W.hasDictIn
    rw [cl] <;> rfl
  exact ⟨⟨⟨nm, q, N, bs, bmOf CH, sn, sub, ab, col, dd, m0, m1, m2, m3, m5, xL, by rfl⟩, sa, ex, tC, kC⟩, ga, gg, hd, ca, cg, ct, ob⟩
end
/-- except B catches an error of the class C, below B -/
theorem exm_sub {K : PySem.W.Frag} {C B : Addr} (ex : PySem.W.subIn K (.ref B) (.type "BaseException") = some true) (ic : PySem.W.isClsIn K B = true) (tC : PySem.W.typeIn K (.ref B) = some (.type "type")) (sc : PySem.W.subIn K (.ref C) (.ref B) = some true) : PySem.W.exmOne K (.ref C) (.ref B) = some true := by
  have ic' : (PySem.W.clsIn K B).isSome = true := ic
  unfold PySem.W.exmOne
  rw [ex, if_pos (by rfl)]
  show (if ((PySem.W.clsIn K B).isSome && PySem.W.typeIn K (.ref B) == some (.type "type")) = true then PySem.W.subIn K (.ref C) (.ref B) else none) = some true
  rw [ic', tC, if_pos (by rfl)]
  exact sc
abbrev sI0 : Stmt := inClass (top 4) 0
abbrev sI1 : Stmt := inClass (top 5) 0
abbrev sI2 : Stmt := inClass (top 6) 0
theorem b_mesh {K : PySem.W.Frag} {f : Addr} {fd : FuncData} (F : FunD K "__init__" "Mesh.__init__" (defArgs sMesh) (defBody sMesh) (defScope sMesh) [.int 1, .int 1] [] f fd) : Binds K fd ["self", "a", "b", "teeth", "other_teeth"] [] := by
  obtain ⟨ds, h1, h2⟩ := F.binds1 (ps := ["self", "a", "b", "teeth", "other_teeth"]) 5 2 (by simp) (by rfl) fun T kV doc pm an cdv ct us its h1 h2 => match us, its, h1, h2 with | [_, _, _, _, _], [_, _], _, _ => ⟨_, rfl, rfl⟩
  cases h1
  exact h2
theorem b_chain {K : PySem.W.Frag} {f : Addr} {fd : FuncData} (F : FunD K "__init__" "Chain.__init__" (defArgs sChain) (defBody sChain) (defScope sChain) [.int 1, .int 1] [] f fd) : Binds K fd ["self", "a", "b", "teeth", "other_teeth"] [] := by
  obtain ⟨ds, h1, h2⟩ := F.binds1 (ps := ["self", "a", "b", "teeth", "other_teeth"]) 5 2 (by simp) (by rfl) fun T kV doc pm an cdv ct us its h1 h2 => match us, its, h1, h2 with | [_, _, _, _, _], [_, _], _, _ => ⟨_, rfl, rfl⟩
  cases h1
  exact h2
theorem b_diff {K : PySem.W.Frag} {f : Addr} {fd : FuncData} (F : FunD K "__init__" "Differential.__init__" (defArgs sDiff) (defBody sDiff) (defScope sDiff) [.int 1, .int 1] [] f fd) : Binds K fd ["self", "a", "b", "carrier", "teeth", "other_teeth"] [] := by
  obtain ⟨ds, h1, h2⟩ := F.binds1 (ps := ["self", "a", "b", "carrier", "teeth", "other_teeth"]) 6 2 (by simp) (by rfl) fun T kV doc pm an cdv ct us its h1 h2 => match us, its, h1, h2 with | [_, _, _, _, _, _], [_, _], _, _ => ⟨_, rfl, rfl⟩
  cases h1
  exact h2
theorem b_rat {K : PySem.W.Frag} {f : Addr} {fd : FuncData} (F : FunD K "__init__" "Ratchet.__init__" (defArgs sRat) (defBody sRat) (defScope sRat) [] [("backward", .bl false)] f fd) : KBn K fd ["self", "a", "backward"] 2 ["backward"] (fun us ws => us ++ ws) (fun vs zs => vs ++ zs) := by
  obtain ⟨mv, h⟩ := F.kbinds0 (ps := ["self", "a", "backward"]) 2 ["backward"] [] (fun us _ ws => us ++ ws) (by simp) (fun q hq => by cases hq) (fun h1 _ h2 => h1.append h2) fun D doc pm an cdv ct us mv ws h1 h2 h3 => match us, mv, ws, h1, h2, h3 with | [_, _], [], [_], _, _, _ => rfl
  exact h

theorem all_mk {l : PySem.W.OpenLaw} {wd : World} {K : PySem.W.Frag} {h : Heap} {mg : Str → Option Value} {fa : Addr} (X : K.In h) (G : h.Ns mainGlobals mg) (hfa : mg "law" = some (.ref fa))
    {CH : Addr}
    {C0 : Addr}
    {C1 : Addr}
    {C2 : Addr}
    {C3 : Addr}
    {C4 : Addr}
    {C5 : Addr}
    {C6 : Addr}
    {N0 : Addr} {nm0 q0 : Str} {bs0 : List Value} {sn0 : List Str} {sb0 : List Value} {ab0 : Bool} {co0 : Option Bool} {dd0 : Option Addr} {ma0 mb0 mc0 md0 me0 : Option Value}
    {f0 : Addr} {od0 an0 : Option Addr} {sl0 : Array (Option Value)} {oc0 kV0 dc0 pm0 cd0 ct0 : Value}
    {N1 : Addr} {nm1 q1 : Str} {bs1 : List Value} {sn1 : List Str} {sb1 : List Value} {ab1 : Bool} {co1 : Option Bool} {dd1 : Option Addr} {ma1 mb1 mc1 md1 me1 : Option Value}
    {f1 : Addr} {od1 an1 : Option Addr} {sl1 : Array (Option Value)} {oc1 kV1 dc1 pm1 cd1 ct1 : Value}
    {N2 : Addr} {nm2 q2 : Str} {bs2 : List Value} {sn2 : List Str} {sb2 : List Value} {ab2 : Bool} {co2 : Option Bool} {dd2 : Option Addr} {ma2 mb2 mc2 md2 me2 : Option Value}
    {f2 : Addr} {od2 an2 : Option Addr} {sl2 : Array (Option Value)} {oc2 kV2 dc2 pm2 cd2 ct2 : Value}
    {P0 p0 : Addr} {pod0 pan0 : Option Addr} {psl0 : Array (Option Value)} {poc0 pdc0 ppm0 pcd0 pct0 : Value} {pkV0 : Value}
    {TD0 : Addr} {dT0 : Option Addr} {sT0 : Array (Option Value)} {cT0 : Value} {tT0 uT0 : Tok} {nT0 : Nat}
    {P1 p1 : Addr} {pod1 pan1 : Option Addr} {psl1 : Array (Option Value)} {poc1 pdc1 ppm1 pcd1 pct1 : Value} {pkV1 : Value}
    {TD1 : Addr} {dT1 : Option Addr} {sT1 : Array (Option Value)} {cT1 : Value} {tT1 uT1 : Tok} {nT1 : Nat}
    {P2 p2 : Addr} {pod2 pan2 : Option Addr} {psl2 : Array (Option Value)} {poc2 pdc2 ppm2 pcd2 pct2 : Value} {pkV2 : Value}
    {TD2 : Addr} {dT2 : Option Addr} {sT2 : Array (Option Value)} {cT2 : Value} {tT2 uT2 : Tok} {nT2 : Nat}
    {P3 p3 : Addr} {pod3 pan3 : Option Addr} {psl3 : Array (Option Value)} {poc3 pdc3 ppm3 pcd3 pct3 : Value} {pkV3 : Value}
    {P4 p4 : Addr} {pod4 pan4 : Option Addr} {psl4 : Array (Option Value)} {poc4 pdc4 ppm4 pcd4 pct4 : Value}
    {KD4 : Addr} 
    {P5 p5 : Addr} {pod5 pan5 : Option Addr} {psl5 : Array (Option Value)} {poc5 pdc5 ppm5 pcd5 pct5 : Value} {pkV5 : Value}
    {mcM : Value}
    {g0 : Addr} {Od0 An0 : Option Addr} {Sl0 : Array (Option Value)} {Oc0 KV0 Dc0 Pm0 Cd0 Ct0 : Value}
    {g1 : Addr} {Od1 An1 : Option Addr} {Sl1 : Array (Option Value)} {Oc1 KV1 Dc1 Pm1 Cd1 Ct1 : Value}
    {g2 : Addr} {Od2 An2 : Option Addr} {Sl2 : Array (Option Value)} {Oc2 KV2 Dc2 Pm2 Cd2 Ct2 : Value}
    {g3 : Addr} {Od3 An3 : Option Addr} {Sl3 : Array (Option Value)} {Oc3 KV3 Dc3 Pm3 Cd3 Ct3 : Value}
    {g4 : Addr} {Od4 An4 : Option Addr} {Sl4 : Array (Option Value)} {Oc4 KV4 Dc4 Pm4 Cd4 Ct4 : Value}
    {g5 : Addr} {Od5 An5 : Option Addr} {Sl5 : Array (Option Value)} {Oc5 KV5 Dc5 Pm5 Cd5 Ct5 : Value}
    {g6 : Addr} {Od6 An6 : Option Addr} {Sl6 : Array (Option Value)} {Oc6 KV6 Dc6 Pm6 Cd6 Ct6 : Value}
    {g7 : Addr} {Od7 An7 : Option Addr} {Sl7 : Array (Option Value)} {Oc7 KV7 Dc7 Pm7 Cd7 Ct7 : Value}
    {g8 : Addr} {Od8 An8 : Option Addr} {Sl8 : Array (Option Value)} {Oc8 KV8 Dc8 Pm8 Cd8 Ct8 : Value}
    {g9 : Addr} {Od9 An9 : Option Addr} {Sl9 : Array (Option Value)} {Oc9 KV9 Dc9 Pm9 Cd9 Ct9 : Value}
    {g10 : Addr} {Od10 An10 : Option Addr} {Sl10 : Array (Option Value)} {Oc10 KV10 Dc10 Pm10 Cd10 Ct10 : Value}
    {g11 : Addr} {Od11 An11 : Option Addr} {Sl11 : Array (Option Value)} {Oc11 KV11 Dc11 Pm11 Cd11 Ct11 : Value}
    {g12 : Addr} {Od12 An12 : Option Addr} {Sl12 : Array (Option Value)} {Oc12 KV12 Dc12 Pm12 Cd12 Ct12 : Value}
    {g13 : Addr} {Od13 An13 : Option Addr} {Sl13 : Array (Option Value)} {Oc13 KV13 Dc13 Pm13 Cd13 Ct13 : Value}
    {g14 : Addr} {Od14 An14 : Option Addr} {Sl14 : Array (Option Value)} {Oc14 KV14 Dc14 Pm14 Cd14 Ct14 : Value}
    {g15 : Addr} {Od15 An15 : Option Addr} {Sl15 : Array (Option Value)} {Oc15 KV15 Dc15 Pm15 Cd15 Ct15 : Value}
    {g16 : Addr} {Od16 An16 : Option Addr} {Sl16 : Array (Option Value)} {Oc16 KV16 Dc16 Pm16 Cd16 Ct16 : Value}
    {g17 : Addr} {Od17 An17 : Option Addr} {Sl17 : Array (Option Value)} {Oc17 KV17 Dc17 Pm17 Cd17 Ct17 : Value}
    {g18 : Addr} {Od18 An18 : Option Addr} {Sl18 : Array (Option Value)} {Oc18 KV18 Dc18 Pm18 Cd18 Ct18 : Value}
    {g19 : Addr} {Od19 An19 : Option Addr} {Sl19 : Array (Option Value)} {Oc19 KV19 Dc19 Pm19 Cd19 Ct19 : Value}
    {g20 : Addr} {Od20 An20 : Option Addr} {Sl20 : Array (Option Value)} {Oc20 KV20 Dc20 Pm20 Cd20 Ct20 : Value}
    (cg : PySem.W.specialIn K (.builtin "object.__class__") "__get__" = some (some (.builtin "getset_descriptor.__get__")))
    (ct : PySem.W.takesIn K (.builtin "object.__class__") = some true)
    (aH : PySem.W.nsIn K mainGlobals "HallError" = some (some (.ref CH)))
    (iH : PySem.W.isClsIn K CH = true)
    (tH : PySem.W.typeIn K (.ref CH) = some (.type "type"))
    (bH : PySem.W.subIn K (.ref CH) (.type "BaseException") = some true)
    (aC0 : PySem.W.nsIn K mainGlobals "NoName" = some (some (.ref C0)))
    (nn0 : PySem.W.kitOne K (.type "NoneType") (.ref C0) = some false)
    (aC1 : PySem.W.nsIn K mainGlobals "Twice" = some (some (.ref C1)))
    (nn1 : PySem.W.kitOne K (.type "NoneType") (.ref C1) = some false)
    (aC2 : PySem.W.nsIn K mainGlobals "NoTeeth" = some (some (.ref C2)))
    (nn2 : PySem.W.kitOne K (.type "NoneType") (.ref C2) = some false)
    (aC3 : PySem.W.nsIn K mainGlobals "NoPart" = some (some (.ref C3)))
    (nn3 : PySem.W.kitOne K (.type "NoneType") (.ref C3) = some false)
    (aC4 : PySem.W.nsIn K mainGlobals "NoWheel" = some (some (.ref C4)))
    (nn4 : PySem.W.kitOne K (.type "NoneType") (.ref C4) = some false)
    (aC5 : PySem.W.nsIn K mainGlobals "NoText" = some (some (.ref C5)))
    (nn5 : PySem.W.kitOne K (.type "NoneType") (.ref C5) = some false)
    (aC6 : PySem.W.nsIn K mainGlobals "NoFraction" = some (some (.ref C6)))
    (nn6 : PySem.W.kitOne K (.type "NoneType") (.ref C6) = some false)
    (x0 : K.lookup C0 = some (excClassObj nm0 q0 C0 N0 bs0 (bmOf CH) true sn0 sb0 ab0 co0 dd0 ma0 mb0 mc0 md0 me0 "ValueError.__new__"))
    (sa0 : PySem.W.findIn K (.ref C0) "__setattr__" = some (some (.builtin "object.__setattr__")))
    (ga0 : PySem.W.findIn K (.ref C0) "__getattribute__" = some (some (.builtin "BaseException.__getattribute__")))
    (gg0 : PySem.W.findIn K (.ref C0) "__getattr__" = some none)
    (kC0 : PySem.W.keepIn K (.ref C0) = true)
    (tC0 : PySem.W.typeIn K (.ref C0) = some (.type "type"))
    (ca0 : PySem.W.findIn K (.ref C0) "__class__" = some (some (.builtin "object.__class__")))
    (no0 : PySem.W.findIn K (.ref C0) "name" = some none)
    (i0 : PySem.W.findIn K (.ref C0) "__init__" = some (some (.ref f0)))
    (t0 : PySem.W.typeIn K (.ref f0) = some (.type "function"))
    (l0 : K.lookup f0 = some ⟨oc0, od0, .func (PySem.W.fnOf "__init__" "NoName.__init__" (defArgs sI0) (defBody sI0) (defScope sI0) .none kV0 dc0 pm0 an0 cd0 ct0), sl0⟩)
    (c0 : PySem.W.codeIn K cd0 "NoName.__init__" = true)
    (k0 : PySem.W.keepIn K (.ref f0) = true)
    (sH0 : PySem.W.subIn K (.ref C0) (.ref CH) = some true)
    (x1 : K.lookup C1 = some (excClassObj nm1 q1 C1 N1 bs1 (bmOf CH) true sn1 sb1 ab1 co1 dd1 ma1 mb1 mc1 md1 me1 "ValueError.__new__"))
    (sa1 : PySem.W.findIn K (.ref C1) "__setattr__" = some (some (.builtin "object.__setattr__")))
    (ga1 : PySem.W.findIn K (.ref C1) "__getattribute__" = some (some (.builtin "BaseException.__getattribute__")))
    (gg1 : PySem.W.findIn K (.ref C1) "__getattr__" = some none)
    (kC1 : PySem.W.keepIn K (.ref C1) = true)
    (tC1 : PySem.W.typeIn K (.ref C1) = some (.type "type"))
    (ca1 : PySem.W.findIn K (.ref C1) "__class__" = some (some (.builtin "object.__class__")))
    (no1 : PySem.W.findIn K (.ref C1) "name" = some none)
    (i1 : PySem.W.findIn K (.ref C1) "__init__" = some (some (.ref f1)))
    (t1 : PySem.W.typeIn K (.ref f1) = some (.type "function"))
    (l1 : K.lookup f1 = some ⟨oc1, od1, .func (PySem.W.fnOf "__init__" "Twice.__init__" (defArgs sI1) (defBody sI1) (defScope sI1) .none kV1 dc1 pm1 an1 cd1 ct1), sl1⟩)
    (c1 : PySem.W.codeIn K cd1 "Twice.__init__" = true)
    (k1 : PySem.W.keepIn K (.ref f1) = true)
    (sH1 : PySem.W.subIn K (.ref C1) (.ref CH) = some true)
    (x2 : K.lookup C2 = some (excClassObj nm2 q2 C2 N2 bs2 (bmOf CH) true sn2 sb2 ab2 co2 dd2 ma2 mb2 mc2 md2 me2 "ValueError.__new__"))
    (sa2 : PySem.W.findIn K (.ref C2) "__setattr__" = some (some (.builtin "object.__setattr__")))
    (ga2 : PySem.W.findIn K (.ref C2) "__getattribute__" = some (some (.builtin "BaseException.__getattribute__")))
    (gg2 : PySem.W.findIn K (.ref C2) "__getattr__" = some none)
    (kC2 : PySem.W.keepIn K (.ref C2) = true)
    (tC2 : PySem.W.typeIn K (.ref C2) = some (.type "type"))
    (ca2 : PySem.W.findIn K (.ref C2) "__class__" = some (some (.builtin "object.__class__")))
    (no2 : PySem.W.findIn K (.ref C2) "value" = some none)
    (i2 : PySem.W.findIn K (.ref C2) "__init__" = some (some (.ref f2)))
    (t2 : PySem.W.typeIn K (.ref f2) = some (.type "function"))
    (l2 : K.lookup f2 = some ⟨oc2, od2, .func (PySem.W.fnOf "__init__" "NoTeeth.__init__" (defArgs sI2) (defBody sI2) (defScope sI2) .none kV2 dc2 pm2 an2 cd2 ct2), sl2⟩)
    (c2 : PySem.W.codeIn K cd2 "NoTeeth.__init__" = true)
    (k2 : PySem.W.keepIn K (.ref f2) = true)
    (sH2 : PySem.W.subIn K (.ref C2) (.ref CH) = some true)
    (qNN : PySem.W.kitOne K (.ref C0) (.ref C0) = some true)
    (qTN : PySem.W.kitOne K (.ref C1) (.ref C0) = some false)
    (qTT : PySem.W.kitOne K (.ref C1) (.ref C1) = some true)
    (qEN : PySem.W.kitOne K (.ref C2) (.ref C0) = some false)
    (qET : PySem.W.kitOne K (.ref C2) (.ref C1) = some false)
    (qEE : PySem.W.kitOne K (.ref C2) (.ref C2) = some true)
    (pa0 : PySem.W.nsIn K mainGlobals "Mesh" = some (some (.ref P0)))
    (pm0 : PySem.W.makesIn K P0 = true)
    (pi0 : PySem.W.findIn K (.ref P0) "__init__" = some (some (.ref p0)))
    (pf0 : PySem.W.isFn K (.ref p0) = true)
    (pk0 : PySem.W.keepIn K (.ref P0) = true)
    (pg0 : PySem.W.plainGet K P0 Str.empty = true)
    (ph0 : PySem.W.hasDictIn K P0 = true)
    (po0 : PySem.W.plainOver K P0 = true)
    (ps0 : PySem.W.findIn K (.ref P0) "__setattr__" = some (some (.builtin "object.__setattr__")))
    (pn0 : PySem.W.findIn K (.ref P0) "_names" = some none)
    (pt0 : PySem.W.findIn K (.ref P0) "_teeth" = some none)
    (pl0 : K.lookup p0 = some ⟨poc0, pod0, .func (PySem.W.fnOf "__init__" "Mesh.__init__" (defArgs sMesh) (defBody sMesh) (defScope sMesh) (.ref TD0) pkV0 pdc0 ppm0 pan0 pcd0 pct0), psl0⟩)
    (pc0 : PySem.W.codeIn K pcd0 "Mesh.__init__" = true)
    (pe0 : PySem.W.keepIn K (.ref p0) = true)
    (pd0 : K.lookup TD0 = some ⟨cT0, dT0, .seq #[.int 1 tT0, .int 1 uT0] nT0, sT0⟩)
    (pa1 : PySem.W.nsIn K mainGlobals "Chain" = some (some (.ref P1)))
    (pm1 : PySem.W.makesIn K P1 = true)
    (pi1 : PySem.W.findIn K (.ref P1) "__init__" = some (some (.ref p1)))
    (pf1 : PySem.W.isFn K (.ref p1) = true)
    (pk1 : PySem.W.keepIn K (.ref P1) = true)
    (pg1 : PySem.W.plainGet K P1 Str.empty = true)
    (ph1 : PySem.W.hasDictIn K P1 = true)
    (po1 : PySem.W.plainOver K P1 = true)
    (ps1 : PySem.W.findIn K (.ref P1) "__setattr__" = some (some (.builtin "object.__setattr__")))
    (pn1 : PySem.W.findIn K (.ref P1) "_names" = some none)
    (pt1 : PySem.W.findIn K (.ref P1) "_teeth" = some none)
    (pl1 : K.lookup p1 = some ⟨poc1, pod1, .func (PySem.W.fnOf "__init__" "Chain.__init__" (defArgs sChain) (defBody sChain) (defScope sChain) (.ref TD1) pkV1 pdc1 ppm1 pan1 pcd1 pct1), psl1⟩)
    (pc1 : PySem.W.codeIn K pcd1 "Chain.__init__" = true)
    (pe1 : PySem.W.keepIn K (.ref p1) = true)
    (pd1 : K.lookup TD1 = some ⟨cT1, dT1, .seq #[.int 1 tT1, .int 1 uT1] nT1, sT1⟩)
    (pa2 : PySem.W.nsIn K mainGlobals "Differential" = some (some (.ref P2)))
    (pm2 : PySem.W.makesIn K P2 = true)
    (pi2 : PySem.W.findIn K (.ref P2) "__init__" = some (some (.ref p2)))
    (pf2 : PySem.W.isFn K (.ref p2) = true)
    (pk2 : PySem.W.keepIn K (.ref P2) = true)
    (pg2 : PySem.W.plainGet K P2 Str.empty = true)
    (ph2 : PySem.W.hasDictIn K P2 = true)
    (po2 : PySem.W.plainOver K P2 = true)
    (ps2 : PySem.W.findIn K (.ref P2) "__setattr__" = some (some (.builtin "object.__setattr__")))
    (pn2 : PySem.W.findIn K (.ref P2) "_names" = some none)
    (pt2 : PySem.W.findIn K (.ref P2) "_teeth" = some none)
    (pl2 : K.lookup p2 = some ⟨poc2, pod2, .func (PySem.W.fnOf "__init__" "Differential.__init__" (defArgs sDiff) (defBody sDiff) (defScope sDiff) (.ref TD2) pkV2 pdc2 ppm2 pan2 pcd2 pct2), psl2⟩)
    (pc2 : PySem.W.codeIn K pcd2 "Differential.__init__" = true)
    (pe2 : PySem.W.keepIn K (.ref p2) = true)
    (pd2 : K.lookup TD2 = some ⟨cT2, dT2, .seq #[.int 1 tT2, .int 1 uT2] nT2, sT2⟩)
    (pa3 : PySem.W.nsIn K mainGlobals "Brake" = some (some (.ref P3)))
    (pm3 : PySem.W.makesIn K P3 = true)
    (pi3 : PySem.W.findIn K (.ref P3) "__init__" = some (some (.ref p3)))
    (pf3 : PySem.W.isFn K (.ref p3) = true)
    (pk3 : PySem.W.keepIn K (.ref P3) = true)
    (pg3 : PySem.W.plainGet K P3 Str.empty = true)
    (ph3 : PySem.W.hasDictIn K P3 = true)
    (po3 : PySem.W.plainOver K P3 = true)
    (ps3 : PySem.W.findIn K (.ref P3) "__setattr__" = some (some (.builtin "object.__setattr__")))
    (pn3 : PySem.W.findIn K (.ref P3) "_names" = some none)
    (pt3 : PySem.W.findIn K (.ref P3) "_teeth" = some none)
    (pl3 : K.lookup p3 = some ⟨poc3, pod3, .func (PySem.W.fnOf "__init__" "Brake.__init__" (defArgs sBrake) (defBody sBrake) (defScope sBrake) .none pkV3 pdc3 ppm3 pan3 pcd3 pct3), psl3⟩)
    (pc3 : PySem.W.codeIn K pcd3 "Brake.__init__" = true)
    (pe3 : PySem.W.keepIn K (.ref p3) = true)
    (pa4 : PySem.W.nsIn K mainGlobals "Ratchet" = some (some (.ref P4)))
    (pm4 : PySem.W.makesIn K P4 = true)
    (pi4 : PySem.W.findIn K (.ref P4) "__init__" = some (some (.ref p4)))
    (pf4 : PySem.W.isFn K (.ref p4) = true)
    (pk4 : PySem.W.keepIn K (.ref P4) = true)
    (pg4 : PySem.W.plainGet K P4 Str.empty = true)
    (ph4 : PySem.W.hasDictIn K P4 = true)
    (po4 : PySem.W.plainOver K P4 = true)
    (ps4 : PySem.W.findIn K (.ref P4) "__setattr__" = some (some (.builtin "object.__setattr__")))
    (pn4 : PySem.W.findIn K (.ref P4) "_names" = some none)
    (pt4 : PySem.W.findIn K (.ref P4) "_teeth" = some none)
    (pl4 : K.lookup p4 = some ⟨poc4, pod4, .func (PySem.W.fnOf "__init__" "Ratchet.__init__" (defArgs sRat) (defBody sRat) (defScope sRat) .none (.ref KD4) pdc4 ppm4 pan4 pcd4 pct4), psl4⟩)
    (pc4 : PySem.W.codeIn K pcd4 "Ratchet.__init__" = true)
    (pe4 : PySem.W.keepIn K (.ref p4) = true)
    (pd4 : PySem.W.nsIn K KD4 "backward" = some (some (.bool false)))
    (pa5 : PySem.W.nsIn K mainGlobals "Freewheel" = some (some (.ref P5)))
    (pm5 : PySem.W.makesIn K P5 = true)
    (pi5 : PySem.W.findIn K (.ref P5) "__init__" = some (some (.ref p5)))
    (pf5 : PySem.W.isFn K (.ref p5) = true)
    (pk5 : PySem.W.keepIn K (.ref P5) = true)
    (pg5 : PySem.W.plainGet K P5 Str.empty = true)
    (ph5 : PySem.W.hasDictIn K P5 = true)
    (po5 : PySem.W.plainOver K P5 = true)
    (ps5 : PySem.W.findIn K (.ref P5) "__setattr__" = some (some (.builtin "object.__setattr__")))
    (pn5 : PySem.W.findIn K (.ref P5) "_names" = some none)
    (pt5 : PySem.W.findIn K (.ref P5) "_teeth" = some none)
    (pl5 : K.lookup p5 = some ⟨poc5, pod5, .func (PySem.W.fnOf "__init__" "Freewheel.__init__" (defArgs sFree) (defBody sFree) (defScope sFree) .none pkV5 pdc5 ppm5 pan5 pcd5 pct5), psl5⟩)
    (pc5 : PySem.W.codeIn K pcd5 "Freewheel.__init__" = true)
    (pe5 : PySem.W.keepIn K (.ref p5) = true)
    (pb4 : PySem.W.findIn K (.ref P4) "_backward" = some none)
    (mt : PySem.W.typeIn K (.ref P0) = some mcM)
    (mr : PySem.W.readsIn K P0 mcM = true)
    (mg_ : PySem.W.specialIn K (.ref P0) "__getattribute__" = some (some (.builtin "type.__getattribute__")))
    (mf : PySem.W.findCls K (.ref P0) mcM "__init__" = some (.val (.ref p0)))
    (A0 : PySem.W.nsIn K mainGlobals "_law_mixed" = some (some (.ref g0)))
    (L0 : K.lookup g0 = some ⟨Oc0, Od0, .func (PySem.W.fnOf "_law_mixed" "_law_mixed" (defArgs sMixed) (defBody sMixed) (defScope sMixed) .none KV0 Dc0 Pm0 An0 Cd0 Ct0), Sl0⟩)
    (D0 : PySem.W.codeIn K Cd0 "_law_mixed" = true)
    (E0 : PySem.W.keepIn K (.ref g0) = true)
    (A1 : PySem.W.nsIn K mainGlobals "_law_pile" = some (some (.ref g1)))
    (L1 : K.lookup g1 = some ⟨Oc1, Od1, .func (PySem.W.fnOf "_law_pile" "_law_pile" (defArgs sPile) (defBody sPile) (defScope sPile) .none KV1 Dc1 Pm1 An1 Cd1 Ct1), Sl1⟩)
    (D1 : PySem.W.codeIn K Cd1 "_law_pile" = true)
    (E1 : PySem.W.keepIn K (.ref g1) = true)
    (A2 : PySem.W.nsIn K mainGlobals "_law_take" = some (some (.ref g2)))
    (L2 : K.lookup g2 = some ⟨Oc2, Od2, .func (PySem.W.fnOf "_law_take" "_law_take" (defArgs sTake) (defBody sTake) (defScope sTake) .none KV2 Dc2 Pm2 An2 Cd2 Ct2), Sl2⟩)
    (D2 : PySem.W.codeIn K Cd2 "_law_take" = true)
    (E2 : PySem.W.keepIn K (.ref g2) = true)
    (A3 : PySem.W.nsIn K mainGlobals "_law_order" = some (some (.ref g3)))
    (L3 : K.lookup g3 = some ⟨Oc3, Od3, .func (PySem.W.fnOf "_law_order" "_law_order" (defArgs sOrder) (defBody sOrder) (defScope sOrder) .none KV3 Dc3 Pm3 An3 Cd3 Ct3), Sl3⟩)
    (D3 : PySem.W.codeIn K Cd3 "_law_order" = true)
    (E3 : PySem.W.keepIn K (.ref g3) = true)
    (A4 : PySem.W.nsIn K mainGlobals "_law_names" = some (some (.ref g4)))
    (L4 : K.lookup g4 = some ⟨Oc4, Od4, .func (PySem.W.fnOf "_law_names" "_law_names" (defArgs sNames) (defBody sNames) (defScope sNames) .none KV4 Dc4 Pm4 An4 Cd4 Ct4), Sl4⟩)
    (D4 : PySem.W.codeIn K Cd4 "_law_names" = true)
    (E4 : PySem.W.keepIn K (.ref g4) = true)
    (A5 : PySem.W.nsIn K mainGlobals "_law_size" = some (some (.ref g5)))
    (L5 : K.lookup g5 = some ⟨Oc5, Od5, .func (PySem.W.fnOf "_law_size" "_law_size" (defArgs sSize) (defBody sSize) (defScope sSize) .none KV5 Dc5 Pm5 An5 Cd5 Ct5), Sl5⟩)
    (D5 : PySem.W.codeIn K Cd5 "_law_size" = true)
    (E5 : PySem.W.keepIn K (.ref g5) = true)
    (A6 : PySem.W.nsIn K mainGlobals "_law_whole" = some (some (.ref g6)))
    (L6 : K.lookup g6 = some ⟨Oc6, Od6, .func (PySem.W.fnOf "_law_whole" "_law_whole" (defArgs sWhole) (defBody sWhole) (defScope sWhole) .none KV6 Dc6 Pm6 An6 Cd6 Ct6), Sl6⟩)
    (D6 : PySem.W.codeIn K Cd6 "_law_whole" = true)
    (E6 : PySem.W.keepIn K (.ref g6) = true)
    (A7 : PySem.W.nsIn K mainGlobals "_law_odd" = some (some (.ref g7)))
    (L7 : K.lookup g7 = some ⟨Oc7, Od7, .func (PySem.W.fnOf "_law_odd" "_law_odd" (defArgs sOdd) (defBody sOdd) (defScope sOdd) .none KV7 Dc7 Pm7 An7 Cd7 Ct7), Sl7⟩)
    (D7 : PySem.W.codeIn K Cd7 "_law_odd" = true)
    (E7 : PySem.W.keepIn K (.ref g7) = true)
    (A8 : PySem.W.nsIn K mainGlobals "_law_is_name" = some (some (.ref g8)))
    (L8 : K.lookup g8 = some ⟨Oc8, Od8, .func (PySem.W.fnOf "_law_is_name" "_law_is_name" (defArgs sLIsName) (defBody sLIsName) (defScope sLIsName) .none KV8 Dc8 Pm8 An8 Cd8 Ct8), Sl8⟩)
    (D8 : PySem.W.codeIn K Cd8 "_law_is_name" = true)
    (E8 : PySem.W.keepIn K (.ref g8) = true)
    (A9 : PySem.W.nsIn K mainGlobals "_law_alike" = some (some (.ref g9)))
    (L9 : K.lookup g9 = some ⟨Oc9, Od9, .func (PySem.W.fnOf "_law_alike" "_law_alike" (defArgs sAlike) (defBody sAlike) (defScope sAlike) .none KV9 Dc9 Pm9 An9 Cd9 Ct9), Sl9⟩)
    (D9 : PySem.W.codeIn K Cd9 "_law_alike" = true)
    (E9 : PySem.W.keepIn K (.ref g9) = true)
    (A10 : PySem.W.nsIn K mainGlobals "_law_names_due" = some (some (.ref g10)))
    (L10 : K.lookup g10 = some ⟨Oc10, Od10, .func (PySem.W.fnOf "_law_names_due" "_law_names_due" (defArgs sDue) (defBody sDue) (defScope sDue) .none KV10 Dc10 Pm10 An10 Cd10 Ct10), Sl10⟩)
    (D10 : PySem.W.codeIn K Cd10 "_law_names_due" = true)
    (E10 : PySem.W.keepIn K (.ref g10) = true)
    (A11 : PySem.W.nsIn K mainGlobals "_law_kind" = some (some (.ref g11)))
    (L11 : K.lookup g11 = some ⟨Oc11, Od11, .func (PySem.W.fnOf "_law_kind" "_law_kind" (defArgs sKind) (defBody sKind) (defScope sKind) .none KV11 Dc11 Pm11 An11 Cd11 Ct11), Sl11⟩)
    (D11 : PySem.W.codeIn K Cd11 "_law_kind" = true)
    (E11 : PySem.W.keepIn K (.ref g11) = true)
    (A12 : PySem.W.nsIn K mainGlobals "_law_caught" = some (some (.ref g12)))
    (L12 : K.lookup g12 = some ⟨Oc12, Od12, .func (PySem.W.fnOf "_law_caught" "_law_caught" (defArgs sCaught) (defBody sCaught) (defScope sCaught) .none KV12 Dc12 Pm12 An12 Cd12 Ct12), Sl12⟩)
    (D12 : PySem.W.codeIn K Cd12 "_law_caught" = true)
    (E12 : PySem.W.keepIn K (.ref g12) = true)
    (A13 : PySem.W.nsIn K mainGlobals "_law_due" = some (some (.ref g13)))
    (L13 : K.lookup g13 = some ⟨Oc13, Od13, .func (PySem.W.fnOf "_law_due" "_law_due" (defArgs sLDue) (defBody sLDue) (defScope sLDue) .none KV13 Dc13 Pm13 An13 Cd13 Ct13), Sl13⟩)
    (D13 : PySem.W.codeIn K Cd13 "_law_due" = true)
    (E13 : PySem.W.keepIn K (.ref g13) = true)
    (A14 : PySem.W.nsIn K mainGlobals "law" = some (some (.ref g14)))
    (L14 : K.lookup g14 = some ⟨Oc14, Od14, .func (PySem.W.fnOf "law" "law" (defArgs sLaw) (defBody sLaw) (defScope sLaw) .none KV14 Dc14 Pm14 An14 Cd14 Ct14), Sl14⟩)
    (D14 : PySem.W.codeIn K Cd14 "law" = true)
    (E14 : PySem.W.keepIn K (.ref g14) = true)
    (A15 : PySem.W.nsIn K mainGlobals "is_int" = some (some (.ref g15)))
    (L15 : K.lookup g15 = some ⟨Oc15, Od15, .func (PySem.W.fnOf "is_int" "is_int" (defArgs sIsInt) (defBody sIsInt) (defScope sIsInt) .none KV15 Dc15 Pm15 An15 Cd15 Ct15), Sl15⟩)
    (D15 : PySem.W.codeIn K Cd15 "is_int" = true)
    (E15 : PySem.W.keepIn K (.ref g15) = true)
    (A16 : PySem.W.nsIn K mainGlobals "is_name" = some (some (.ref g16)))
    (L16 : K.lookup g16 = some ⟨Oc16, Od16, .func (PySem.W.fnOf "is_name" "is_name" (defArgs sIsName) (defBody sIsName) (defScope sIsName) .none KV16 Dc16 Pm16 An16 Cd16 Ct16), Sl16⟩)
    (D16 : PySem.W.codeIn K Cd16 "is_name" = true)
    (E16 : PySem.W.keepIn K (.ref g16) = true)
    (A17 : PySem.W.nsIn K mainGlobals "check_names" = some (some (.ref g17)))
    (L17 : K.lookup g17 = some ⟨Oc17, Od17, .func (PySem.W.fnOf "check_names" "check_names" (defArgs sChkN) (defBody sChkN) (defScope sChkN) .none KV17 Dc17 Pm17 An17 Cd17 Ct17), Sl17⟩)
    (D17 : PySem.W.codeIn K Cd17 "check_names" = true)
    (E17 : PySem.W.keepIn K (.ref g17) = true)
    (A18 : PySem.W.nsIn K mainGlobals "check_distinct" = some (some (.ref g18)))
    (L18 : K.lookup g18 = some ⟨Oc18, Od18, .func (PySem.W.fnOf "check_distinct" "check_distinct" (defArgs sChkD) (defBody sChkD) (defScope sChkD) .none KV18 Dc18 Pm18 An18 Cd18 Ct18), Sl18⟩)
    (D18 : PySem.W.codeIn K Cd18 "check_distinct" = true)
    (E18 : PySem.W.keepIn K (.ref g18) = true)
    (A19 : PySem.W.nsIn K mainGlobals "_checked_names" = some (some (.ref g19)))
    (L19 : K.lookup g19 = some ⟨Oc19, Od19, .func (PySem.W.fnOf "_checked_names" "_checked_names" (defArgs sCkN) (defBody sCkN) (defScope sCkN) .none KV19 Dc19 Pm19 An19 Cd19 Ct19), Sl19⟩)
    (D19 : PySem.W.codeIn K Cd19 "_checked_names" = true)
    (E19 : PySem.W.keepIn K (.ref g19) = true)
    (A20 : PySem.W.nsIn K mainGlobals "_checked_teeth" = some (some (.ref g20)))
    (L20 : K.lookup g20 = some ⟨Oc20, Od20, .func (PySem.W.fnOf "_checked_teeth" "_checked_teeth" (defArgs sCkT) (defBody sCkT) (defScope sCkT) .none KV20 Dc20 Pm20 An20 Cd20 Ct20), Sl20⟩)
    (D20 : PySem.W.codeIn K Cd20 "_checked_teeth" = true)
    (E20 : PySem.W.keepIn K (.ref g20) = true)
    (zint : PySem.W.nsIn K mainGlobals "int" = some none)
    (zlen : PySem.W.nsIn K mainGlobals "len" = some none)
    (zabs : PySem.W.nsIn K mainGlobals "abs" = some none)
    (zrepr : PySem.W.nsIn K mainGlobals "repr" = some none)
    (zisinstance : PySem.W.nsIn K mainGlobals "isinstance" = some none)
    (zenumerate : PySem.W.nsIn K mainGlobals "enumerate" = some none)
    (zrange : PySem.W.nsIn K mainGlobals "range" = some none)
    (zbool : PySem.W.nsIn K mainGlobals "bool" = some none)
    (ztuple : PySem.W.nsIn K mainGlobals "tuple" = some none)
    (zstr : PySem.W.nsIn K mainGlobals "str" = some none)
    (zall : PySem.W.nsIn K mainGlobals "all" = some none) :
    ∃ fd : FuncData, (∀ (s : Shared) (v : Value), BindsTo s fd ⟨[v], []⟩ [("script", v)]) ∧ ∀ base : Heap, K.In base → base.Ns mainGlobals mg → FnG l.prog wd K mg base CX0 9 fa fd ["script"] (spLaw K) := by
  have e := hfa.symm.trans (PySem.W.mg_of X G A14)
  cases e
  have v0 : ExV K C0 := exv_mk x0 sa0 ga0 gg0 kC0 tC0 ca0 cg ct
  have te0 : PySem.W.exmOne K (.ref C0) (.ref CH) = some true := exm_sub bH iH tH sH0
  have F0 := fun_mk (st := sI0) l0 c0 k0
  have v1 : ExV K C1 := exv_mk x1 sa1 ga1 gg1 kC1 tC1 ca1 cg ct
  have te1 : PySem.W.exmOne K (.ref C1) (.ref CH) = some true := exm_sub bH iH tH sH1
  have F1 := fun_mk (st := sI1) l1 c1 k1
  have v2 : ExV K C2 := exv_mk x2 sa2 ga2 gg2 kC2 tC2 ca2 cg ct
  have te2 : PySem.W.exmOne K (.ref C2) (.ref CH) = some true := exm_sub bH iH tH sH2
  have F2 := fun_mk (st := sI2) l2 c2 k2
  have J0 := fun_mk (st := sMixed) L0 D0 E0
  have b0 := J0.binds (ps := ["cell", "k"]) fun _ _ _ _ _ _ us hl => match us, hl with | [_, _], _ => rfl
  have m0 := PySem.W.mg_of X G A0
  have J1 := fun_mk (st := sPile) L1 D1 E1
  have b1 := J1.binds (ps := ["script", "k"]) fun _ _ _ _ _ _ us hl => match us, hl with | [_, _], _ => rfl
  have m1 := PySem.W.mg_of X G A1
  have J2 := fun_mk (st := sTake) L2 D2 E2
  have b2 := J2.binds (ps := ["pile", "many"]) fun _ _ _ _ _ _ us hl => match us, hl with | [_, _], _ => rfl
  have m2 := PySem.W.mg_of X G A2
  have J3 := fun_mk (st := sOrder) L3 D3 E3
  have b3 := J3.binds (ps := ["pile", "many"]) fun _ _ _ _ _ _ us hl => match us, hl with | [_, _], _ => rfl
  have m3 := PySem.W.mg_of X G A3
  have J4 := fun_mk (st := sNames) L4 D4 E4
  have b4 := J4.binds (ps := ["pile", "many"]) fun _ _ _ _ _ _ us hl => match us, hl with | [_, _], _ => rfl
  have m4 := PySem.W.mg_of X G A4
  have J5 := fun_mk (st := sSize) L5 D5 E5
  have b5 := J5.binds (ps := ["pile"]) fun _ _ _ _ _ _ us hl => match us, hl with | [_], _ => rfl
  have m5 := PySem.W.mg_of X G A5
  have J6 := fun_mk (st := sWhole) L6 D6 E6
  have b6 := J6.binds (ps := ["thing"]) fun _ _ _ _ _ _ us hl => match us, hl with | [_], _ => rfl
  have m6 := PySem.W.mg_of X G A6
  have J7 := fun_mk (st := sOdd) L7 D7 E7
  have b7 := J7.binds (ps := ["pile"]) fun _ _ _ _ _ _ us hl => match us, hl with | [_], _ => rfl
  have m7 := PySem.W.mg_of X G A7
  have J8 := fun_mk (st := sLIsName) L8 D8 E8
  have b8 := J8.binds (ps := ["thing"]) fun _ _ _ _ _ _ us hl => match us, hl with | [_], _ => rfl
  have m8 := PySem.W.mg_of X G A8
  have J9 := fun_mk (st := sAlike) L9 D9 E9
  have b9 := J9.binds (ps := ["one", "other"]) fun _ _ _ _ _ _ us hl => match us, hl with | [_, _], _ => rfl
  have m9 := PySem.W.mg_of X G A9
  have J10 := fun_mk (st := sDue) L10 D10 E10
  have b10 := J10.binds (ps := ["names"]) fun _ _ _ _ _ _ us hl => match us, hl with | [_], _ => rfl
  have m10 := PySem.W.mg_of X G A10
  have J11 := fun_mk (st := sKind) L11 D11 E11
  have b11 := J11.binds (ps := ["error"]) fun _ _ _ _ _ _ us hl => match us, hl with | [_], _ => rfl
  have m11 := PySem.W.mg_of X G A11
  have J12 := fun_mk (st := sCaught) L12 D12 E12
  have b12 := J12.binds (ps := ["kind", "names", "teeth", "back"]) fun _ _ _ _ _ _ us hl => match us, hl with | [_, _, _, _], _ => rfl
  have m12 := PySem.W.mg_of X G A12
  have J13 := fun_mk (st := sLDue) L13 D13 E13
  have b13 := J13.binds (ps := ["kind", "names", "teeth", "back"]) fun _ _ _ _ _ _ us hl => match us, hl with | [_, _, _, _], _ => rfl
  have m13 := PySem.W.mg_of X G A13
  have J14 := fun_mk (st := sLaw) L14 D14 E14
  have b14 := J14.binds (ps := ["script"]) fun _ _ _ _ _ _ us hl => match us, hl with | [_], _ => rfl
  have m14 := PySem.W.mg_of X G A14
  have J15 := fun_mk (st := sIsInt) L15 D15 E15
  have b15 := J15.binds (ps := ["value"]) fun _ _ _ _ _ _ us hl => match us, hl with | [_], _ => rfl
  have m15 := PySem.W.mg_of X G A15
  have J16 := fun_mk (st := sIsName) L16 D16 E16
  have b16 := J16.binds (ps := ["value"]) fun _ _ _ _ _ _ us hl => match us, hl with | [_], _ => rfl
  have m16 := PySem.W.mg_of X G A16
  have J17 := fun_mk (st := sChkN) L17 D17 E17
  have b17 := J17.binds (ps := ["names"]) fun _ _ _ _ _ _ us hl => match us, hl with | [_], _ => rfl
  have m17 := PySem.W.mg_of X G A17
  have J18 := fun_mk (st := sChkD) L18 D18 E18
  have b18 := J18.binds (ps := ["names"]) fun _ _ _ _ _ _ us hl => match us, hl with | [_], _ => rfl
  have m18 := PySem.W.mg_of X G A18
  have J19 := fun_mk (st := sCkN) L19 D19 E19
  have m19 := PySem.W.mg_of X G A19
  have J20 := fun_mk (st := sCkT) L20 D20 E20
  have m20 := PySem.W.mg_of X G A20
  have yint := PySem.W.mg_none_of X G zint
  have ylen := PySem.W.mg_none_of X G zlen
  have yabs := PySem.W.mg_none_of X G zabs
  have yrepr := PySem.W.mg_none_of X G zrepr
  have yisinstance := PySem.W.mg_none_of X G zisinstance
  have yenumerate := PySem.W.mg_none_of X G zenumerate
  have yrange := PySem.W.mg_none_of X G zrange
  have ybool := PySem.W.mg_none_of X G zbool
  have ytuple := PySem.W.mg_none_of X G ztuple
  have ystr := PySem.W.mg_none_of X G zstr
  have yall := PySem.W.mg_none_of X G zall
  have p0m := PySem.W.mg_of X G pa0
  have q0 : Prt K mg "Mesh" P0 p0 := ⟨⟨pm0, pi0, pf0, pk0⟩, p0m, ⟨pg0, ph0, po0, ps0⟩, pn0, pt0⟩
  have R0 : FunD K "__init__" "Mesh.__init__" (defArgs sMesh) (defBody sMesh) (defScope sMesh) [.int 1, .int 1] [] p0 _ := ⟨⟨poc0, pod0, .ref TD0, pkV0, pdc0, ppm0, pan0, pcd0, pct0, psl0, rfl, pl0, pc0, .inr ⟨by simp, TD0, _, [.int 1 tT0, .int 1 uT0], nT0, rfl, pd0, rfl, .cons ⟨tT0, rfl⟩ (.cons ⟨uT0, rfl⟩ .nil)⟩, .inl rfl⟩, pe0⟩
  have p1m := PySem.W.mg_of X G pa1
  have q1 : Prt K mg "Chain" P1 p1 := ⟨⟨pm1, pi1, pf1, pk1⟩, p1m, ⟨pg1, ph1, po1, ps1⟩, pn1, pt1⟩
  have R1 : FunD K "__init__" "Chain.__init__" (defArgs sChain) (defBody sChain) (defScope sChain) [.int 1, .int 1] [] p1 _ := ⟨⟨poc1, pod1, .ref TD1, pkV1, pdc1, ppm1, pan1, pcd1, pct1, psl1, rfl, pl1, pc1, .inr ⟨by simp, TD1, _, [.int 1 tT1, .int 1 uT1], nT1, rfl, pd1, rfl, .cons ⟨tT1, rfl⟩ (.cons ⟨uT1, rfl⟩ .nil)⟩, .inl rfl⟩, pe1⟩
  have p2m := PySem.W.mg_of X G pa2
  have q2 : Prt K mg "Differential" P2 p2 := ⟨⟨pm2, pi2, pf2, pk2⟩, p2m, ⟨pg2, ph2, po2, ps2⟩, pn2, pt2⟩
  have R2 : FunD K "__init__" "Differential.__init__" (defArgs sDiff) (defBody sDiff) (defScope sDiff) [.int 1, .int 1] [] p2 _ := ⟨⟨poc2, pod2, .ref TD2, pkV2, pdc2, ppm2, pan2, pcd2, pct2, psl2, rfl, pl2, pc2, .inr ⟨by simp, TD2, _, [.int 1 tT2, .int 1 uT2], nT2, rfl, pd2, rfl, .cons ⟨tT2, rfl⟩ (.cons ⟨uT2, rfl⟩ .nil)⟩, .inl rfl⟩, pe2⟩
  have p3m := PySem.W.mg_of X G pa3
  have q3 : Prt K mg "Brake" P3 p3 := ⟨⟨pm3, pi3, pf3, pk3⟩, p3m, ⟨pg3, ph3, po3, ps3⟩, pn3, pt3⟩
  have R3 : FunD K "__init__" "Brake.__init__" (defArgs sBrake) (defBody sBrake) (defScope sBrake) [] [] p3 _ := ⟨⟨poc3, pod3, .none, pkV3, pdc3, ppm3, pan3, pcd3, pct3, psl3, rfl, pl3, pc3, .inl ⟨rfl, rfl⟩, .inl rfl⟩, pe3⟩
  have p4m := PySem.W.mg_of X G pa4
  have q4 : Prt K mg "Ratchet" P4 p4 := ⟨⟨pm4, pi4, pf4, pk4⟩, p4m, ⟨pg4, ph4, po4, ps4⟩, pn4, pt4⟩
  have R4 : FunD K "__init__" "Ratchet.__init__" (defArgs sRat) (defBody sRat) (defScope sRat) [] [("backward", .bl false)] p4 _ := ⟨⟨poc4, pod4, .none, .ref KD4, pdc4, ppm4, pan4, pcd4, pct4, psl4, rfl, pl4, pc4, .inl ⟨rfl, rfl⟩, .inr ⟨KD4, rfl, fun q hq => by rw [List.mem_singleton.mp hq]; exact ⟨_, pd4, rfl⟩⟩⟩, pe4⟩
  have p5m := PySem.W.mg_of X G pa5
  have q5 : Prt K mg "Freewheel" P5 p5 := ⟨⟨pm5, pi5, pf5, pk5⟩, p5m, ⟨pg5, ph5, po5, ps5⟩, pn5, pt5⟩
  have R5 : FunD K "__init__" "Freewheel.__init__" (defArgs sFree) (defBody sFree) (defScope sFree) [] [] p5 _ := ⟨⟨poc5, pod5, .none, pkV5, pdc5, ppm5, pan5, pcd5, pct5, psl5, rfl, pl5, pc5, .inl ⟨rfl, rfl⟩, .inl rfl⟩, pe5⟩
  have b0' := b_mesh R0
  have b1' := b_chain R1
  have b2' := b_diff R2
  have b3' : Binds K _ ["self", "a"] [] := R3.bindsN (ps := ["self", "a"]) fun _ _ _ _ _ _ us hl => match us, hl with | [_, _], _ => rfl
  have b4' := b_rat R4
  have b5' : Binds K _ ["self", "a", "b"] [] := R5.bindsN (ps := ["self", "a", "b"]) fun _ _ _ _ _ _ us hl => match us, hl with | [_, _, _], _ => rfl
  refine ⟨PySem.W.fnOf "law" "law" (defArgs sLaw) (defBody sLaw) (defScope sLaw) .none KV14 Dc14 Pm14 An14 Cd14 Ct14, fun s v => .of_eq rfl, fun base _ _ => ?_⟩
  have SI0 : FnScope ["self", "name"] ["self", "name"] (defScope sI0) := ⟨rfl, rfl, rfl, by decide +kernel, rfl, by decide +kernel, by decide +kernel⟩
  have GJ0 : FnOk l.prog wd K mg base CX0 1 f0 _ ["self", "name"] (spI1 K "name") := ok_init1 F0 SI0 rfl rfl ⟨_, _, _, _, rfl⟩ (by decide +kernel) (by decide +kernel)
  have bI0 := F0.binds (ps := ["self", "name"]) fun _ _ _ _ _ _ us hl => match us, hl with | [_, _], _ => rfl
  have T0 : Kv l.prog wd K mg base "NoName" "name" C0 := ⟨PySem.W.mg_of X G aC0, v0, no0, ⟨f0, _, i0, t0, GJ0, bI0⟩⟩
  have SI1 : FnScope ["self", "name"] ["self", "name"] (defScope sI1) := ⟨rfl, rfl, rfl, by decide +kernel, rfl, by decide +kernel, by decide +kernel⟩
  have GJ1 : FnOk l.prog wd K mg base CX0 1 f1 _ ["self", "name"] (spI1 K "name") := ok_init1 F1 SI1 rfl rfl ⟨_, _, _, _, rfl⟩ (by decide +kernel) (by decide +kernel)
  have bI1 := F1.binds (ps := ["self", "name"]) fun _ _ _ _ _ _ us hl => match us, hl with | [_, _], _ => rfl
  have T1 : Kv l.prog wd K mg base "Twice" "name" C1 := ⟨PySem.W.mg_of X G aC1, v1, no1, ⟨f1, _, i1, t1, GJ1, bI1⟩⟩
  have SI2 : FnScope ["self", "value"] ["self", "value"] (defScope sI2) := ⟨rfl, rfl, rfl, by decide +kernel, rfl, by decide +kernel, by decide +kernel⟩
  have GJ2 : FnOk l.prog wd K mg base CX0 1 f2 _ ["self", "value"] (spI1 K "value") := ok_init1 F2 SI2 rfl rfl ⟨_, _, _, _, rfl⟩ (by decide +kernel) (by decide +kernel)
  have bI2 := F2.binds (ps := ["self", "value"]) fun _ _ _ _ _ _ us hl => match us, hl with | [_, _], _ => rfl
  have T2 : Kv l.prog wd K mg base "NoTeeth" "value" C2 := ⟨PySem.W.mg_of X G aC2, v2, no2, ⟨f2, _, i2, t2, GJ2, bI2⟩⟩
  have T7 : Kit7 K mg ⟨C0, C1, C2, C3, C4, C5, C6⟩ := ⟨PySem.W.mg_of X G aC0, PySem.W.mg_of X G aC1, PySem.W.mg_of X G aC2, PySem.W.mg_of X G aC3, PySem.W.mg_of X G aC4, PySem.W.mg_of X G aC5, PySem.W.mg_of X G aC6, nn0, nn1, nn2, nn3, nn4, nn5, nn6, qNN, qTN, qTT, qEN, qET, qEE, v0, v1, v2, no0, no1, no2⟩
  have GM := ok_mixed (P := l.prog) (w := wd) (base := base) J0 yint
  have GP := ok_pile (P := l.prog) (w := wd) (base := base) J1 yint ylen yabs
  have GT := ok_take (P := l.prog) (w := wd) (base := base) J2 yint GM m0 E0 b0
  have GO := ok_oddD (K := K) (ok_odd (P := l.prog) (w := wd) (base := base) J7 GT m2 E2 b2)
  have GA := ok_alike (P := l.prog) (w := wd) (base := base) J9 yrepr
  have GOr := ok_order (P := l.prog) (w := wd) (base := base) J3 yrange ylen GT m2 E2 b2
  have GNa := ok_names (P := l.prog) (w := wd) (base := base) J4 GOr m3 E3 b3
  have GS := ok_size (P := l.prog) (w := wd) (base := base) J5 GT m2 E2 b2
  have GW := ok_whole (P := l.prog) (w := wd) (base := base) J6 yisinstance yint ybool
  have GLN := ok_lisname (P := l.prog) (w := wd) (base := base) J8 yisinstance ystr ylen
  have GND := ok_ndue (P := l.prog) (w := wd) (base := base) J10 yenumerate GLN m8 E8 b8
  have GLD := ok_due (P := l.prog) (w := wd) (base := base) J13 GND m10 E10 b10 GW m6 E6 b6
  have GII := ok_is_int (P := l.prog) (w := wd) (base := base) J15 yisinstance yint ybool
  have GIN := ok_is_name (P := l.prog) (w := wd) (base := base) J16 yisinstance ystr ylen yall
  have GCN := ok_check_names (P := l.prog) (w := wd) (base := base) J17 T0 GIN m16 E16 b16
  have GCD := ok_check_distinct (P := l.prog) (w := wd) (base := base) J18 T1 yenumerate
  have GKN := ok_checked_names (P := l.prog) (w := wd) (base := base) J19 GCN m17 E17 b17 GCD m18 E18 b18 ystr ytuple
  have GKT := ok_checked_teeth (P := l.prog) (w := wd) (base := base) J20 T2 GII m15 E15 b15 yint ytuple
  have H0 := ok_Mesh (P := l.prog) (w := wd) (base := base) R0 GKN m19 E19 GKT m20 E20
  have K0 : FnR l.prog wd K mg base (_root_.L2.CX l.prog wd) 5 p0 (spMesh K C0 C1 C2) := (fnR_of H0 b0' .nil).imp fun vs H Q E h => by rw [List.append_nil]; exact h
  have H1 := ok_Chain (P := l.prog) (w := wd) (base := base) R1 K0 p0m ⟨mr, mg_⟩ mf pe0
  have K1 : FnR l.prog wd K mg base (_root_.L2.CX l.prog wd) 6 p1 (spMesh K C0 C1 C2) := (fnR_of H1 b1' .nil).imp fun vs H Q E h => by rw [List.append_nil]; exact h
  have H2 := ok_Diff (P := l.prog) (w := wd) (base := base) R2 GKN m19 E19 GKT m20 E20
  have K2 : FnR l.prog wd K mg base (_root_.L2.CX l.prog wd) 5 p2 (spDiff K C0 C1 C2) := (fnR_of H2 b2' .nil).imp fun vs H Q E h => by rw [List.append_nil]; exact h
  have H3 := ok_Brake (P := l.prog) (w := wd) (base := base) R3 GKN m19 E19
  have K3 : FnR l.prog wd K mg base (_root_.L2.CX l.prog wd) 5 p3 (spBrake K C0 C1) := (fnR_of H3 b3' .nil).imp fun vs H Q E h => by rw [List.append_nil]; exact h
  have H4 := ok_Rat (P := l.prog) (w := wd) (base := base) R4 T2 GKN m19 E19
  have H5 := ok_Free (P := l.prog) (w := wd) (base := base) R5 GKN m19 E19
  have K5 : FnR l.prog wd K mg base (_root_.L2.CX l.prog wd) 5 p5 (spFree K C0 C1) := (fnR_of H5 b5' .nil).imp fun vs H Q E h => by rw [List.append_nil]; exact h
  have GKi := ok_kind (P := l.prog) (w := wd) (base := base) J11 T7 yisinstance
  have GCa := ok_caught (P := l.prog) (w := wd) (base := base) J12 T7 (PySem.W.mg_of X G aH) yint te0 te1 te2 GKi m11 E11 b11 q0 K0 q1 K1 q2 K2 q3 K3 q4 H4 b4' pb4 q5 K5
  exact ok_law (P := l.prog) (wd := wd) (base := base) J14 GP m1 E1 b1 GT m2 E2 b2 GS m5 E5 b5 GO m7 E7 b7 GNa m4 E4 b4 GCa m12 E12 b12 GLD m13 E13 b13 GA m9 E9 b9 yrange ylen
end Paw

open PySem PySem.W PyProof.Rows in
set_option maxRecDepth 100000 in
set_option maxHeartbeats 0 in
theorem PySem.Challenge.cw_pawlhall_k03_parts_refused_holds : PySem.Challenge.rw_pawlhall_k03_parts_refused.Holds := by
  w_on; o_law; k_head; (case hw => w_witness2)
  k_fill
  refine Paw.walkG (l := PySem.Challenge.rw_pawlhall_k03_parts_refused) (n := 63) (k := 9) (CX := fun _ => L2.CX0) (sp := Paw.spLaw) (x := "script") rfl (by decide) rfl ⟨rfl, by decide, by decide⟩ (by decide +kernel) (fun w h Y => PySem.W.kIn_of Y) ?F (fun K H a ns _ _ hS => ⟨a, ns, rfl, hS, fun _ => rfl⟩) (fun _ _ _ _ _ z => z)
  case F =>
    intro w mg fa h KX G hmg
    refine' Paw.all_mk KX G hmg ?cg ?ct ?aH ?iH ?tH ?bH ?aC0 ?nn0 ?aC1 ?nn1 ?aC2 ?nn2 ?aC3 ?nn3 ?aC4 ?nn4 ?aC5 ?nn5 ?aC6 ?nn6 ?x0 ?sa0 ?ga0 ?gg0 ?kC0 ?tC0 ?ca0 ?no0 ?i0 ?t0 ?l0 ?c0 ?k0 ?sH0 ?x1 ?sa1 ?ga1 ?gg1 ?kC1 ?tC1 ?ca1 ?no1 ?i1 ?t1 ?l1 ?c1 ?k1 ?sH1 ?x2 ?sa2 ?ga2 ?gg2 ?kC2 ?tC2 ?ca2 ?no2 ?i2 ?t2 ?l2 ?c2 ?k2 ?sH2 ?qNN ?qTN ?qTT ?qEN ?qET ?qEE ?pa0 ?pm0 ?pi0 ?pf0 ?pk0 ?pg0 ?ph0 ?po0 ?ps0 ?pn0 ?pt0 ?pl0 ?pc0 ?pe0 ?pd0 ?pa1 ?pm1 ?pi1 ?pf1 ?pk1 ?pg1 ?ph1 ?po1 ?ps1 ?pn1 ?pt1 ?pl1 ?pc1 ?pe1 ?pd1 ?pa2 ?pm2 ?pi2 ?pf2 ?pk2 ?pg2 ?ph2 ?po2 ?ps2 ?pn2 ?pt2 ?pl2 ?pc2 ?pe2 ?pd2 ?pa3 ?pm3 ?pi3 ?pf3 ?pk3 ?pg3 ?ph3 ?po3 ?ps3 ?pn3 ?pt3 ?pl3 ?pc3 ?pe3 ?pa4 ?pm4 ?pi4 ?pf4 ?pk4 ?pg4 ?ph4 ?po4 ?ps4 ?pn4 ?pt4 ?pl4 ?pc4 ?pe4 ?pd4 ?pa5 ?pm5 ?pi5 ?pf5 ?pk5 ?pg5 ?ph5 ?po5 ?ps5 ?pn5 ?pt5 ?pl5 ?pc5 ?pe5 ?pb4 ?mt ?mr ?mg_ ?mf ?A0 ?L0 ?D0 ?E0 ?A1 ?L1 ?D1 ?E1 ?A2 ?L2 ?D2 ?E2 ?A3 ?L3 ?D3 ?E3 ?A4 ?L4 ?D4 ?E4 ?A5 ?L5 ?D5 ?E5 ?A6 ?L6 ?D6 ?E6 ?A7 ?L7 ?D7 ?E7 ?A8 ?L8 ?D8 ?E8 ?A9 ?L9 ?D9 ?E9 ?A10 ?L10 ?D10 ?E10 ?A11 ?L11 ?D11 ?E11 ?A12 ?L12 ?D12 ?E12 ?A13 ?L13 ?D13 ?E13 ?A14 ?L14 ?D14 ?E14 ?A15 ?L15 ?D15 ?E15 ?A16 ?L16 ?D16 ?E16 ?A17 ?L17 ?D17 ?E17 ?A18 ?L18 ?D18 ?E18 ?A19 ?L19 ?D19 ?E19 ?A20 ?L20 ?D20 ?E20 ?zint ?zlen ?zabs ?zrepr ?zisinstance ?zenumerate ?zrange ?zbool ?ztuple ?zstr ?zall
    (case cg => k_is)
    (case ct => k_is)
    (case aH => k_is)
    (case iH => k_is)
    (case tH => k_is)
    (case bH => k_is)
    (case aC0 => k_is)
    (case nn0 => kit_is)
    (case aC1 => k_is)
    (case nn1 => kit_is)
    (case aC2 => k_is)
    (case nn2 => kit_is)
    (case aC3 => k_is)
    (case nn3 => kit_is)
    (case aC4 => k_is)
    (case nn4 => kit_is)
    (case aC5 => k_is)
    (case nn5 => kit_is)
    (case aC6 => k_is)
    (case nn6 => kit_is)
    (case x0 => k_is)
    (case sa0 => k_is)
    (case ga0 => k_is)
    (case gg0 => k_is)
    (case kC0 => k_is)
    (case tC0 => k_is)
    (case ca0 => k_is)
    (case no0 => k_is)
    (case i0 => k_is)
    (case t0 => k_is)
    (case l0 => k_is)
    (case c0 => k_is)
    (case k0 => k_is)
    (case sH0 => k_is)
    (case x1 => k_is)
    (case sa1 => k_is)
    (case ga1 => k_is)
    (case gg1 => k_is)
    (case kC1 => k_is)
    (case tC1 => k_is)
    (case ca1 => k_is)
    (case no1 => k_is)
    (case i1 => k_is)
    (case t1 => k_is)
    (case l1 => k_is)
    (case c1 => k_is)
    (case k1 => k_is)
    (case sH1 => k_is)
    (case x2 => k_is)
    (case sa2 => k_is)
    (case ga2 => k_is)
    (case gg2 => k_is)
    (case kC2 => k_is)
    (case tC2 => k_is)
    (case ca2 => k_is)
    (case no2 => k_is)
    (case i2 => k_is)
    (case t2 => k_is)
    (case l2 => k_is)
    (case c2 => k_is)
    (case k2 => k_is)
    (case sH2 => k_is)
    (case qNN => kit_is)
    (case qTN => kit_is)
    (case qTT => kit_is)
    (case qEN => kit_is)
    (case qET => kit_is)
    (case qEE => kit_is)
    (case pa0 => k_is)
    (case pm0 => k_is)
    (case pi0 => k_is)
    (case pf0 => k_is)
    (case pk0 => k_is)
    (case pg0 => k_is)
    (case ph0 => k_is)
    (case po0 => k_is)
    (case ps0 => k_is)
    (case pn0 => k_is)
    (case pt0 => k_is)
    (case pl0 => k_is)
    (case pc0 => k_is)
    (case pe0 => k_is)
    (case pd0 => k_is)
    (case pa1 => k_is)
    (case pm1 => k_is)
    (case pi1 => k_is)
    (case pf1 => k_is)
    (case pk1 => k_is)
    (case pg1 => k_is)
    (case ph1 => k_is)
    (case po1 => k_is)
    (case ps1 => k_is)
    (case pn1 => k_is)
    (case pt1 => k_is)
    (case pl1 => k_is)
    (case pc1 => k_is)
    (case pe1 => k_is)
    (case pd1 => k_is)
    (case pa2 => k_is)
    (case pm2 => k_is)
    (case pi2 => k_is)
    (case pf2 => k_is)
    (case pk2 => k_is)
    (case pg2 => k_is)
    (case ph2 => k_is)
    (case po2 => k_is)
    (case ps2 => k_is)
    (case pn2 => k_is)
    (case pt2 => k_is)
    (case pl2 => k_is)
    (case pc2 => k_is)
    (case pe2 => k_is)
    (case pd2 => k_is)
    (case pa3 => k_is)
    (case pm3 => k_is)
    (case pi3 => k_is)
    (case pf3 => k_is)
    (case pk3 => k_is)
    (case pg3 => k_is)
    (case ph3 => k_is)
    (case po3 => k_is)
    (case ps3 => k_is)
    (case pn3 => k_is)
    (case pt3 => k_is)
    (case pl3 => k_is)
    (case pc3 => k_is)
    (case pe3 => k_is)
    (case pa4 => k_is)
    (case pm4 => k_is)
    (case pi4 => k_is)
    (case pf4 => k_is)
    (case pk4 => k_is)
    (case pg4 => k_is)
    (case ph4 => k_is)
    (case po4 => k_is)
    (case ps4 => k_is)
    (case pn4 => k_is)
    (case pt4 => k_is)
    (case pl4 => k_is)
    (case pc4 => k_is)
    (case pe4 => k_is)
    (case pd4 => k_is)
    (case pa5 => k_is)
    (case pm5 => k_is)
    (case pi5 => k_is)
    (case pf5 => k_is)
    (case pk5 => k_is)
    (case pg5 => k_is)
    (case ph5 => k_is)
    (case po5 => k_is)
    (case ps5 => k_is)
    (case pn5 => k_is)
    (case pt5 => k_is)
    (case pl5 => k_is)
    (case pc5 => k_is)
    (case pe5 => k_is)
    (case pb4 => k_is)
    (case mt => k_is)
    (case mr => k_is)
    (case mg_ => k_is)
    (case mf => k_is)
    (case A0 => k_is)
    (case L0 => k_is)
    (case D0 => k_is)
    (case E0 => k_is)
    (case A1 => k_is)
    (case L1 => k_is)
    (case D1 => k_is)
    (case E1 => k_is)
    (case A2 => k_is)
    (case L2 => k_is)
    (case D2 => k_is)
    (case E2 => k_is)
    (case A3 => k_is)
    (case L3 => k_is)
    (case D3 => k_is)
    (case E3 => k_is)
    (case A4 => k_is)
    (case L4 => k_is)
    (case D4 => k_is)
    (case E4 => k_is)
    (case A5 => k_is)
    (case L5 => k_is)
    (case D5 => k_is)
    (case E5 => k_is)
    (case A6 => k_is)
    (case L6 => k_is)
    (case D6 => k_is)
    (case E6 => k_is)
    (case A7 => k_is)
    (case L7 => k_is)
    (case D7 => k_is)
    (case E7 => k_is)
    (case A8 => k_is)
    (case L8 => k_is)
    (case D8 => k_is)
    (case E8 => k_is)
    (case A9 => k_is)
    (case L9 => k_is)
    (case D9 => k_is)
    (case E9 => k_is)
    (case A10 => k_is)
    (case L10 => k_is)
    (case D10 => k_is)
    (case E10 => k_is)
    (case A11 => k_is)
    (case L11 => k_is)
    (case D11 => k_is)
    (case E11 => k_is)
    (case A12 => k_is)
    (case L12 => k_is)
    (case D12 => k_is)
    (case E12 => k_is)
    (case A13 => k_is)
    (case L13 => k_is)
    (case D13 => k_is)
    (case E13 => k_is)
    (case A14 => k_is)
    (case L14 => k_is)
    (case D14 => k_is)
    (case E14 => k_is)
    (case A15 => k_is)
    (case L15 => k_is)
    (case D15 => k_is)
    (case E15 => k_is)
    (case A16 => k_is)
    (case L16 => k_is)
    (case D16 => k_is)
    (case E16 => k_is)
    (case A17 => k_is)
    (case L17 => k_is)
    (case D17 => k_is)
    (case E17 => k_is)
    (case A18 => k_is)
    (case L18 => k_is)
    (case D18 => k_is)
    (case E18 => k_is)
    (case A19 => k_is)
    (case L19 => k_is)
    (case D19 => k_is)
    (case E19 => k_is)
    (case A20 => k_is)
    (case L20 => k_is)
    (case D20 => k_is)
    (case E20 => k_is)
    (case zint => k_is)
    (case zlen => k_is)
    (case zabs => k_is)
    (case zrepr => k_is)
    (case zisinstance => k_is)
    (case zenumerate => k_is)
    (case zrange => k_is)
    (case zbool => k_is)
    (case ztuple => k_is)
    (case zstr => k_is)
    (case zall => k_is)
